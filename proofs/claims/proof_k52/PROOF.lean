import PyProof.Rows.All
import Wide.All
import OpenK.AllK
import Wide.FinOn
import HandS.ForMost
import HandS.ForExc
import HandS.TryMany
import HandS.ExcInit
import HandS.ExcField
import HandS.ExcIs
import HandS.IsInst
import KE.KExcIs
import KE.KOpsOwn
import HandS.OwnEq
import HandS.Wide
import HandS.Gcd
import HandS.TupMul
import HandS.Zip
import HandS.Defaults
import HandS.Walk
import HandS.ClsMeth
import HandS.Codes
import PyProof.StrOps2
import PyProof.ReprRoads
import HandS.HotCalls
import HandS.Iter
import KE.KOwnIter
import KE.KDictIter
import HandS.Conv
import HandS.Dict
import HandS.List
import HandS.ListEq
import KE.KEqDict
import HandS.TupLen
import KE.GoesEnum
import KE.GoesMore
import KE.KAssignIn
import HandS.Star
import HandS.Ends
import HandS.DictComp
import HandS.NoneIn
import HandS.HeadHook3
import HandS.SuiteRaise
import HandS.RaiseFrom
import HandS.ExcInitHot
import KE.KAsSuite
import PySem.Challenge.RW_ellwarden_k52_card_text
import KE.IntTextLaws
import HandS.StrMore
import HandS.FStr
import PyProof.StrLawsAffix
import HandS.RaiseOp
import HandS.ReplaceLit
import HandS.TupAny
import KE.SortData
import HandS.SortRule
import HandS.Deep
import KE.IntTextText
set_option Elab.async false
namespace K52
/-! ### tables of bounds -/
abbrev Tb2 := Nat → Nat → Int
structure Cld (n : Nat) (f : Tb2) : Prop where
  z : ∀ a, a < n → f a a = 0
  t : ∀ a b c, a < n → b < n → c < n → f a c ≤ f a b + f b c
def Le (n : Nat) (f g : Tb2) : Prop := ∀ a b, a < n → b < n → f a b ≤ g a b
theorem Le.refl {n : Nat} {f : Tb2} : Le n f f := fun _ _ _ _ => Int.le_refl _
theorem Le.trans {n : Nat} {f g h : Tb2} (p : Le n f g) (q : Le n g h) : Le n f h := fun a b ha hb => Int.le_trans (p a b ha hb) (q a b ha hb)
/-- by way of m -/
def via (m : Nat) (f : Tb2) : Tb2 := fun a b => if f a m + f m b < f a b then f a m + f m b else f a b
def fw : Nat → Tb2 → Tb2
  | 0, f => f
  | m + 1, f => via m (fw m f)
theorem via_le {n m : Nat} {f : Tb2} : Le n (via m f) f := fun a b _ _ => by
  unfold via
  split <;> omega
theorem fw_le {n : Nat} {f : Tb2} : ∀ m, Le n (fw m f) f
  | 0 => .refl
  | m + 1 => via_le.trans (fw_le m)
theorem fw_down {n : Nat} {f : Tb2} {k m : Nat} (h : k ≤ m) : Le n (fw m f) (fw k f) := by
  induction h with
  | refl => exact .refl
  | step _ ih => exact via_le.trans ih
theorem fw_ge {n : Nat} {f c : Tb2} (hc : Cld n c) (h : Le n c f) : ∀ m, m ≤ n → Le n c (fw m f)
  | 0, _ => h
  | m + 1, hm => fun a b ha hb => by
    have ih := fw_ge hc h m (by omega)
    have h1 := ih a b ha hb
    have h2 := ih a m ha (by omega)
    have h3 := ih m b (by omega) hb
    have h4 := hc.t a m b ha (by omega) hb
    show c a b ≤ via m (fw m f) a b
    unfold via
    split <;> omega
theorem fw_inv {n : Nat} {f : Tb2} (hd : ∀ a, a < n → 0 ≤ fw n f a a) : ∀ m, m ≤ n → ∀ a b k, a < n → b < n → k < m → fw m f a b ≤ fw m f a k + fw m f k b
  | 0, _, _, _, _, _, _, hk => absurd hk (Nat.not_lt_zero _)
  | m + 1, hm, a, b, k, ha, hb, hk => by
    have ih := fw_inv hd m (by omega)
    have dm : 0 ≤ fw m f m m := Int.le_trans (hd m (by omega)) (fw_down (n := n) (by omega : m ≤ n) m m (by omega) (by omega))
    show via m (fw m f) a b ≤ via m (fw m f) a k + via m (fw m f) k b
    generalize fw m f = g at ih dm ⊢
    by_cases e : k = m
    · subst e
      unfold via
      repeat' split
      all_goals omega
    · have km : k < m := by omega
      have i1 := ih a b k ha hb km
      have i2 := ih m b k (by omega) hb km
      have i3 := ih a m k ha (by omega) km
      have i4 := ih m m k (by omega) (by omega) km
      unfold via
      repeat' split
      all_goals omega
theorem fw_cld {n : Nat} {f : Tb2} (h0 : ∀ a, a < n → f a a ≤ 0) (hd : ∀ a, a < n → 0 ≤ fw n f a a) : Cld n (fw n f) :=
  ⟨fun a ha => by have := hd a ha; have := fw_le (n := n) (f := f) n a a ha ha; have := h0 a ha; omega, fun a b c ha hb hc => fw_inv hd n (Nat.le_refl _) a c b ha hc hb⟩
/-- one bound more -/
def low (f : Tb2) (s g : Nat) (w : Int) : Tb2 := fun a b => if f a b ≤ f a s + (w + f g b) then f a b else f a s + (w + f g b)
theorem low_cld {n s g : Nat} {f : Tb2} {w : Int} (h : Cld n f) (hs : s < n) (hg : g < n) (hw : 0 ≤ f g s + w) : Cld n (low f s g w) := by
  refine ⟨fun a ha => ?_, fun a b c ha hb hc => ?_⟩
  · have h1 := h.z a ha
    have h2 := h.t g a s hg ha hs
    unfold low
    split <;> omega
  · have h1 := h.t a b c ha hb hc
    have h2 := h.t g b c hg hb hc
    have h3 := h.t a b s ha hb hs
    have h4 := h.t g b s hg hb hs
    unfold low
    repeat' split
    all_goals omega
theorem low_le {n s g : Nat} {f : Tb2} {w : Int} : Le n (low f s g w) f := fun a b _ _ => by
  unfold low
  split <;> omega
theorem low_at {n s g : Nat} {f : Tb2} {w : Int} (h : Cld n f) (hs : s < n) (hg : g < n) : low f s g w s g ≤ w := by
  have h1 := h.z s hs
  have h2 := h.z g hg
  unfold low
  split <;> omega
theorem low_max {n s g : Nat} {f c : Tb2} {w : Int} (hc : Cld n c) (h : Le n c f) (hs : s < n) (hg : g < n) (hw : c s g ≤ w) : Le n c (low f s g w) := fun a b ha hb => by
  have h1 := h a b ha hb
  have h2 := h a s ha hs
  have h3 := h g b hg hb
  have h4 := hc.t a s b ha hs hb
  have h5 := hc.t s g b hs hg hb
  unfold low
  split <;> omega
def put (f : Tb2) (s g : Nat) (w : Int) : Tb2 := fun a b => if a = s ∧ b = g then (if f s g < w then f s g else w) else f a b
theorem put_le {n s g : Nat} {f : Tb2} {w : Int} : Le n (put f s g w) f := fun a b _ _ => by
  unfold put
  by_cases h : a = s ∧ b = g
  · rw [if_pos h, h.1, h.2]
    split <;> omega
  · rw [if_neg h]
    exact Int.le_refl _
theorem put_at {s g : Nat} {f : Tb2} {w : Int} : put f s g w s g ≤ w := by
  unfold put
  rw [if_pos ⟨rfl, rfl⟩]
  split <;> omega
theorem put_ge {n s g : Nat} {f c : Tb2} {w : Int} (h : Le n c f) (hw : c s g ≤ w) : Le n c (put f s g w) := fun a b ha hb => by
  have h1 := h a b ha hb
  unfold put
  by_cases q : a = s ∧ b = g
  · rw [if_pos q]
    obtain ⟨rfl, rfl⟩ := q
    split <;> omega
  · rw [if_neg q]
    exact h1
theorem put_diag {n s g : Nat} {f : Tb2} {w : Int} (h : ∀ a, a < n → f a a ≤ 0) : ∀ a, a < n → put f s g w a a ≤ 0 := fun a ha => by
  have := h a ha
  have := put_le (n := n) (s := s) (g := g) (f := f) (w := w) a a ha ha
  omega
/-- what the law closes is what the card tells -/
theorem fw_put {n s g : Nat} {f : Tb2} {w : Int} (h : Cld n f) (hs : s < n) (hg : g < n) (hw : 0 ≤ f g s + w) : ∀ a b, a < n → b < n → fw n (put f s g w) a b = low f s g w a b := by
  have lc := low_cld h hs hg hw
  have ge := fw_ge lc (put_ge (low_le (f := f)) (low_at h hs hg)) n (Nat.le_refl _)
  have fc : Cld n (fw n (put f s g w)) := fw_cld (put_diag fun a ha => Int.le_of_eq (h.z a ha)) fun a ha => by
    have := ge a a ha ha
    have := lc.z a ha
    omega
  have le := low_max fc ((fw_le n).trans put_le) hs hg (Int.le_trans (fw_le n s g hs hg) put_at)
  intro a b ha hb
  exact Int.le_antisymm (le a b ha hb) (ge a b ha hb)
/-! ### rows of links -/
abbrev Lk := Nat × Nat × Int
def putAll (f : Tb2) : List Lk → Tb2
  | [] => f
  | l :: ls => putAll (put f l.1 l.2.1 l.2.2) ls
structure Lks (n : Nat) (ls : List Lk) : Prop where
  a : ∀ l ∈ ls, l.1 < n
  b : ∀ l ∈ ls, l.2.1 < n
theorem putAll_le {n : Nat} : ∀ (ls : List Lk) (f : Tb2), Le n (putAll f ls) f
  | [], _ => .refl
  | _ :: ls, _ => (putAll_le ls _).trans put_le
theorem putAll_at {n : Nat} : ∀ (ls : List Lk) (f : Tb2), Lks n ls → ∀ l ∈ ls, putAll f ls l.1 l.2.1 ≤ l.2.2
  | l :: ls, f, h, m, hm => by
    rcases List.mem_cons.mp hm with rfl | hm
    · exact Int.le_trans (putAll_le (n := n) ls _ _ _ (h.a m List.mem_cons_self) (h.b m List.mem_cons_self)) put_at
    · exact putAll_at ls _ ⟨fun x hx => h.a x (List.mem_cons_of_mem _ hx), fun x hx => h.b x (List.mem_cons_of_mem _ hx)⟩ m hm
theorem putAll_ge {n : Nat} {c : Tb2} : ∀ (ls : List Lk) (f : Tb2), Le n c f → (∀ l ∈ ls, c l.1 l.2.1 ≤ l.2.2) → Le n c (putAll f ls)
  | [], _, h, _ => h
  | l :: ls, _, h, k => putAll_ge ls _ (put_ge h (k l List.mem_cons_self)) fun x hx => k x (List.mem_cons_of_mem _ hx)
theorem putAll_diag {n : Nat} {ls : List Lk} {f : Tb2} (h : ∀ a, a < n → f a a ≤ 0) : ∀ a, a < n → putAll f ls a a ≤ 0 := fun a ha => Int.le_trans (putAll_le (n := n) ls f a a ha ha) (h a ha)
/-- g: the greatest closed table below f that keeps the links -/
structure Mx (n : Nat) (f : Tb2) (ls : List Lk) (g : Tb2) : Prop where
  c : Cld n g
  le : Le n g f
  at_ : ∀ l ∈ ls, g l.1 l.2.1 ≤ l.2.2
  mx : ∀ c, Cld n c → Le n c f → (∀ l ∈ ls, c l.1 l.2.1 ≤ l.2.2) → Le n c g
theorem Mx.nil {n : Nat} {f : Tb2} (h : Cld n f) : Mx n f [] f := ⟨h, .refl, fun _ z => (nomatch z), fun _ _ h _ => h⟩
theorem Mx.snoc {n : Nat} {f g : Tb2} {ls : List Lk} {l : Lk} (h : Mx n f ls g) (ha : l.1 < n) (hb : l.2.1 < n) (hl : Lks n ls) (hw : 0 ≤ g l.2.1 l.1 + l.2.2) : Mx n f (ls ++ [l]) (low g l.1 l.2.1 l.2.2) := by
  refine ⟨low_cld h.c ha hb hw, low_le.trans h.le, fun x hx => ?_, fun c hc hcf hcl => ?_⟩
  · rcases List.mem_append.mp hx with hx | hx
    · exact Int.le_trans (low_le (n := n) _ _ (hl.a x hx) (hl.b x hx)) (h.at_ x hx)
    · rw [List.mem_singleton] at hx
      subst hx
      exact low_at h.c ha hb
  · exact low_max hc (h.mx c hc hcf fun x hx => hcl x (List.mem_append_left _ hx)) ha hb (hcl l (List.mem_append_right _ List.mem_cons_self))
theorem Mx.perm {n : Nat} {f g : Tb2} {ls ms : List Lk} (h : Mx n f ls g) (p : ∀ l, l ∈ ls ↔ l ∈ ms) : Mx n f ms g := ⟨h.c, h.le, fun l hl => h.at_ l ((p l).mpr hl), fun c h1 h2 h3 => h.mx c h1 h2 fun l hl => h3 l ((p l).mp hl)⟩
/-- all links, closed: the same table -/
theorem Mx.all {n : Nat} {f g : Tb2} {ls : List Lk} (hf : Cld n f) (h : Mx n f ls g) (hl : Lks n ls) : ∀ a b, a < n → b < n → fw n (putAll f ls) a b = g a b := by
  have ge := fw_ge h.c (putAll_ge ls f h.le h.at_) n (Nat.le_refl _)
  have fc : Cld n (K52.fw n (putAll f ls)) := fw_cld (putAll_diag fun a ha => Int.le_of_eq (hf.z a ha)) fun a ha => by
    have := ge a a ha ha
    have := h.c.z a ha
    omega
  have le := h.mx _ fc ((fw_le n).trans (putAll_le ls f)) fun l hm => Int.le_trans (fw_le n _ _ (hl.a l hm) (hl.b l hm)) (putAll_at ls f hl l hm)
  intro a b ha hb
  exact Int.le_antisymm (le a b ha hb) (ge a b ha hb)
/-- a link that clashes: no closed table keeps them all -/
theorem Mx.no {n : Nat} {f g : Tb2} {ls ms : List Lk} {l : Lk} (hf : Cld n f) (h : Mx n f ls g) (ha : l.1 < n) (hb : l.2.1 < n) (hw : g l.2.1 l.1 + l.2.2 < 0) (hl : Lks n ms) (hm : ∀ x ∈ ls, x ∈ ms) (hl2 : l ∈ ms) : ∃ a, a < n ∧ fw n (putAll f ms) a a < 0 := by
  refine Classical.byContradiction fun no => ?_
  have hd : ∀ a, a < n → 0 ≤ K52.fw n (putAll f ms) a a := fun a ha => Int.not_lt.mp fun z => no ⟨a, ha, z⟩
  have fc := fw_cld (putAll_diag fun a ha => Int.le_of_eq (hf.z a ha)) hd
  have at_ : ∀ x ∈ ms, K52.fw n (putAll f ms) x.1 x.2.1 ≤ x.2.2 := fun x hx => Int.le_trans (fw_le n _ _ (hl.a x hx) (hl.b x hx)) (putAll_at ms f hl x hx)
  have le := h.mx _ fc ((fw_le n).trans (putAll_le ms f)) fun x hx => at_ x (hm x hx)
  have h1 := le l.2.1 l.1 hb ha
  have h2 := at_ l hl2
  have h3 := fc.t l.2.1 l.1 l.2.1 hb ha hb
  have h4 := fc.z l.2.1 hb
  omega
end K52

set_option Elab.async false
set_option linter.all false
set_option maxRecDepth 100000
set_option maxHeartbeats 4000000
/-! a try with several clauses, each with a name or without -/
namespace Ew
open PySem PySem.Spec PyProof.Rows L2
/-- one clause: what it names, the slot of its name, what its suite asks -/
abbrev Cl1 := Value × Option Nat × (Addr → Value → Option Addr → TS)
/-- behind a suite the slot of its name is empty -/
def Emp : Option Nat → Ends → Ends
  | none, D => D
  | some i, D => ⟨fun t G => D.nx (t.set i none) G, D.rt, fun t G => D.bk (t.set i none) G, fun t G => D.ct (t.set i none) G⟩
def bindAt : Option Nat → Addr → L2.St → L2.St
  | none, _, σ => σ
  | some i, a, σ => σ.set i (some (.ref a))
def wN (K : PySem.W.Frag) (Wo : WX) (D : Ends) : List Cl1 → WX
  | [] => Wo
  | (c, i, ts) :: r => fun cls d σ H => ∃ b, PySem.W.exmOne K cls c = some b ∧ (b = true → ∀ a, H a = none → ts a cls d (Emp i D) (bindAt i a σ) H) ∧ (b = false → wN K Wo D r cls d σ H)
/-- a suite keeps its reading whatever exception it holds -/
def SuiteOk (X : Cx) (sts : List Stmt) (ts : Addr → Value → Option Addr → TS) : Prop := ∀ a oe cls d pn, Zc cls d oe → (∃ vs, oe.data = .fields vs) → PSs (X.suite a ((a, oe) :: pn)) sts (ts a cls d)
inductive HdsN (X : Cx) : List ExceptHandler → List Cl1 → Prop
  | nil : HdsN X [] []
  | pl {x : Str} {c : Value} {ts b sts p q hs l} : Names X x c → SuiteOk X (b :: sts) ts → HdsN X hs l → HdsN X (.ExceptHandler (some (.Name x p)) none (b :: sts) q :: hs) ((c, none, ts) :: l)
  | nm {x n : Str} {i : Nat} {c : Value} {ts b sts p q hs l} : X.N[i]? = some n → X.env.kindOf n = some .local → Names X x c → SuiteOk X (b :: sts) ts → HdsN X hs l → HdsN X (.ExceptHandler (some (.Name x p)) (some n) (b :: sts) q :: hs) ((c, some i, ts) :: l)
section
variable {X : Cx} {pins : List (Addr × Obj)} {σ : L2.St} {H : Hp} {a : Addr} {cls : Value} {d : Option Addr} {D : Ends} {s : Shared} {Wo : WX}
/-- an exception lies at a, looked at by the frame's own handlers -/
structure Caught (X : Cx) (pins : List (Addr × Obj)) (σ : L2.St) (H : Hp) (a : Addr) (cls : Value) (d : Option Addr) (s : Shared) : Prop where
  ok : X.Ok
  st : X.stack = X.env :: X.outer
  fr : X.env.frame = some X.env.locals
  free : H a = none
  rest : ∃ B sI, Inv X pins σ H sI ∧ (∀ b o, sI.heap.get? b = some o → b ∉ frs X.stack → B.get? b = some o) ∧ sI.heap.UpToSlots s.heap ∧ s.os = sI.os ∧ AllBare s.gens ∧ HandSPX.FlyingZ B (X.env :: X.outer) a (Zc cls d) s.heap
theorem Caught.inv (c : Caught X pins σ H a cls d s) : Inv X pins σ H s := by
  obtain ⟨B, sI, J, nb, up, os, ag, fl⟩ := c.rest
  obtain ⟨hp, g, dr, t, o⟩ := s
  exact J.landed nb fl.1 up os ag
theorem Caught.off (c : Caught X pins σ H a cls d s) : a ∉ frs (X.env :: X.outer) := fun hm => by
  obtain ⟨B, sI, J, nb, up, os, ag, fl⟩ := c.rest
  obtain ⟨o, vs, e, z, q⟩ := fl.there
  obtain ⟨_, o', e', w⟩ := fl.2.2.1.mem hm
  obtain rfl := Option.some.inj (e.symm.trans e')
  exact w _ q
theorem Caught.held (c : Caught X pins σ H a cls d s) : ∃ oe, s.heap.get? a = some oe ∧ Zc cls d oe ∧ (∃ vs, oe.data = .fields vs) ∧ Inv (X.suite a ((a, oe) :: (X.pn ++ pins))) [] σ H s := by
  obtain ⟨B, sI, J, nb, up, os, ag, fl⟩ := id c.rest
  obtain ⟨oe, vs, e, z, q⟩ := fl.there
  refine ⟨oe, e, z, ⟨vs, q⟩, c.inv.suite e q c.free (fun h => c.off ?_) fun h => c.off ?_⟩
  · exact List.mem_filterMap.mpr ⟨_, List.mem_cons_self, c.fr.trans (congrArg some h.symm)⟩
  · obtain ⟨y, hy, w⟩ := List.mem_filterMap.mp h
    exact List.mem_filterMap.mpr ⟨y, List.mem_cons_of_mem _ hy, w⟩
/-- the clause's class is looked at -/
theorem Caught.asks (c : Caught X pins σ H a cls d s) {x : Str} {p : Pos} {v : Value} (n : Names X x v) {Q E : Value → Shared → Prop} (q : Q v s) :
    wpAny (model X.prog X.w) (X.A.mark (some (.ref a))) (eval (.Name x p) X.env) Q E s := by
  obtain ⟨oe, _, _, _, S⟩ := c.held
  obtain ⟨g, db, m | ⟨m, v', nn⟩⟩ := n
  · exact ld_glob (X := X.suite a ((a, oe) :: (X.pn ++ pins))) S g m q db
  · exact ld_blt (X := X.suite a ((a, oe) :: (X.pn ++ pins))) S g m v' q nn db
theorem Caught.judged (c : Caught X pins σ H a cls d s) {v : Value} {b : Bool} (h : PySem.W.exmOne X.K cls v = some b) : PySem.W.Looks (model X.prog X.w) s.heap (excMatches (.ref a) v) b := by
  obtain ⟨oe, e, z, _, _⟩ := c.held
  exact PySem.W.exm_one c.inv.kIn (fun _ _ _ _ k q => wpAny_typeOf_ref (k _ _ e) (z.1.symm ▸ q)) h
/-- what behind the suite is left of an end -/
theorem Caught.done (c : Caught X pins σ H a cls d s) {oe : Obj} {i : Option Nat} {f : Flow} {s' : Shared} (hN : X.N.Nodup) {n : Str} (hn : ∀ j, i = some j → X.N[j]? = some n ∧ X.env.kindOf n = some .local)
    (h : SP (X.suite a ((a, oe) :: (X.pn ++ pins))) [] (Emp i D) f s') {p : Pos} :
    (i = none → SP X pins D f s') ∧ (i ≠ none → wpAny (model X.prog X.w) X.A (do bindName X.env n .none; unbindBehindTheSuite X.env n p) (fun _ s7 => SP X pins D f s7) X.xe s') := by
  cases i with
  | none =>
    refine ⟨fun _ => ?_, fun z => absurd rfl z⟩
    cases f <;> first
      | (obtain ⟨σ6, H6, S, q⟩ := h; exact ⟨σ6, H6, S.unsuite c.ok, q⟩)
      | (obtain ⟨v, σ6, H6, S, r, q⟩ := h; exact ⟨v, σ6, H6, S.unsuite c.ok, r, q⟩)
  | some j =>
    obtain ⟨hj, hk⟩ := hn j rfl
    refine ⟨fun z => (nomatch z), fun _ => ?_⟩
    cases f <;> first
      | (obtain ⟨σ6, H6, S, q⟩ := h; exact gone_ok (S.unsuite c.ok) hN hj hk fun s7 J => ⟨_, _, J, q⟩)
      | (obtain ⟨v, σ6, H6, S, r, q⟩ := h; exact gone_ok (S.unsuite c.ok) hN hj hk fun s7 J => ⟨_, _, _, J, r, q⟩)
/-- the clauses, one after the other -/
theorem Caught.handled {pos : Pos} (hN : X.N.Nodup) (tk : Takes X Wo) : ∀ {hs : List ExceptHandler} {l : List Cl1}, HdsN X hs l → ∀ {s : Shared}, Caught X pins σ H a cls d s → wN X.K Wo D l cls d σ H →
    wpAny (model X.prog X.w) X.A (handleBy (.ref a) X.env hs) (SP X pins D) X.xe s
  | _, _, .nil, s, c, w => by
    obtain ⟨B, sI, J, nb, up, os, ag, fl⟩ := id c.rest
    obtain ⟨_, _, _, oe, vs, T, oT, ts', he, hz, hd, h1, hr⟩ := id fl
    refine wpAny_handleBy_nil ?_
    have up2 : wpAny (model X.prog X.w) X.A (setFlight (.ref a) X.env.frame) (fun _ s4 => wpAny (model X.prog X.w) X.A (throw (.ref a) : Sem Flow) (SP X pins D) X.xe s4) X.xe s := by
      obtain ⟨hp, g, dr, t, o⟩ := s
      rw [c.fr]
      refine HandSPX.setFlight_upZ fl fun h4 hh4 u4 => wpAny_throw (tk _ _ ⟨a, B, sI, pins, σ, H, cls, d, rfl, J, nb, up.trans u4, .inr (.inr ?_), c.free, os, ag, w⟩)
      rw [c.st]
      exact hh4
    unfold PySem.passOn
    refine wpAny_bind (wpAny_field he hd h1 ?_)
    rw [if_neg (fun z => by simp at z)]
    first
      | exact wpAny_bind (wpAny_pure (wpAny_bind up2))
      | exact wpAny_bind up2
  | _, _, .pl hc hsu r, s, c, w => by
    obtain ⟨b, e, yes, no⟩ := w
    refine wpAny_handleBy_cons (codeAny_handlers_test (c.asks hc ((c.judged e).here ?_))) (fun q => nomatch q)
    cases b with
    | false => exact Caught.handled (pos := pos) hN tk r c (no rfl)
    | true =>
      refine codeAny_handlers_suite ?_
      obtain ⟨B, sI, J, nb, up, os, ag, fl⟩ := id c.rest
      obtain ⟨hp, g, dr, t, o⟩ := s
      refine HandSPX.lands_againZ fl fun h4 fl4 u4 => ?_
      have c4 : Caught X pins σ H a cls d ⟨h4, g, dr, t, o⟩ := ⟨c.ok, c.st, c.fr, c.free, B, sI, J, nb, up.trans u4, os, ag, fl4⟩
      obtain ⟨oe, _, z, q, S⟩ := c4.held
      exact wpAny_mono ((hsu a oe cls d _ z q).run [] _ _ H _ S (yes rfl a c.free)) (fun f s6 h => (c4.done (i := none) (n := "") (p := pos) hN (fun _ z => (nomatch z)) h).1 rfl) fun _ _ z => z.elim
  | _, _, .nm hi hl hc hsu r, s, c, w => by
    obtain ⟨b, e, yes, no⟩ := w
    refine wpAny_handleBy_cons (codeAny_handlers_test (c.asks hc ((c.judged e).here ?_))) (fun q => nomatch q)
    cases b with
    | false => exact Caught.handled (pos := pos) hN tk r c (no rfl)
    | true =>
      refine codeAny_handlers_suite_as ?_
      obtain ⟨B, sI, J, nb, up, os, ag, fl⟩ := id c.rest
      obtain ⟨hp, g, dr, t, o⟩ := s
      refine HandSPX.lands_againZ fl fun h4 fl4 u4 => ?_
      have c4 : Caught X pins σ H a cls d ⟨h4, g, dr, t, o⟩ := ⟨c.ok, c.st, c.fr, c.free, B, sI, J, nb, up.trans u4, os, ag, fl4⟩
      obtain ⟨oe, _, z, q, S⟩ := c4.held
      refine store_ok (X := X.suite a ((a, oe) :: (X.pn ++ pins))) (v := .ref a) S hN hi (.inl hl) rfl (fun s5 S5 => ?_) (.inr hl)
      exact wpAny_mono ((hsu a oe cls d _ z q).run [] s5 _ H _ S5 (yes rfl a c.free)) (fun f s6 h => (c4.done (i := some _) hN (fun j e => by cases e; exact ⟨hi, hl⟩) h).2 (fun z => (nomatch z))) fun _ _ z => z.elim
/-- try: body / several clauses -/
theorem ps_tryN {body : List Stmt} {h0 : ExceptHandler} {hs : List ExceptHandler} {l : List Cl1} {pos : Pos} {tb : WX → TS} (hst : X.stack = X.env :: X.outer) (hfr : X.env.frame = some X.env.locals) (hN : X.N.Nodup) (tk : Takes X Wo)
    (hb : ∀ (W : WX) (pn : List (Addr × Obj)) (xe : Value → Shared → Prop), Takes (X.tr pn xe) W → PassesOwn (model X.prog X.w) X.A X.env xe → PSs (X.tr pn xe) body (tb W)) (hh : HdsN X (h0 :: hs) l) :
    PS X (.Try body (h0 :: hs) [] [] pos) (fun D σ H => tb (wN X.K Wo D l) D σ H) := ⟨fun pins s σ H D I h => by
  have ok := I.ok
  let xe : Value → Shared → Prop := fun e s₁ => wpAny (model X.prog X.w) X.A (noteFrame e X.env) (fun _ s₂ => wpAny (model X.prog X.w) X.A (setFlight e none) (fun _ s₃ => wpAny (model X.prog X.w) X.A (handleBy e X.env (h0 :: hs)) (SP X pins D) X.xe s₃) X.xe s₂) X.xe s₁
  have tk2 : Takes (X.tr (X.pn ++ pins) xe) (wN X.K Wo D l) := fun u s' ⟨a, B, sI, pins', σ', H', cls, d, e, J', nb, up, sky, na, os, ag, w⟩ => by
    subst e
    have sky2 : Sky B (X.env :: X.outer) a (Zc cls d) X.env.locals s'.heap := by rw [← hst]; exact sky
    obtain ⟨hp, g, dr, t, o⟩ := s'
    refine Sky.land Zc.steady (ok.frames.trans (congrArg some hst)) hfr sky2 fun h3 fl u3 => ?_
    exact Caught.handled (pos := pos) hN tk hh ⟨ok, hst, hfr, na, B, sI, J'.ofTry ok, nb, up.trans u3, os, ag, fl⟩ w
  refine wpAny_Try_except (wpAny_mono ((hb _ _ xe tk2 PassesOwn.looking).run [] s σ H D (I.toTry _) h) (fun f s1 q => ?_) fun _ _ z => z)
  cases f <;> first
    | (obtain ⟨σ', H', J, q⟩ := q; exact wpAny_execs_nil ⟨σ', H', J.ofTry ok, q⟩)
    | (obtain ⟨σ', H', J, q⟩ := q; exact ⟨σ', H', J.ofTry ok, q⟩)
    | (obtain ⟨v, σ', H', J, r, q⟩ := q; exact ⟨v, σ', H', J.ofTry ok, r, q⟩)⟩
end
end Ew

set_option Elab.async false
set_option linter.all false
set_option maxRecDepth 100000
set_option maxHeartbeats 4000000
namespace Ew
open PySem PySem.Spec PyProof.Rows L2
/-- what the text's class D of an error says -/
structure ErrC (K : PySem.W.Frag) (D : Addr) : Prop where
  cl : (PySem.W.clsIn K D).isSome = true
  ga : PySem.W.findIn K (.ref D) "__getattribute__" = some (some (.builtin "BaseException.__getattribute__"))
  gt : PySem.W.findIn K (.ref D) "__getattr__" = some none
  sb : PySem.W.subIn K (.ref D) (.type "BaseException") = some true
  ca : PySem.W.findIn K (.ref D) "__class__" = some (some (.builtin "object.__class__"))
  gg : PySem.W.specialIn K (.builtin "object.__class__") "__get__" = some (some (.builtin "getset_descriptor.__get__"))
  tk : PySem.W.takesIn K (.builtin "object.__class__") = some true
  mo : PySem.W.mroIn K D (.type "object") = some true
section
variable {X : Cx} {a D : Addr} {oe : Obj} {pn : List (Addr × Obj)} {d : Option Addr}
theorem err_kit (C : ErrC X.K D) (hz : Zc (.ref D) d oe) (hf : ∃ vs, oe.data = .fields vs) {pins : List (Addr × Obj)} {σ : L2.St} {H : Hp} {s : Shared} (I : Inv (X.suite a ((a, oe) :: pn)) pins σ H s) (hd : ∀ dd, d = some dd → ∃ o, H dd = some o) :
    ∃ P : Heap → Prop, PySem.W.KitX X.K (.ref a) (.ref D) P ∧ P s.heap := by
  obtain ⟨at_, _⟩ := I.pin (a, oe) (List.mem_append.mpr (.inl List.mem_cons_self))
  obtain ⟨vs, hv⟩ := hf
  obtain ⟨oc, od, oda, osl⟩ := oe
  obtain ⟨h1, h2⟩ := hz
  dsimp only at h1 h2 hv
  subst h1 h2 hv
  cases od with
  | none => exact ⟨_, PySem.W.kitx_exc (od := none) C.cl C.ga C.gt C.sb C.ca C.gg C.tk C.mo, at_, rfl, rfl, trivial⟩
  | some dd =>
    obtain ⟨o, ho⟩ := hd dd rfl
    obtain ⟨u, hu⟩ := objOk_get (I.hok dd o ho)
    exact ⟨_, PySem.W.kitx_exc (od := some u) C.cl C.ga C.gt C.sb C.ca C.gg C.tk C.mo, at_, rfl, rfl, hu⟩
/-- isinstance(e, c) | isinstance(e, (c1, c2, ..)), e the error that the suite holds -/
def rIsErr (K : PySem.W.Frag) (D a : Addr) (d : Option Addr) : List V → Hp → VK → Prop := fun xs H Q => (∀ dd, d = some dd → ∃ o, H dd = some o) ∧
  ((∃ c u b, xs = [.ref a, c] ∧ ClsV c u ∧ PySem.W.kitOne K (.ref D) u = some b ∧ Q (.bl b) H) ∨ (∃ tp cs us b, xs = [.ref a, .ref tp] ∧ H tp = some (.tup cs) ∧ Paired ClsV cs us ∧ PySem.W.kitAny K (.ref D) us = some b ∧ Q (.bl b) H))
theorem call_isErr (C : ErrC X.K D) (hz : Zc (.ref D) d oe) (hf : ∃ vs, oe.data = .fields vs) : CallR (X.suite a ((a, oe) :: pn)) (.builtin "isinstance") (rIsErr X.K D a d) := by
  intro pins s σ H xs us Q I r h
  obtain ⟨hd, h⟩ := h
  obtain ⟨P, Z, p⟩ := err_kit C hz hf I hd
  rcases h with ⟨c, u, b, rfl, k, e, q⟩ | ⟨tp, cs, ws, b, rfl, ht, k, e, q⟩
  · obtain ⟨u1, u2, rfl, r1, r2⟩ := vals2 r
    cases r1
    obtain rfl := k.eq r2
    exact PySem.W.kia_one Z I.kIn p e (fun z => nomatch z) fun t => ⟨.bl b, H, I.tok t, rfl, q⟩
  · obtain ⟨u1, u2, rfl, r1, r2⟩ := vals2 r
    cases r1
    cases r2
    obtain ⟨_, its, rv, ⟨oc, od, dt, sl⟩, g1, g2, n, g3⟩ := (show ObjOk X.prog X.w H s.heap tp (.tup cs) from I.hok tp _ ht)
    dsimp only at g2 g3
    subst g2 g3
    obtain rfl := ClsV.all k rv
    exact PySem.W.kia_tup Z I.kIn p g1 e (fun z => nomatch z) fun t => ⟨.bl b, H, I.tok t, rfl, q⟩
/-- the same, the class told by the reading -/
theorem call_isErrC {cls : Value} (C : ErrC X.K D) (hz : Zc cls d oe) (hf : ∃ vs, oe.data = .fields vs) : CallR (X.suite a ((a, oe) :: pn)) (.builtin "isinstance") (fun xs H Q => cls = .ref D ∧ rIsErr X.K D a d xs H Q) := by
  intro pins s σ H xs us Q I r h
  obtain ⟨e, h⟩ := h
  subst e
  exact call_isErr C hz hf pins s σ H xs us Q I r h
end

/-! ### own operators -/
/-- a method of the class by a name of its own -/
structure OpM (K : PySem.W.Frag) (C : Addr) (name : Str) (f : Addr) : Prop where
  at_ : PySem.W.findIn K (.ref C) name = some (some (.ref f))
  fn : PySem.W.isFn K (.ref f) = true
section
variable {X : Cx} {CX : CXT} {k : Nat} {f C : Addr} {fd : FuncData} {ps : List Str} {sp : Sp} {E : L2.St → XK} {a b : Expr} {ta tb : TE} {pos : Pos}
theorem back_of {pins : List (Addr × Obj)} {σ : L2.St} {Q : VK} {u : Value} {s : Shared} (h : EP X pins σ Q u s) : PySem.W.CmpBack (EP X pins σ Q) u s := by
  obtain ⟨v, H, I, r, q⟩ := id h
  cases v <;> first
    | (cases r; exact h)
    | (obtain ⟨t, rfl⟩ := r; exact h)
theorem ins_at {pins : List (Addr × Obj)} {σ : L2.St} {H : Hp} {s : Shared} {x dx : Addr} {fs : List (Str × V)} (I : Inv X pins σ H s) (e : H x = some (.ins C dx fs)) : ∃ od, PySem.W.InstAt s.heap x (PySem.W.instObj C dx) C (some od) := by
  obtain ⟨mA, J, _⟩ := ins_get I.hok e
  obtain ⟨od, J, _⟩ := J.look
  exact ⟨od, J⟩
def tBinO (C : Addr) (sp : Sp) (E : L2.St → XK) (ta tb : TE) : TE := fun σ H Q => ta σ H fun x H1 => tb σ H1 fun y H2 => ∃ p q dx dy fs gs, x = .ref p ∧ y = .ref q ∧ H2 p = some (.ins C dx fs) ∧ H2 q = some (.ins C dy gs) ∧ sp [x, y] H2 Q (E σ)
/-- a + b and its like, both of one own class -/
theorem pe_binO {op : Operator} (F : FnOk X.prog X.w X.K X.mg X.base CX k f fd ps sp) (hr : Room k X.A) (M : OpM X.K C (PySem.dunder op.info.2) f) (sf : PySem.W.selfFirst X.K C = true) (hb : Binds X.K fd ps []) (hx : ∀ σ, PassesAt CX X σ (E σ))
    (h1 : PE X a ta) (h2 : PE X b tb) : PE X (.BinOp a op b pos) (tBinO C sp E ta tb) := by
  refine ⟨fun pins s σ H Q I h => wpAny_BinOp (bin h1 h2 I h fun v u s2 x y H2 I2 rx ry q => ?_)⟩
  obtain ⟨p, q', dx, dy, fs, gs, rfl, rfl, e1, e2, q⟩ := q
  cases rx
  cases ry
  obtain ⟨o1, J1⟩ := ins_at I2 e1
  obtain ⟨o2, J2⟩ := ins_at I2 e2
  obtain ⟨m, fr⟩ := I2.fr
  exact PySem.W.binop_K fr I2.ok.mod.kin J1 J2.type sf M.at_ M.fn (thn (run_fnS (vs := [.ref p, .ref q']) F hr hb (hx σ) I2 (.cons rfl (.cons rfl .nil)) q) fun _ _ z => back_of z)
def tNegO (C : Addr) (sp : Sp) (E : L2.St → XK) (ta : TE) : TE := fun σ H Q => ta σ H fun x H1 => ∃ p dx fs, x = .ref p ∧ H1 p = some (.ins C dx fs) ∧ sp [x] H1 Q (E σ)
/-- -a of an own class -/
theorem pe_negO (F : FnOk X.prog X.w X.K X.mg X.base CX k f fd ps sp) (hr : Room k X.A) (M : OpM X.K C "__neg__" f) (hb : Binds X.K fd ps []) (hx : ∀ σ, PassesAt CX X σ (E σ))
    (h1 : PE X a ta) : PE X (.UnaryOp .USub a pos) (tNegO C sp E ta) := by
  refine ⟨fun pins s σ H Q I h => UnaryOp_ (thn (h1.run pins s σ H _ I h) fun v s1 ⟨x, H1, I1, r1, q1⟩ => ?_)⟩
  obtain ⟨p, dx, fs, rfl, e1, q⟩ := q1
  cases r1
  obtain ⟨o1, J1⟩ := ins_at I1 e1
  obtain ⟨m, fr⟩ := I1.fr
  exact PySem.W.ksp_neg fr I1.ok.mod.kin J1 M.at_ M.fn (run_fnS (vs := [.ref p]) F hr hb (hx σ) I1 (.cons rfl .nil) q)
/-- what stands to the right of an own ==: another of the class, or a tuple -/
def RhsEq (K : PySem.W.Frag) (C : Addr) (H : Hp) (y : V) : Prop := ∃ q, y = .ref q ∧ ((∃ dy gs, H q = some (.ins C dy gs)) ∨ ∃ ys, SqT K H q ys)
def tEqO (K : PySem.W.Frag) (C : Addr) (sp : Sp) (E : L2.St → XK) (ta tb : TE) : TE := fun σ H Q => ta σ H fun x H1 => tb σ H1 fun y H2 => ∃ p dx fs, x = .ref p ∧ H2 p = some (.ins C dx fs) ∧ RhsEq K C H2 y ∧ sp [x, y] H2 Q (E σ)
theorem pc_eqO (F : FnOk X.prog X.w X.K X.mg X.base CX k f fd ps sp) (hr : Room k X.A) (M : OpM X.K C "__eq__" f) (ht : PySem.W.notFirst X.K C (.type "tuple") = true) (hb : Binds X.K fd ps []) (hx : ∀ σ, PassesAt CX X σ (E σ))
    (h1 : PE X a ta) (h2 : PE X b tb) : PC X .Eq a b (tEqO X.K C sp E ta tb) := by
  refine ⟨fun pins s σ H Q I h => bin h1 h2 I h fun v u s2 x y H2 I2 rx ry q => ?_⟩
  obtain ⟨p, dx, fs, rfl, e1, ⟨q', rfl, r⟩, q⟩ := q
  cases rx
  cases ry
  obtain ⟨o1, J1⟩ := ins_at I2 e1
  obtain ⟨m, fr⟩ := I2.fr
  have run := thn (run_fnS (vs := [.ref p, .ref q']) F hr hb (hx σ) I2 (.cons rfl (.cons rfl .nil)) q) fun _ _ z => back_of z
  show wpAny _ _ (richCompare .Eq (.ref p) (.ref q')) _ _ _
  rcases r with ⟨dy, gs, e2⟩ | ⟨ys, e2⟩
  · obtain ⟨o2, J2⟩ := ins_at I2 e2
    exact PySem.W.cmp_K (op := .Eq) hr.units0 fr I2.ok.mod.kin J1 J2.type (by simp [PySem.W.notFirst]) M.at_ M.fn run
  · obtain ⟨its, rv, ⟨o, ho, hc, _⟩, _⟩ := I2.tuple e2
    exact PySem.W.cmp_K (op := .Eq) hr.units0 fr I2.ok.mod.kin J1 (fun A' Q' E' s' kp z => wpAny_typeOf_ref (kp _ _ ho) (by rw [hc]; exact z)) ht M.at_ M.fn run
end
end Ew

set_option Elab.async false
set_option linter.all false
set_option maxRecDepth 100000
set_option maxHeartbeats 4000000
namespace Ew
open PySem PySem.Spec PyProof.Rows L2
/-! ### a def of the top as it stands behind the top, and its promise -/
section
variable {P : Program} {w : World} {K : PySem.W.Frag} {mg : Str → Option Value} {base : Heap}
structure DefAt (K : PySem.W.Frag) (mg : Str → Option Value) (x : Str) (st : Stmt) (ps : List Str) : Prop where
  ex : ∃ f fd, Fun K x x st f fd ∧ mg x = some (.ref f) ∧ Binds K fd ps []
structure Cl (P : Program) (w : World) (K : PySem.W.Frag) (mg : Str → Option Value) (base : Heap) (k : Nat) (x : Str) (ps : List Str) (sp : Sp) (dvs : List V) : Prop where
  ex : ∃ f fd ds, FnOk P w K mg base (L2.CX P w) k f fd ps sp ∧ mg x = some (.ref f) ∧ PySem.W.keepIn K (.ref f) = true ∧ Binds K fd ps ds ∧ Vals dvs ds
/-- where a body runs -/
abbrev cxB (P : Program) (w : World) (K : PySem.W.Frag) (mg : Str → Option Value) (base : Heap) (N : List Str) (qual : Str) (st : Stmt) (f : Addr) (cdv : Value) (A : Around) (outer : List Env) (s : Shared) (H : Hp) (E : XK) : Cx := cxOf (L2.CX P w) P w K mg base N qual (defScope st) f cdv A outer s H E
def BodyOk (P : Program) (w : World) (K : PySem.W.Frag) (mg : Str → Option Value) (base : Heap) (N : List Str) (qual : Str) (st : Stmt) (k : Nat) (sp : Sp) : Prop :=
  ∀ (f : Addr) (cdv : Value) (A : Around) (outer : List Env) (s : Shared) (H : Hp) (vs : List V) (Q : VK) (E : XK), Room k (cxB P w K mg base N qual st f cdv A outer s H E).A → sp vs H Q E →
    ∃ t, PSs (cxB P w K mg base N qual st f cdv A outer s H E) (defBody st) t ∧ t { nx := fun _ H' => Q .non H', rt := Q } (start N vs) H
theorem DefAt.cl {x : Str} {st : Stmt} {ps N : List Str} {k : Nat} {sp : Sp} (D : DefAt K mg x st ps) (S : FnScope N ps (defScope st)) (len : ∀ vs H Q E, sp vs H Q E → vs.length = ps.length) (h : BodyOk P w K mg base N x st k sp) : Cl P w K mg base (k + 1) x ps sp [] := by
  obtain ⟨f, fd, F, g, b⟩ := D.ex
  exact ⟨f, fd, [], F.okX S len fun cdv A outer s H vs Q E hr hs => h f cdv A outer s H vs Q E hr hs, g, F.kp, b, .nil⟩
/-- a def with defaults -/
structure DefAtD (K : PySem.W.Frag) (mg : Str → Option Value) (x : Str) (st : Stmt) (ps : List Str) (dvs : List V) : Prop where
  ex : ∃ f fd, FunD K x x (defArgs st) (defBody st) (defScope st) dvs [] f fd ∧ mg x = some (.ref f) ∧ ∀ j, j ≤ dvs.length → ∃ ds, Vals (dvs.drop j) ds ∧ Binds K fd ps ds
theorem DefAtD.cl {x : Str} {st : Stmt} {ps N : List Str} {k : Nat} {sp : Sp} {dvs : List V} (D : DefAtD K mg x st ps dvs) (j : Nat) (hj : j ≤ dvs.length) (S : FnScope N ps (defScope st)) (len : ∀ vs H Q E, sp vs H Q E → vs.length = ps.length)
    (h : BodyOk P w K mg base N x st k sp) : Cl P w K mg base (k + 1) x ps sp (dvs.drop j) := by
  obtain ⟨f, fd, F, g, b⟩ := D.ex
  obtain ⟨ds, hd, hb⟩ := b j hj
  exact ⟨f, fd, ds, F.ok S len fun cdv A outer s H vs Q E hr hs => h f cdv A outer s H vs Q E hr hs, g, F.kp, hb, hd⟩
theorem fun_ok {x qual : Str} {st : Stmt} {f : Addr} {fd : FuncData} {ps N : List Str} {k : Nat} {sp : Sp} (F : Fun K x qual st f fd) (S : FnScope N ps (defScope st)) (len : ∀ vs H Q E, sp vs H Q E → vs.length = ps.length) (h : BodyOk P w K mg base N qual st k sp) :
    FnOk P w K mg base (L2.CX P w) (k + 1) f fd ps sp := F.okX S len fun cdv A outer s H vs Q E hr hs => h f cdv A outer s H vs Q E hr hs
end
/-! ### calls -/
section
variable {X : Cx} {k j : Nat} {x m : Str} {ps : List Str} {sp : Sp} {dvs : List V} {e o : Expr} {es : List Expr} {t : TA} {ta : TE} {p pos apos : Pos} {W : WX} {C : Addr}
theorem run_dv {f : Addr} {fd : FuncData} {ds : List Value} {pins : List (Addr × Obj)} {σ : L2.St} {H : Hp} {s : Shared} {Q : VK} {us : List Value} {vs : List V} (F : FnOk X.prog X.w X.K X.mg X.base (L2.CX X.prog X.w) k f fd ps sp) (hr : Room k X.A) (hb : Binds X.K fd ps ds) (hd : Vals dvs ds)
    (tk : Takes X W) (I : Inv X pins σ H s) (r : Vals vs us) (h : sp (vs ++ dvs) H Q (WE W σ)) : wpAny (model X.prog X.w) X.A (call (.ref f) us) (EP X pins σ Q) X.xe s := by
  have r2 := r.append hd
  have hl : (us ++ ds).length = ps.length := by rw [← r2.length]; exact F.len _ _ _ _ h
  refine wpAny_call (codeAny_mono (F.run X.A X.stack s H ⟨us, []⟩ (us ++ ds) (vs ++ dvs) Q (WE W σ) hr I.env0 (hb s us I.kIn hl) r2 h) fun y s' hq => ?_)
  match y, hq with
  | .error e, hq => exact passAt tk σ pins H s e s' I hq
  | .ok (.ret u), hq => exact I.after hq
def tF (sp : Sp) (dvs : List V) (W : WX) (t : TA) : TE := fun σ H Q => t σ H fun vs H1 => sp (vs ++ dvs) H1 Q (WE W σ)
theorem pe_f (c : Cl X.prog X.w X.K X.mg X.base k x ps sp dvs) (tk : Takes X W) (hr : Room j X.A) (hk : k ≤ j) (hg : Gl X x) (ha : PA X (e :: es) t) (hdb : (x == ("__debug__" : Str)) = false := by decide)
    (he : starEach (e :: es) X.env = (false, eval e X.env) :: starEach es X.env := by rfl) (hpl : (backTo pos (starEach es X.env)).any (·.1) = false := by rfl) : PE X (.Call (.Name x p) (e :: es) [] pos) (tF sp dvs W t) := by
  obtain ⟨f, fd, ds, F, hm, hkp, hb, hd⟩ := c.ex
  exact ⟨fun pins s σ H Q I h => wpAny_Call_Name_kw (ld_glob I hg hm (PySem.W.callWith_K (h₀ := X.base) I.ok.mod.kin hkp (thn (ha.run pos pins s σ H _ I h) fun us s1 ⟨vs, H1, I1, r, q⟩ => ⟨I1.kIn, run_dv F (hr.mono hk) hb hd tk I1 r q⟩) he hpl) hdb)⟩
/-- a method of the class at C -/
structure Mt (P : Program) (w : World) (K : PySem.W.Frag) (mg : Str → Option Value) (base : Heap) (k : Nat) (C : Addr) (m : Str) (ps : List Str) (sp : Sp) (dvs : List V) : Prop where
  cl : Cls K C
  ex : ∃ f fd ds, Meth K C m f ∧ FnOk P w K mg base (L2.CX P w) k f fd ps sp ∧ Binds K fd ps ds ∧ Vals dvs ds
def tM (C : Addr) (m : Str) (sp : Sp) (dvs : List V) (W : WX) (ta : TE) (t : TA) : TE := fun σ H Q => ta σ H fun x H1 => ∃ a dx fs, x = .ref a ∧ H1 a = some (.ins C dx fs) ∧ fs.lookup m = none ∧ t σ H1 fun vs H2 => sp (x :: (vs ++ dvs)) H2 Q (WE W σ)
theorem pe_mf {pl : Sem Bool} (c : Mt X.prog X.w X.K X.mg X.base k C m ps sp dvs) (tk : Takes X W) (hr : Room j X.A) (hk : k ≤ j) (he : PE X o ta) (ha : PA X (e :: es) t)
    (hst : starEach (e :: es) X.env = (false, eval e X.env) :: starEach es X.env := by rfl) (hpl : (backTo pos (starEach es X.env)).any (·.1) = false := by rfl)
    (ht : eval (.Call (.Attribute o m apos) (e :: es) [] pos) X.env = (do
      let v ← eval o X.env
      standAt apos.atName
      let (g, first) ← holding [v] (getMethod v m pl)
      callWith pos g first (backTo pos (starEach (e :: es) X.env)) (backToKw pos (keywordEach [] X.env))) := by rfl) :
    PE X (.Call (.Attribute o m apos) (e :: es) [] pos) (tM C m sp dvs W ta t) := by
  obtain ⟨f, fd, ds, hm, F, hb, hd⟩ := c.ex
  refine ⟨fun pins s σ H Q I h => PySem.W.methodCall_KW (pl := pl) (thn (he.run pins s σ H _ I h) fun u s1 ⟨x, H1, I1, rx, a, dx, fs, ex, ea, l, q⟩ => ?_) ht⟩
  subst ex
  obtain rfl : u = Value.ref a := rx
  refine getmeth_ok I1 ea c.cl hm l ?_
  refine PySem.W.callWith_K (h₀ := X.base) I1.ok.mod.kin hm.kp (thn (ha.run pos pins s1 σ H1 _ I1 q) fun us s2 ⟨vs, H2, I2, r, q2⟩ => ⟨I2.kIn, ?_⟩) hst hpl
  exact run_dv (vs := .ref a :: vs) F (hr.mono hk) hb hd tk I2 (.cons rfl r) q2
/-- a new instance of the class x at C -/
structure Mkr (P : Program) (w : World) (K : PySem.W.Frag) (mg : Str → Option Value) (base : Heap) (k : Nat) (x : Str) (C : Addr) (ps : List Str) (sp : Sp) : Prop where
  gC : mg x = some (.ref C)
  ex : ∃ f fd, Mk K C f ∧ FnOk P w K mg base (L2.CX P w) k f fd ps sp ∧ Binds K fd ps []
theorem pe_mkf (c : Mkr X.prog X.w X.K X.mg X.base k x C ps sp) (hr : Room j X.A) (hk : k + 1 ≤ j) (hg : Gl X x) (ha : PA X (e :: es) t) (hdb : (x == ("__debug__" : Str)) = false := by decide)
    (he : starEach (e :: es) X.env = (false, eval e X.env) :: starEach es X.env := by rfl) (hpl : (backTo pos (starEach es X.env)).any (·.1) = false := by rfl) : PE X (.Call (.Name x p) (e :: es) [] pos) (tMake C sp [] E0 t) := by
  obtain ⟨f, fd, M, F, hb⟩ := c.ex
  exact pe_make M F (hr.mono hk) hg c.gC hb .nil passL ha hdb he hpl
/-- an own error made by C(e, ..) -/
structure Mke (P : Program) (w : World) (K : PySem.W.Frag) (mg : Str → Option Value) (base : Heap) (k : Nat) (x : Str) (C : Addr) (ps : List Str) (sp : Sp) : Prop where
  gC : mg x = some (.ref C)
  ox : OexC K C
  ex : ∃ f fd, PySem.W.findIn K (.ref C) "__init__" = some (some (.ref f)) ∧ PySem.W.typeIn K (.ref f) = some (.type "function") ∧ FnOk P w K mg base (L2.CX P w) k f fd ps sp ∧ Binds K fd ps []
theorem pmk_err (c : Mke X.prog X.w X.K X.mg X.base k x C ps sp) (hr : Room j X.A) (hk : k + 1 ≤ j) (hg : Gl X x) (ha : PA X (e :: es) t) (hdb : (x == ("__debug__" : Str)) = false := by decide)
    (he : starEach (e :: es) X.env = (false, eval e X.env) :: starEach es X.env := by rfl) (hpl : (backTo pos (starEach es X.env)).any (·.1) = false := by rfl) : PMk X (.Call (.Name x p) (e :: es) [] pos) (tMkO C sp [] t) := by
  obtain ⟨f, fd, hi, ht, F, hb⟩ := c.ex
  exact pmk_oex c.ox hi ht F (hr.mono hk) hb .nil passL hg c.gC ha hdb he hpl
end
/-! ### what is frozen: F, a part of the heap that stays; m: what may be changed -/
structure Stm (m : Addr → Prop) (F H F' H' : Hp) : Prop where
  ff : Same F F'
  fh : Same F' H'
  hh : ∀ a o, ¬ m a → H a = some o → H' a = some o
  nw : ∀ a, F a = none → H a ≠ none → F' a = none
abbrev Stp := Stm (fun _ => False)
section
variable {m m' : Addr → Prop} {F H F' H' F2 H2 : Hp} {p : Addr} {o : HO}
theorem Stm.refl (h : Same F H) : Stm m F H F H := ⟨Same.refl F, h, fun _ _ _ e => e, fun _ n _ => n⟩
theorem Stm.mono (a : Stm m F H F' H') (h : ∀ x, m x → m' x) : Stm m' F H F' H' := ⟨a.ff, a.fh, fun x o n e => a.hh x o (fun z => n (h x z)) e, a.nw⟩
theorem Stm.any (a : Stp F H F' H') : Stm m F H F' H' := a.mono fun _ z => z.elim
theorem Stm.same (a : Stp F H F' H') : Same H H' := fun x o e => a.hh x o (fun z => z) e
theorem Stm.there (a : Stm m F H F' H') (hm : ∀ x, m x → H x ≠ none → H' x ≠ none) {x : Addr} (h : H x ≠ none) : H' x ≠ none := by
  by_cases q : m x
  · exact hm x q h
  · cases e : H x with
    | none => exact absurd e h
    | some o => rw [a.hh x o q e]; exact fun z => nomatch z
theorem Stm.trans (a : Stm m F H F' H') (b : Stm m F' H' F2 H2) (hm : ∀ x, m x → H x ≠ none → H' x ≠ none) : Stm m F H F2 H2 :=
  ⟨a.ff.trans b.ff, b.fh, fun x o n e => b.hh x o n (a.hh x o n e), fun q n z => b.nw q (a.nw q n z) (a.there hm z)⟩
theorem Stm.transP (a : Stp F H F' H') (b : Stp F' H' F2 H2) : Stp F H F2 H2 := a.trans b fun _ z => z.elim
theorem same_new (h : H p = none) : Same H (upd H p o) := fun b u e => by rw [upd_ne (ne_of_none e h)]; exact e
/-- a new thing is laid, and frozen at once -/
theorem Stm.new (a : Stm m F H F' H') (hp : H' p = none) (h0 : H p = none) : Stm m F H (upd F' p o) (upd H' p o) where
  ff := a.ff.trans (same_new (a.fh.free hp))
  fh := fun b u e => by
    by_cases hb : b = p
    · subst hb; rw [upd_same] at e ⊢; exact e
    · rw [upd_ne hb] at e ⊢; exact a.fh b u e
  hh := fun x u n e => by rw [upd_ne (ne_of_none e h0)]; exact a.hh x u n e
  nw := fun x n z => by rw [upd_ne (fun q => z (by rw [q]; exact h0))]; exact a.nw x n z
/-- a new thing is laid that is to be changed further -/
theorem Stm.raw (a : Stm m F H F' H') (hp : H' p = none) (h0 : H p = none) : Stm m F H F' (upd H' p o) := ⟨a.ff, a.fh.trans (same_new hp), fun x u n e => by rw [upd_ne (ne_of_none e h0)]; exact a.hh x u n e, a.nw⟩
/-- a thing of the def's own is changed -/
theorem Stm.mut (a : Stm m F H F' H') (hf : F' p = none) (h0 : H p = none) : Stm m F H F' (upd H' p o) := ⟨a.ff, fun b u e => by rw [upd_ne (ne_of_none e hf)]; exact a.fh b u e, fun x u n e => by rw [upd_ne (ne_of_none e h0)]; exact a.hh x u n e, a.nw⟩
/-- a thing of the def's own stays from now on -/
theorem Stm.freeze (a : Stm m F H F' H') (hf : F' p = none) (h0 : H p = none) (e : H' p = some o) : Stm m F H (upd F' p o) H' where
  ff := a.ff.trans (same_new hf)
  fh := fun b u q => by
    by_cases hb : b = p
    · subst hb; rw [upd_same] at q; rw [e]; exact q
    · rw [upd_ne hb] at q; exact a.fh b u q
  hh := a.hh
  nw := fun x n z => by rw [upd_ne (fun q => z (by rw [q]; exact h0))]; exact a.nw x n z
/-- fresh now is fresh at the start, where what may change is there -/
theorem Stm.fresh (a : Stm m F H F' H') (hm : ∀ x, m x → H' x ≠ none) {x : Addr} (h : H' x = none) : H x = none := by
  by_cases q : m x
  · exact absurd h (hm x q)
  · cases e : H x with
    | none => rfl
    | some o => rw [a.hh x o q e] at h; cases h
theorem Stm.freshP (a : Stp F H F' H') {x : Addr} (h : H' x = none) : H x = none := a.fresh (fun _ z => z.elim) h
theorem Stm.newP (a : Stp F H F' H') (hp : H' p = none) : Stp F H (upd F' p o) (upd H' p o) := a.new hp (a.freshP hp)
theorem stp_new (h : Same F H) (hp : H p = none) : Stp F H (upd F p o) (upd H p o) := (Stm.refl h).newP hp
end
theorem upT {K : PySem.W.Frag} {H H' : Hp} {a : Addr} {xs : List V} (e : Same H H') (h : SqT K H a xs) : SqT K H' a xs := h.ext e
theorem upL {K : PySem.W.Frag} {H H' : Hp} {a : Addr} {xs : List V} (e : Same H H') (h : SqL K H a xs) : SqL K H' a xs := h.ext e
theorem sq_new {K : PySem.W.Frag} {H : Hp} {p : Addr} {xs : List V} : SqT K (upd H p (.tup xs)) p xs := SqT.of upd_same
/-- what a def promises that changes nothing: a part of the heap stays, the answer stands in it -/
def Pu (F H : Hp) (Q : VK) (post : Hp → V → Prop) : Prop := Same F H ∧ ∀ F' H' v, Stp F H F' H' → post F' v → Q v H'
theorem iteY {c A B : Prop} [Decidable c] (h : c) (x : A) : if c then A else B := by rw [if_pos h]; exact x
theorem iteN {c A B : Prop} [Decidable c] (h : ¬ c) (x : B) : if c then A else B := by rw [if_neg h]; exact x
theorem vint_ne {a b : Int} (h : a ≠ b) : ¬ decide (V.int a = V.int b) = true := fun z => h (V.int.inj (of_decide_eq_true z))
theorem vint_eq {a b : Int} (h : a = b) : decide (V.int a = V.int b) = true := decide_eq_true (congrArg V.int h)
/-! ### // by any divisor but 0 -/
def CDivX (_ j : Int) : Prop := j ≠ 0 ∧ j.natAbs.log2 < 9000
theorem op_fdivX {X : Cx} : OpR X (binaryOp .FloorDiv) (rI CDivX fun i j => .int (i.fdiv j)) := opI fun _ _ _ _ _ _ _ hc q => floordiv_int hc.1 q (.inl (PyProof.noPylong_of_log2 hc.2))
end Ew

set_option Elab.async false
set_option linter.all false
set_option maxRecDepth 100000
set_option maxHeartbeats 4000000
namespace Ew
open PySem PySem.Spec PyProof.Rows L2
/-- an error's __init__ that keeps its one argument (its two) -/
def spI1 (C : Addr) (f : Str) : Sp := fun vs H Q _ => ∃ x v, vs = [.ref x, v] ∧ H x = some (exo x C none) ∧ ∀ dx, H dx = none → dx ≠ x → Q .non (upd (upd H dx (exd dx [(f, v)])) x (exo x C (some dx)))
def spI2 (C : Addr) (f g : Str) : Sp := fun vs H Q _ => ∃ x u v, vs = [.ref x, u, v] ∧ H x = some (exo x C none) ∧
  ∀ dx, H dx = none → dx ≠ x → Q .non (upd (upd (upd H dx (exd dx [(f, u)])) x (exo x C (some dx))) dx (exd dx [(g, v), (f, u)]))
theorem back1 {H : Hp} {a d : Addr} {o1 o2 o3 o4 : HO} (ha : H a = none) (h : d ≠ a) : upd (del (upd (upd (upd H a o1) d o2) a o3) a) d o4 = upd H d o4 := by
  funext b
  by_cases e : b = d
  · subst e; rw [upd_same, upd_same]
  · rw [upd_ne e, upd_ne e]
    by_cases e2 : b = a
    · subst e2; rw [del_same, ha]
    · rw [del_ne e2, upd_ne e2, upd_ne e, upd_ne e2]
theorem back2 {H : Hp} {a d : Addr} {o1 o2 o3 o4 o5 : HO} (ha : H a = none) (h : d ≠ a) : upd (del (upd (upd (upd (upd H a o1) d o2) a o3) d o5) a) d o4 = upd H d o4 := by
  funext b
  by_cases e : b = d
  · subst e; rw [upd_same, upd_same]
  · rw [upd_ne e, upd_ne e]
    by_cases e2 : b = a
    · subst e2; rw [del_same, ha]
    · rw [del_ne e2, upd_ne e, upd_ne e2, upd_ne e, upd_ne e2]
section
variable {X : Cx} {k j : Nat} {x f g : Str} {ps : List Str} {e e2 : Expr} {te te2 : TE} {p pos pos2 : Pos} {W : WX} {C : Addr}
def tR1 (C : Addr) (f : Str) (W : WX) (te : TE) : TS := fun _ σ H => te σ H fun v H1 => ∀ d, H1 d = none → W (.ref C) (some d) σ (upd H1 d (.xd [(f, v)]))
def tR2 (C : Addr) (f g : Str) (W : WX) (te te2 : TE) : TS := fun _ σ H => te σ H fun u H1 => te2 σ H1 fun v H2 => ∀ d, H2 d = none → W (.ref C) (some d) σ (upd H2 d (.xd [(g, v), (f, u)]))
theorem ps_weak {st : Stmt} {t t' : TS} (h : PS X st t) (q : ∀ D σ H, t' D σ H → t D σ H) : PS X st t' := ⟨fun pins s σ H D I z => h.run pins s σ H D I (q D σ H z)⟩
end
/-- te says what it says of more, too -/
def TeMono (te : TE) : Prop := ∀ σ H (Q Q' : VK), (∀ v H', Q v H' → Q' v H') → te σ H Q → te σ H Q'
theorem pe_up {X : Cx} {e : Expr} {te : TE} (h : PE X e te) : PE X e fun σ H Q => ∃ Q', (∀ v H', Q' v H' → Q v H') ∧ te σ H Q' := ⟨fun pins s σ H Q I ⟨Q', q, z⟩ => thn (h.run pins s σ H Q' I z) fun _ _ ⟨v, H', I', r, y⟩ => ⟨v, H', I', r, q v H' y⟩⟩
section
variable {X : Cx} {k j : Nat} {x f g : Str} {ps : List Str} {e e2 : Expr} {te te2 : TE} {p pos pos2 : Pos} {W : WX} {C : Addr}
theorem ps_raise1 (hc : X.calm = true) (tk : Takes X W) (c : Mke X.prog X.w X.K X.mg X.base k x C ps (spI1 C f)) (hr : Room j X.A) (hk : k + 1 ≤ j) (hg : Gl X x) (he : PE X e te) (hdb : (x == ("__debug__" : Str)) = false := by decide)
    (hs : starEach [e] X.env = [(false, eval e X.env)] := by rfl) (hpl : (backTo pos (starEach ([] : List Expr) X.env)).any (·.1) = false := by rfl) : PS X (.Raise (some (.Call (.Name x p) [e] [] pos)) none pos2) (tR1 C f W te) := by
  refine ps_weak (ps_raise hc tk (pmk_err c hr hk hg (pa_cons (pe_up he) pa_nil hs) hdb hs hpl)) fun D σ H h => ⟨_, fun v H1 z => ?_, h⟩
  refine ⟨Nat.le_of_ble_eq_true rfl, fun a ha => ⟨a, v, rfl, upd_same, fun dx n ne => ⟨rfl, dx, [(f, v)], upd_same, ?_, ?_, ?_⟩⟩⟩
  · rw [upd_ne ne, upd_same]
  · rw [upd_ne ne] at n; exact n
  · rw [back1 ha ne]
    rw [upd_ne ne] at n
    exact z dx n
theorem ps_raise2 (hc : X.calm = true) (tk : Takes X W) (c : Mke X.prog X.w X.K X.mg X.base k x C ps (spI2 C f g)) (hr : Room j X.A) (hk : k + 1 ≤ j) (hg : Gl X x) (he : PE X e te) (he2 : PE X e2 te2) (hdb : (x == ("__debug__" : Str)) = false := by decide)
    (hs : starEach [e, e2] X.env = [(false, eval e X.env), (false, eval e2 X.env)] := by rfl) (hs2 : starEach [e2] X.env = [(false, eval e2 X.env)] := by rfl) (hpl : (backTo pos (starEach [e2] X.env)).any (·.1) = false := by rfl) :
    PS X (.Raise (some (.Call (.Name x p) [e, e2] [] pos)) none pos2) (tR2 C f g W te te2) := by
  have hs' : starEach [e, e2] X.env = (false, eval e X.env) :: starEach [e2] X.env := by rw [hs, hs2]
  refine ps_weak (ps_raise hc tk (pmk_err c hr hk hg (pa_cons (pe_up he) (pa_cons (pe_up he2) pa_nil hs2) hs') hdb hs' hpl)) fun D σ H h => ⟨_, fun u H1 y => ⟨_, fun v H2 z => ?_, y⟩, h⟩
  refine ⟨Nat.le_of_ble_eq_true rfl, fun a ha => ⟨a, u, v, rfl, upd_same, fun dx n ne => ⟨rfl, dx, [(g, v), (f, u)], ?_, upd_same, ?_, ?_⟩⟩⟩
  · rw [upd_ne (Ne.symm ne), upd_same]
  · rw [upd_ne ne] at n; exact n
  · rw [back2 ha ne]
    rw [upd_ne ne] at n
    exact z dx n
end
/-- what a def promises of an error that leaves it -/
def Ra (F H : Hp) (E : XK) (C : Addr) (post : Hp → Addr → Prop) : Prop := ∀ F' H' d, Stp F H F' H' → post F' d → E (.ref C) (some d) H'
theorem ty_sqT {K : PySem.W.Frag} {H : Hp} {p : Addr} {xs : List V} (h : SqT K H p xs) : TyX K H (.ref p) (.type "tuple") := by
  rcases h with (h | ⟨o, h⟩) | h
  · exact .base (.tup h)
  · exact .fTuple h
  · obtain ⟨o, its, n, e, c, _⟩ := h
    exact .kTuple e c
theorem ty_sqL {K : PySem.W.Frag} {H : Hp} {p : Addr} {xs : List V} (h : SqL K H p xs) : TyX K H (.ref p) (.type "list") := by
  rcases h with (h | ⟨o, h⟩) | h
  · exact .base (.lst h)
  · exact .base (.frz h)
  · obtain ⟨o, its, n, e, c, _⟩ := h
    exact .kList e c
end Ew

set_option Elab.async false
set_option linter.all false
set_option maxRecDepth 100000
set_option maxHeartbeats 4000000
namespace Ew
open PySem PySem.Spec PyProof.Rows L2
/-- what may be changed (m), and what stays true of it (I) -/
structure Mem (m : Addr → Prop) (I : Hp → Hp → Prop) : Prop where
  there : ∀ {F H x}, I F H → m x → H x ≠ none
  off : ∀ {F H x}, I F H → m x → F x = none
  put : ∀ {F H p o}, I F H → ¬ m p → I F (upd H p o)
  grow : ∀ {F F' H}, I F H → Same F F' → (∀ x, m x → F' x = none) → I F' H
theorem memP : Mem (fun _ => False) (fun _ _ => True) := ⟨fun _ z => z.elim, fun _ z => z.elim, fun _ _ => trivial, fun _ _ _ => trivial⟩
section
variable {m : Addr → Prop} {I : Hp → Hp → Prop} {F H F' H' F2 H2 : Hp} {J : It} {n : Nat} {G : Hp → Prop} {Y : Nat → Hp → V → Hp → Prop}
theorem Stm.then (M : Mem m I) (i : I F' H') (a : Stm m F H F' H') (b : Stm m F' H' F2 H2) : Stm m F H F2 H2 := a.trans b fun _ z _ => M.there i z
/-- a comprehension: each turn gives one item, of which R says what is wanted; the new list is frozen at the end -/
theorem lcM (M : Mem m I) (w : Walk J n G Y) {g : TG} {tt : TT} {te : TE} {vs : List Nat} {σ : L2.St} {D : Addr} {Qd : Hp → Prop} (hf : Same F H) (i0 : I F H) (hD : H D = none) (R : Nat → Hp → V → Prop) (hR : ∀ i F F' y, Same F F' → R i F y → R i F' y)
    (hn : n ≤ 1000000) (hG : ∀ F' H', Same F F' → Same F' H' → G H')
    (hs : ∀ i x F' H' H'' (Kt : VK) (Kn : Hp → Prop), i < n → Stm m F H F' H' → I F' H' → Y i H' x H'' → (∀ y F4 H4, Stm m F' H' F4 H4 → I F4 H4 → R i F4 y → Kt y H4) →
      g x (wipe σ vs) H'' fun σ2 H2 => wipe σ2 vs = wipe σ vs ∧ tt σ2 H2 fun b H3 => if b = true then te σ2 H3 Kt else Kn H3)
    (hd : ∀ F' H' ys, Stm m F H F' H' → I F' H' → F' D = some (.lst ys) → ys.length = n → (∀ j y, ys[j]? = some y → R j F' y) → Qd H') :
    ∃ W : Nat → Nat → Hp → Prop, (∃ k, W 0 k (upd H D (.lst []))) ∧ ∀ i k H, W i k H →
      (J.stop i H ∧ Qd H) ∨ (J.go i H ∧ ∃ Nx : Hp → Prop, (∀ H', Nx H' → ∃ k', k' < k ∧ W (i + 1) k' H') ∧ ∀ x H', J.yld i H x H' → g x (wipe σ vs) H' fun σ2 H2 => wipe σ2 vs = wipe σ vs ∧ tt σ2 H2 fun b H3 =>
        if b = true then te σ2 H3 fun y H4 => ∃ acc, H4 D = some (.lst acc) ∧ acc.length < sizeLine ∧ Nx (upd H4 D (.lst (acc ++ [y]))) else Nx H3) := by
  have nm : ¬ m D := fun z => M.there i0 z hD
  have fD : F D = none := hf.free hD
  refine lc_it w (fun i H' => ∃ F' acc, Stm m F H F' H' ∧ I F' H' ∧ F' D = none ∧ H' D = some (.lst acc) ∧ acc.length = i ∧ ∀ j y, acc[j]? = some y → R j F' y) ?_ ?_ ?_ ?_
  · exact ⟨F, [], (Stm.refl hf).raw hD hD, M.put i0 nm, fD, upd_same, rfl, fun j y z => by simp at z⟩
  · rintro i H' _ ⟨F', acc, s, _⟩
    exact hG F' H' s.ff s.fh
  · rintro i x H' H'' hi ⟨F', acc, s, iv, f', h', hl, hr⟩ y
    refine hs i x F' H' H'' _ _ hi s iv y fun y F4 H4 s4 i4 r4 => ?_
    have f4 : F4 D = none := s4.nw D f' (by rw [h']; exact fun z => nomatch z)
    have h4 : H4 D = some (.lst acc) := s4.hh D _ nm h'
    refine ⟨acc, h4, by rw [sizeLine_eq]; omega, F4, acc ++ [y], (s.then M iv s4).mut f4 hD, M.put i4 nm, f4, upd_same, by rw [List.length_append, hl]; rfl, fun j z hz => ?_⟩
    rcases Nat.lt_or_ge j acc.length with hj | hj
    · rw [List.getElem?_append_left hj] at hz
      exact hR j F' F4 z s4.ff (hr j z hz)
    · rw [List.getElem?_append_right hj] at hz
      have e0 : j - acc.length = 0 := by
        rcases Nat.eq_zero_or_pos (j - acc.length) with h0 | h0
        · exact h0
        · rw [List.getElem?_eq_none (by simp; omega)] at hz; cases hz
      rw [e0] at hz
      cases hz
      have ej : j = i := by omega
      rw [ej]
      exact r4
  · rintro H' ⟨F', acc, s, iv, f', h', hl, hr⟩
    refine hd (upd F' D (.lst acc)) H' acc (s.freeze f' hD h') (M.grow iv (same_new f') fun x hx => ?_) upd_same hl fun j y hy => hR j F' _ y (same_new f') (hr j y hy)
    rw [upd_ne (fun z => nm (by rw [← z]; exact hx))]
    exact M.off iv hx
theorem lc_yes {te : TE} {σ : L2.St} {H : Hp} {Kt : VK} {Kn : Hp → Prop} (h : te σ H Kt) : tYes σ H fun b H3 => if b = true then te σ H3 Kt else Kn H3 := by
  show if true = true then te σ H Kt else Kn H
  rw [if_pos rfl]
  exact h
end
end Ew

set_option Elab.async false
set_option linter.all false
set_option maxRecDepth 100000
set_option maxHeartbeats 4000000
namespace Ew
open PySem PySem.Spec PyProof.Rows L2
/-- a tuple of ints as data -/
def intT (ds : List Int) : PyData := .tuple (ds.map .int)
theorem dpAll_ints {K : PySem.W.Frag} {H : Hp} : ∀ ds : List Int, DpAll K H (ds.map V.int) (ds.map PyData.int)
  | [] => .nil
  | d :: ds => .cons (.int d) (dpAll_ints ds)
theorem dp_ints {K : PySem.W.Frag} {H : Hp} {p : Addr} {ds : List Int} (h : SqT K H p (ds.map V.int)) : Dp K H (.ref p) (intT ds) := .tup h (dpAll_ints ds)
theorem eqvAll_ints : ∀ a b : List Int, PyData.eqvAll (a.map .int) (b.map .int) = decide (a = b)
  | [], [] => rfl
  | [], y :: b => rfl
  | x :: a, [] => rfl
  | x :: a, y :: b => by
    rw [List.map_cons, List.map_cons, PyData.eqvAll, PyData.eqv, eqvAll_ints a b]
    by_cases h : x = y
    · subst h; by_cases h2 : a = b <;> simp [h2]
    · simp [h]
theorem eqv_ints (a b : List Int) : PyData.eqv (intT a) (intT b) = decide (a = b) := by
  unfold intT
  rw [PyData.eqv, eqvAll_ints]
theorem lay_ints : ∀ ds : List Int, PyData.canLayAll0 (ds.map PyData.int) = true
  | [] => by rw [List.map_nil, PyData.canLayAll0]
  | d :: ds => by rw [List.map_cons, PyData.canLayAll0, lay_ints ds, PyData.canLay0, Bool.and_self]
theorem dep_ints : ∀ ds : List Int, PyData.depthAll (ds.map PyData.int) = 0
  | [] => by rw [List.map_nil, PyData.depthAll]
  | d :: ds => by rw [List.map_cons, PyData.depthAll, dep_ints ds, PyData.depth, Nat.max_self]
theorem shaped_ints (ds : List Int) : SeqAt.shaped (intT ds) = true := by
  unfold SeqAt.shaped intT
  rw [PyData.canLay0, lay_ints, PyData.depth, dep_ints]
  rfl
/-! ### ratios -/
/-- at v a pair of ints; a tuple of ints -/
def Rt (K : PySem.W.Frag) (F : Hp) (v : V) (r : Int × Int) : Prop := ∃ p, v = .ref p ∧ SqT K F p [.int r.1, .int r.2]
def Dm (K : PySem.W.Frag) (F : Hp) (v : V) (ds : List Int) : Prop := ∃ p, v = .ref p ∧ SqT K F p (ds.map V.int)
section
variable {K : PySem.W.Frag} {F F' : Hp} {v : V} {r : Int × Int} {ds : List Int}
theorem Rt.up (h : Rt K F v r) (e : Same F F') : Rt K F' v r := by obtain ⟨p, h1, h2⟩ := h; exact ⟨p, h1, upT e h2⟩
theorem Dm.up (h : Dm K F v ds) (e : Same F F') : Dm K F' v ds := by obtain ⟨p, h1, h2⟩ := h; exact ⟨p, h1, upT e h2⟩
theorem Rt.dp (h : Rt K F v r) : Dp K F v (intT [r.1, r.2]) := by obtain ⟨p, rfl, h2⟩ := h; exact dp_ints h2
theorem Dm.dp (h : Dm K F v ds) : Dp K F v (intT ds) := by obtain ⟨p, rfl, h2⟩ := h; exact dp_ints h2
end
/-- the common divisor, with the sign of d -/
def com (n d : Int) : Int := if d < 0 then -((Nat.gcd n.natAbs d.natAbs : Nat) : Int) else ((Nat.gcd n.natAbs d.natAbs : Nat) : Int)
/-- n / d in lowest terms -/
def rat (n d : Int) : Int × Int := (n.fdiv (com n d), d.fdiv (com n d))
/-- size: below 2 ^ b -/
def Sz (b : Nat) (n : Int) : Prop := n.natAbs < 2 ^ b
theorem Sz.mono {a b : Nat} {n : Int} (h : Sz a n) (k : a ≤ b) : Sz b n := Nat.lt_of_lt_of_le h (Nat.pow_le_pow_right (by decide) k)
theorem Sz.log {b : Nat} {n : Int} (h : Sz b n) (h0 : 0 < b) (k : b ≤ 9000) : n.natAbs.log2 < 9000 := Nat.lt_of_lt_of_le (PySem.Flt.log2_lt_of h0 h) k
theorem Sz.mul {a b : Nat} {m n : Int} (h : Sz a m) (k : Sz b n) : Sz (a + b) (m * n) := wide_lt h k
theorem Sz.add {a : Nat} {m n : Int} (h : Sz a m) (k : Sz a n) : Sz (a + 1) (m + n) := by
  unfold Sz at *
  have := Int.natAbs_add_le m n
  rw [Nat.pow_succ]
  omega
theorem Sz.sub {a : Nat} {m n : Int} (h : Sz a m) (k : Sz a n) : Sz (a + 1) (m - n) := by
  unfold Sz at *
  rw [Nat.pow_succ]
  omega
theorem Sz.neg {a : Nat} {m : Int} (h : Sz a m) : Sz a (-m) := by
  unfold Sz at *
  rwa [Int.natAbs_neg]
theorem com_ne {n d : Int} (h : d ≠ 0) : com n d ≠ 0 := by
  have g : 0 < Nat.gcd n.natAbs d.natAbs := Nat.gcd_pos_of_pos_right _ (by omega)
  unfold com
  split <;> omega
theorem com_abs (n d : Int) : (com n d).natAbs = Nat.gcd n.natAbs d.natAbs := by
  unfold com
  split <;> simp
theorem com_sz {n d : Int} {b : Nat} (h0 : d ≠ 0) (h : Sz b d) : Sz b (com n d) := by
  unfold Sz
  rw [com_abs]
  exact Nat.lt_of_le_of_lt (Nat.gcd_le_right _ (by omega)) h
theorem com_dn (n d : Int) : com n d ∣ n := by
  rw [← Int.natAbs_dvd_natAbs, com_abs]
  exact Nat.gcd_dvd_left _ _
theorem com_dd (n d : Int) : com n d ∣ d := by
  rw [← Int.natAbs_dvd_natAbs, com_abs]
  exact Nat.gcd_dvd_right _ _
theorem fdiv_abs {n c : Int} (h : c ∣ n) : (n.fdiv c).natAbs = n.natAbs / c.natAbs := by
  obtain ⟨k, rfl⟩ := h
  by_cases h0 : c = 0
  · subst h0; simp
  · rw [Int.mul_fdiv_cancel_left _ h0, Int.natAbs_mul, Nat.mul_div_cancel_left _ (by omega)]
theorem Sz.fdiv {n c : Int} {b : Nat} (h : Sz b n) (hd : c ∣ n) : Sz b (n.fdiv c) := by
  unfold Sz
  rw [fdiv_abs hd]
  exact Nat.lt_of_le_of_lt (Nat.div_le_self _ _) h
theorem rat_sz {n d : Int} {b : Nat} (h1 : Sz b n) (h2 : Sz b d) : Sz b (rat n d).1 ∧ Sz b (rat n d).2 := ⟨h1.fdiv (com_dn n d), h2.fdiv (com_dd n d)⟩
theorem rat_pos {n d : Int} (h : d ≠ 0) : 0 < (rat n d).2 := by
  show 0 < d.fdiv (com n d)
  have g : 0 < Nat.gcd n.natAbs d.natAbs := Nat.gcd_pos_of_pos_right _ (by omega)
  obtain ⟨k, hk⟩ := com_dd n d
  have hc := com_ne (n := n) h
  have e : d.fdiv (com n d) = k := by
    conv => lhs; lhs; rw [hk]
    rw [Int.mul_fdiv_cancel_left _ hc]
  rw [e]
  unfold com at hk
  split at hk
  · rename_i hd
    rcases Int.lt_trichotomy k 0 with q | q | q
    · have : 0 < -((Nat.gcd n.natAbs d.natAbs : Nat) : Int) * k := Int.mul_pos_of_neg_of_neg (by omega) q
      omega
    · subst q; simp at hk; omega
    · exact q
  · rename_i hd
    rcases Int.lt_trichotomy k 0 with q | q | q
    · have : ((Nat.gcd n.natAbs d.natAbs : Nat) : Int) * k < 0 := Int.mul_neg_of_pos_of_neg (by omega) q
      omega
    · subst q; simp at hk; omega
    · exact q
theorem rat_cop {n d : Int} (h : d ≠ 0) : Nat.gcd (rat n d).1.natAbs (rat n d).2.natAbs = 1 := by
  show Nat.gcd (n.fdiv (com n d)).natAbs (d.fdiv (com n d)).natAbs = 1
  rw [fdiv_abs (com_dn n d), fdiv_abs (com_dd n d), com_abs]
  exact Nat.gcd_div_gcd_div_gcd_of_pos_right (by omega)
end Ew

set_option Elab.async false
set_option linter.all false
set_option maxRecDepth 100000
set_option maxHeartbeats 4000000
namespace Ew
open PySem PySem.Spec PyProof.Rows L2
/-- a static method m of the class at C: what stands at p holds the def at g -/
structure StM (K : PySem.W.Frag) (C : Addr) (mc : Value) (m : Str) (p g : Addr) : Prop where
  rd : ClX.CRead K C mc
  off : PySem.W.findCls K (.ref C) mc m = some (.get (.builtin "staticmethod.__get__") (.ref p) .none (.ref C))
  rc : ∃ rest, PySem.W.recIn K p "staticmethod" = some (.ref g :: rest)
  kp : PySem.W.keepIn K (.ref g) = true
  pg : PySem.W.plainGet K C Str.empty = true
  ic : PySem.W.isClsIn K C = true
  at_ : PySem.W.findIn K (.ref C) m = some (some (.ref p))
  ty : PySem.W.typeIn K (.ref p) = some (.type "staticmethod")
  gt : PySem.W.specialIn K (.ref p) "__get__" = some (some (.builtin "staticmethod.__get__"))
  tk : PySem.W.takesIn K (.ref p) = some false
  cp : PySem.W.copiedNames.contains m = false
section
variable {X : Cx} {pins : List (Addr × Obj)} {σ : L2.St} {H : Hp} {s : Shared} {b C p g : Addr} {mc : Value} {m : Str} {A : Around} {E : Value → Shared → Prop}
theorem sm_off {pl : Sem Bool} {Q : Value × List Value → Shared → Prop} (I : Inv X pins σ H s) (k : StM X.K C mc m p g) (h : ∀ s', Inv X pins σ H s' → Q (.ref g, []) s') : wpAny (model X.prog X.w) A (getMethod (.ref C) m pl) Q E s := by
  obtain ⟨rest, hp⟩ := k.rc
  exact PySem.W.method_cls I.kIn k.rd.ga (PySem.W.cls_bind I.kIn k.rd.rd k.off (wpAny_call (PySem.W.sm_get (s := { s with toks := s.toks + 1 }) I.kIn hp (PySem.W.handed_on rfl (h _ (I.tok _))))))
theorem sm_on {pl : Sem Bool} {ox od : Obj} {Q : Value × List Value → Shared → Prop} (I : Inv X pins σ H s) (J : PySem.W.InstAt s.heap b ox C (some od)) (hl : PySem.W.lookIn m od = some none) (k : StM X.K C mc m p g)
    (h : ∀ s', Inv X pins σ H s' → Q (.ref g, []) s') : wpAny (model X.prog X.w) A (getMethod (.ref b) m pl) Q E s := by
  obtain ⟨rest, hp⟩ := k.rc
  have pg : PySem.W.plainGet X.K C m = true := k.pg
  refine PySem.W.method_usual (r := some (.ref p)) I.kIn J (PySem.W.plainGet_of pg).1 (PySem.W.plainGet_of pg).2 k.at_ ?_ (PySem.W.get_bind I.kIn J (PySem.W.plainGet_of pg).1 (ClX.find_cm k.ic k.at_ k.gt k.tk k.cp hl) (PySem.W.plainGet_of pg).2
    (wpAny_call (PySem.W.sm_get (s := { s with toks := s.toks + 1 }) I.kIn hp (PySem.W.handed_on rfl (h _ (I.tok _))))))
  rw [Option.all_some, k.ty]
  decide +kernel
variable {k j : Nat} {fd : FuncData} {ps : List Str} {sp : Sp} {e o : Expr} {es : List Expr} {t : TA} {ta : TE} {pos apos : Pos} {W : WX}
/-- C.m(e, ..), o.m(e, ..), m a static method -/
structure Sm (P : Program) (w : World) (K : PySem.W.Frag) (mg : Str → Option Value) (base : Heap) (k : Nat) (C : Addr) (m : Str) (ps : List Str) (sp : Sp) : Prop where
  ex : ∃ mc p g fd, StM K C mc m p g ∧ FnOk P w K mg base (L2.CX P w) k g fd ps sp ∧ Binds K fd ps []
def tSm (K : PySem.W.Frag) (C : Addr) (m : Str) (sp : Sp) (W : WX) (ta : TE) (t : TA) : TE := fun σ H Q => ta σ H fun x H1 => (x = .ref C ∨ ∃ b dx fs, x = .ref b ∧ H1 b = some (.ins C dx fs) ∧ fs.lookup m = none) ∧ t σ H1 fun vs H2 => sp vs H2 Q (WE W σ)
theorem pe_sm {pl : Sem Bool} (c : Sm X.prog X.w X.K X.mg X.base k C m ps sp) (tk : Takes X W) (hr : Room j X.A) (hk : k ≤ j) (he : PE X o ta) (ha : PA X (e :: es) t)
    (hst : starEach (e :: es) X.env = (false, eval e X.env) :: starEach es X.env := by rfl) (hpl : (backTo pos (starEach es X.env)).any (·.1) = false := by rfl)
    (ht : eval (.Call (.Attribute o m apos) (e :: es) [] pos) X.env = (do
      let v ← eval o X.env
      standAt apos.atName
      let (g, first) ← holding [v] (getMethod v m pl)
      callWith pos g first (backTo pos (starEach (e :: es) X.env)) (backToKw pos (keywordEach [] X.env))) := by rfl) :
    PE X (.Call (.Attribute o m apos) (e :: es) [] pos) (tSm X.K C m sp W ta t) := by
  obtain ⟨mc, p, g, fd, S, F, hb⟩ := c.ex
  refine ⟨fun pins s σ H Q I h => PySem.W.methodCall_KW (pl := pl) (thn (he.run pins s σ H _ I h) fun u s1 ⟨x, H1, I1, rx, ex, q⟩ => ?_) ht⟩
  have go : ∀ s', Inv X pins σ H1 s' → wpAny (model X.prog X.w) X.A (callWith pos (.ref g) [] (backTo pos (starEach (e :: es) X.env)) (backToKw pos (keywordEach [] X.env))) (EP X pins σ Q) X.xe s' := fun s' I' =>
    PySem.W.callWith_K (h₀ := X.base) I'.ok.mod.kin S.kp (thn (ha.run pos pins s' σ H1 _ I' q) fun us s2 ⟨vs, H2, I2, r, q2⟩ => ⟨I2.kIn, run_dv F (hr.mono hk) hb .nil tk I2 r (by rw [List.append_nil]; exact q2)⟩) hst hpl
  rcases ex with rfl | ⟨b, dx, fs, rfl, eb, l⟩
  · obtain rfl : u = Value.ref C := rx
    exact sm_off I1 S fun s' I' => go s' I'
  · obtain rfl : u = Value.ref b := rx
    obtain ⟨mA, O, rr, _, _, _⟩ := ins_get I1.hok eb
    obtain ⟨od, J, hl⟩ := O.look
    have hn : mA m = none := RelO.none_of (by rw [← l]; exact rr m)
    exact sm_on I1 J (by rw [hl m, hn]) S fun s' I' => go s' I'
end
/-! ### methods as they stand behind the top -/
structure MthAt (K : PySem.W.Frag) (C : Addr) (m q : Str) (st : Stmt) (ps : List Str) : Prop where
  ex : ∃ f fd, Meth K C m f ∧ Fun K m q st f fd ∧ Binds K fd ps []
structure OpAt (K : PySem.W.Frag) (C : Addr) (m x q : Str) (st : Stmt) (ps : List Str) : Prop where
  ex : ∃ f fd, OpM K C m f ∧ Fun K x q st f fd ∧ Binds K fd ps []
structure MkAt (K : PySem.W.Frag) (C : Addr) (q : Str) (st : Stmt) (ps : List Str) : Prop where
  ex : ∃ f fd, Mk K C f ∧ Fun K "__init__" q st f fd ∧ Binds K fd ps []
structure SmAt (K : PySem.W.Frag) (C : Addr) (m q : Str) (st : Stmt) (ps : List Str) : Prop where
  ex : ∃ mc p g fd, StM K C mc m p g ∧ Fun K m q st g fd ∧ Binds K fd ps []
/-- an own operator's method, its promise -/
structure OpC (P : Program) (w : World) (K : PySem.W.Frag) (mg : Str → Option Value) (base : Heap) (k : Nat) (C : Addr) (m : Str) (ps : List Str) (sp : Sp) : Prop where
  sf : PySem.W.selfFirst K C = true
  ex : ∃ f fd, OpM K C m f ∧ FnOk P w K mg base (L2.CX P w) k f fd ps sp ∧ Binds K fd ps []
section
variable {X : Cx} {k j : Nat} {C : Addr} {ps : List Str} {sp : Sp} {e1 e2 : Expr} {ta tb : TE} {pos : Pos} {W : WX}
theorem pe_bop {op : Operator} (c : OpC X.prog X.w X.K X.mg X.base k C (PySem.dunder op.info.2) ps sp) (tk : Takes X W) (hr : Room j X.A) (hk : k ≤ j) (h1 : PE X e1 ta) (h2 : PE X e2 tb) : PE X (.BinOp e1 op e2 pos) (tBinO C sp (WE W) ta tb) := by
  obtain ⟨f, fd, M, F, hb⟩ := c.ex
  exact pe_binO F (hr.mono hk) M c.sf hb (fun σ => passAt tk σ) h1 h2
theorem pe_nop (c : OpC X.prog X.w X.K X.mg X.base k C "__neg__" ps sp) (tk : Takes X W) (hr : Room j X.A) (hk : k ≤ j) (h1 : PE X e1 ta) : PE X (.UnaryOp .USub e1 pos) (tNegO C sp (WE W) ta) := by
  obtain ⟨f, fd, M, F, hb⟩ := c.ex
  exact pe_negO F (hr.mono hk) M hb (fun σ => passAt tk σ) h1
theorem pc_eop (c : OpC X.prog X.w X.K X.mg X.base k C "__eq__" ps sp) (tk : Takes X W) (hr : Room j X.A) (hk : k ≤ j) (ht : PySem.W.notFirst X.K C (.type "tuple") = true) (h1 : PE X e1 ta) (h2 : PE X e2 tb) : PC X .Eq e1 e2 (tEqO X.K C sp (WE W) ta tb) := by
  obtain ⟨f, fd, M, F, hb⟩ := c.ex
  exact pc_eqO F (hr.mono hk) M ht hb (fun σ => passAt tk σ) h1 h2
end
/-- what isinstance asks of an own class -/
structure KiC (K : PySem.W.Frag) (C : Addr) : Prop where
  cl : Cls K C
  ca : PySem.W.findIn K (.ref C) "__class__" = some (some (.builtin "object.__class__"))
  gg : PySem.W.specialIn K (.builtin "object.__class__") "__get__" = some (some (.builtin "getset_descriptor.__get__"))
  tk : PySem.W.takesIn K (.builtin "object.__class__") = some true
  mo : PySem.W.mroIn K C (.type "object") = some true
theorem KiC.ty {K : PySem.W.Frag} {C : Addr} (k : KiC K C) {H : Hp} {x dx : Addr} {fs : List (Str × V)} (h : H x = some (.ins C dx fs)) : TyX K H (.ref x) (.ref C) := .base (.ins h k.cl k.ca k.gg k.tk k.mo)
theorem kit_same {K : PySem.W.Frag} {t : Value} : PySem.W.kitOne K t t = some true := by
  unfold PySem.W.kitOne
  rw [if_pos (beq_self_eq_true t)]
end Ew

set_option Elab.async false
set_option linter.all false
set_option maxRecDepth 100000
set_option maxHeartbeats 4000000
namespace Ew
open PySem PySem.Spec PyProof.Rows L2
open AutoSeq1 (wpAny_loadPart')
open MeetsSeq MeetsSeq2 MeetsSeq3 SeqRoads2
theorem tup_once (l : Addr) (items : Array Value) (n : Nat) (dd : Option Addr) (sl : Array (Option Value)) (u : Tok) :
    Meets (Builtin.«tuple.__mul__» ⟨[.ref l, .int 1 u], []⟩) (fun _ R s => s.heap.get? l = some { cls := .type "tuple", dict := dd, data := .seq items n, slots := sl } ∧ R (.ok (.ret (.ref l))) s) :=
  .of_wp fun prog w A R s h => by
    obtain ⟨hp, g, d, tk, os⟩ := s
    obtain ⟨hl, h⟩ := h
    have f1 := AutoSeq1.idx_int
    wp_walk using wpAny_loadPart' hl
    exact ⟨_, rfl, h⟩
def rRep1 (K : PySem.W.Frag) : R2 := fun x y H Q => ∃ l xs, x = .ref l ∧ y = .int 1 ∧ SqT K H l xs ∧ Q (.ref l) H
theorem op_rep1 {X : Cx} : OpR X (binaryOp .Mult) (rRep1 X.K) := by
  intro pins s σ H x y v u Q I rx ry h
  obtain ⟨l, xs, rfl, rfl, hT, q⟩ := h
  cases rx
  obtain ⟨t, rfl⟩ := ry
  obtain ⟨its, r, ⟨⟨cls, dd, data, sl⟩, ho, hc, n, hd⟩, hs⟩ := I.tuple hT
  dsimp only at hc hd
  subst hc hd
  exact wpAny_binaryOp_repeat_ref (T := "tuple") (U := "int") (by decide) ⟨_, ho, rfl⟩ (fun s' => typeIs_int s' 1 t) noFill_tuple_mul F.fills_int_mul F.slot_int_rmul repeat_tuple F.slot_int_index.lookup
    (call_meets F.slot_int_rmul (typeIs_int s 1 t) F.entry_int_rmul (F.args_int_rmul_2 _ _) (int_rmul_tuple 1 t l its.toArray n dd sl)
      ⟨ho, rfl, ⟨_, ho, rfl⟩, call_meets F.slot_tuple_mul ⟨_, ho, rfl⟩ F.entry_tuple_mul (F.args_tuple_mul_2 _ _) (tup_once l its.toArray n dd sl t) ⟨ho, .ref l, H, I, rfl, q⟩⟩)
theorem op_repA {X : Cx} : OpR X (binaryOp .Mult) (fun x y H Q => rRepT X.K x y H Q ∨ rRep1 X.K x y H Q) := op_repT.or op_rep1
end Ew

set_option Elab.async false
set_option linter.all false
set_option maxRecDepth 100000
set_option maxHeartbeats 4000000
namespace Ew
open PySem PySem.Spec PyProof.Rows L2
/-- data that may be compared: n deep at most -/
structure Fl (n : Nat) (d : PyData) : Prop where
  c : d.canLay0 = true
  d : d.depth ≤ n
structure FlA (n : Nat) (ds : List PyData) : Prop where
  c : PyData.canLayAll0 ds = true
  d : PyData.depthAll ds ≤ n
theorem FlA.nil {n : Nat} : FlA n [] := ⟨by rw [PyData.canLayAll0], by rw [PyData.depthAll]; omega⟩
theorem FlA.cons {n : Nat} {d : PyData} {ds : List PyData} (h : Fl n d) (t : FlA n ds) : FlA n (d :: ds) := ⟨by rw [PyData.canLayAll0, h.c, t.c]; rfl, by rw [PyData.depthAll]; have := h.d; have := t.d; omega⟩
theorem FlA.all {n : Nat} : ∀ {ds : List PyData}, (∀ d ∈ ds, Fl n d) → FlA n ds
  | [], _ => .nil
  | d :: ds, h => .cons (h d List.mem_cons_self) (FlA.all fun x hx => h x (List.mem_cons_of_mem _ hx))
theorem Fl.tup {n : Nat} {ds : List PyData} (h : FlA n ds) : Fl (n + 1) (.tuple ds) := ⟨by rw [PyData.canLay0]; exact h.c, by rw [PyData.depth]; have := h.d; omega⟩
theorem Fl.lst {n : Nat} {ds : List PyData} (h : FlA n ds) : Fl (n + 1) (.list ds) := ⟨by rw [PyData.canLay0]; exact h.c, by rw [PyData.depth]; have := h.d; omega⟩
theorem Fl.int {n : Nat} {i : Int} : Fl n (.int i) := ⟨by rw [PyData.canLay0], by rw [PyData.depth]; omega⟩
theorem Fl.str {n : Nat} {x : Str} (h : PyData.strOk x = true) : Fl n (.str x) := ⟨by rw [PyData.canLay0]; exact h, by rw [PyData.depth]; omega⟩
theorem Fl.sh {n : Nat} {d : PyData} (h : Fl n d) (k : n ≤ 64) : SeqAt.shaped d = true := by
  unfold SeqAt.shaped
  have := h.d
  rw [h.c, decide_eq_true (by omega : d.depth ≤ 64)]
  rfl
theorem fl_ints {n : Nat} (ds : List Int) : Fl (n + 1) (intT ds) := Fl.tup ⟨lay_ints ds, by rw [dep_ints]; omega⟩
/-- a pair of a ratio and a tuple of ints -/
def rowD (s : (Int × Int) × List Int) : PyData := .tuple [intT [s.1.1, s.1.2], intT s.2]
theorem fl_row {n : Nat} (s : (Int × Int) × List Int) : Fl (n + 2) (rowD s) := Fl.tup (.cons (fl_ints _) (.cons (fl_ints _) .nil))
theorem eqv_row (s t : (Int × Int) × List Int) : PyData.eqv (rowD s) (rowD t) = decide (s = t) := by
  unfold rowD
  rw [PyData.eqv, PyData.eqvAll, PyData.eqvAll, PyData.eqvAll, eqv_ints, eqv_ints]
  obtain ⟨⟨a, b⟩, c⟩ := s
  obtain ⟨⟨a', b'⟩, c'⟩ := t
  by_cases h1 : a = a' <;> by_cases h2 : b = b' <;> by_cases h3 : c = c' <;> simp [h1, h2, h3]
def Row (K : PySem.W.Frag) (F : Hp) (v : V) (s : (Int × Int) × List Int) : Prop := ∃ p u w, v = .ref p ∧ SqT K F p [u, w] ∧ Rt K F u s.1 ∧ Dm K F w s.2
theorem Row.up {K : PySem.W.Frag} {F F' : Hp} {v : V} {s : (Int × Int) × List Int} (h : Row K F v s) (e : Same F F') : Row K F' v s := by
  obtain ⟨p, u, w, h1, h2, h3, h4⟩ := h
  exact ⟨p, u, w, h1, upT e h2, h3.up e, h4.up e⟩
theorem Row.dp {K : PySem.W.Frag} {F : Hp} {v : V} {s : (Int × Int) × List Int} (h : Row K F v s) : Dp K F v (rowD s) := by
  obtain ⟨p, u, w, rfl, h2, h3, h4⟩ := h
  exact .tup h2 (.cons h3.dp (.cons h4.dp .nil))
/-- items, each with its own word -/
def Rws (K : PySem.W.Frag) (F : Hp) (xs : List V) (ss : List ((Int × Int) × List Int)) : Prop := xs.length = ss.length ∧ ∀ (i : Nat) x, xs[i]? = some x → ∃ s, ss[i]? = some s ∧ Row K F x s
theorem Rws.up {K : PySem.W.Frag} {F F' : Hp} {xs : List V} {ss : List ((Int × Int) × List Int)} (h : Rws K F xs ss) (e : Same F F') : Rws K F' xs ss := ⟨h.1, fun i x hx => by
  obtain ⟨s, h1, h2⟩ := h.2 i x hx
  exact ⟨s, h1, h2.up e⟩⟩
theorem Rws.nil {K : PySem.W.Frag} {F : Hp} : Rws K F [] [] := ⟨rfl, fun i x h => by simp at h⟩
theorem Rws.snoc {K : PySem.W.Frag} {F : Hp} {xs : List V} {ss : List ((Int × Int) × List Int)} {x : V} {s : (Int × Int) × List Int} (h : Rws K F xs ss) (k : Row K F x s) : Rws K F (xs ++ [x]) (ss ++ [s]) := by
  refine ⟨by simp [h.1], fun i y hy => ?_⟩
  rcases Nat.lt_or_ge i xs.length with hi | hi
  · rw [List.getElem?_append_left hi] at hy
    obtain ⟨t, h1, h2⟩ := h.2 i y hy
    exact ⟨t, by rw [List.getElem?_append_left (by rw [← h.1]; exact hi)]; exact h1, h2⟩
  · rw [List.getElem?_append_right hi] at hy
    have e0 : i - xs.length = 0 := by
      rcases Nat.eq_zero_or_pos (i - xs.length) with h0 | h0
      · exact h0
      · rw [List.getElem?_eq_none (by simp; omega)] at hy; cases hy
    rw [e0] at hy
    cases hy
    refine ⟨s, ?_, k⟩
    rw [List.getElem?_append_right (by rw [← h.1]; exact hi), ← h.1, e0]
    rfl
theorem Rws.dps {K : PySem.W.Frag} {F : Hp} : ∀ {xs : List V} {ss : List ((Int × Int) × List Int)}, Rws K F xs ss → DpAll K F xs (ss.map rowD)
  | [], [], _ => .nil
  | [], s :: ss, h => absurd h.1 (by simp)
  | x :: xs, [], h => absurd h.1 (by simp)
  | x :: xs, s :: ss, h => by
    obtain ⟨t, h1, h2⟩ := h.2 0 x rfl
    cases h1
    exact .cons h2.dp (Rws.dps ⟨by simpa using h.1, fun i y hy => h.2 (i + 1) y hy⟩)
end Ew

set_option Elab.async false
set_option linter.all false
set_option maxRecDepth 100000
set_option maxHeartbeats 4000000
namespace Ew
open PySem PySem.Spec PyProof.Rows L2
open SX (S)
/-- a sign, k times -/
theorem fold_one (c : Nat) : ∀ (m : Nat) (acc : Array Nat), (List.replicate m #[c]).foldl (· ++ ·) acc = acc ++ (List.replicate m c).toArray
  | 0, acc => by simp
  | m + 1, acc => by
    rw [List.replicate_succ, List.foldl_cons, fold_one c m, List.replicate_succ]
    apply Array.ext'
    simp
def rRepC : R2 := fun x y H Q => ∃ (c : Nat) (k : Int), x = .str ⟨#[c]⟩ ∧ y = .int k ∧ 2 ≤ k ∧ k ≤ 100000 ∧ Q (.str (S (List.replicate k.toNat c))) H
theorem op_repC {X : Cx} : OpR X (binaryOp .Mult) rRepC := by
  intro pins s σ H x y v u Q I rx ry h
  obtain ⟨c, k, rfl, rfl, h1, h2, q⟩ := h
  obtain ⟨t, rfl⟩ := rx
  obtain ⟨t', rfl⟩ := ry
  have hl : (⟨#[c]⟩ : Str).length = 1 := rfl
  have e1 : (k == 1) = false := by rw [beq_eq_false_iff_ne]; omega
  refine PySem.P.mul_str ?_ (fun _ _ => ?_) (fun _ _ => ?_) ?_
  · rw [decide_eq_false (by omega), decide_eq_false (by omega)]
    rfl
  · rw [hl]
    have : (1 : Int) ≤ (2 ^ 63 - 1) / k := (Int.le_ediv_iff_mul_le (by omega)).mpr (by omega)
    show ¬ ((1 : Int) > _)
    omega
  · rw [hl]
    unfold PySem.Builtin.Str.tooLong
    rw [decide_eq_false_iff_not, sizeLine_eq]
    omega
  · rw [if_neg (by omega), e1, hl]
    have e2 : ((⟨#[c]⟩ : Str).cps) = #[c] := rfl
    rw [if_neg (by decide), e2, fold_one]
    have e3 : (#[] ++ (List.replicate k.toNat c).toArray : Array Nat) = (List.replicate k.toNat c).toArray := by simp
    rw [e3]
    refine ⟨?_, ⟨.str (S (List.replicate k.toNat c)), H, I.tok _, ⟨_, rfl⟩, q⟩⟩
    show (S (List.replicate k.toNat c)).length ≤ sizeLine
    rw [SX.S_len, List.length_replicate, sizeLine_eq]
    omega
end Ew

set_option Elab.async false
set_option linter.all false
set_option maxRecDepth 100000
set_option maxHeartbeats 4000000
namespace Ew
open PySem PySem.Spec PyProof.Rows L2
/-! ### defs that are asked only where no repr is under way -/
section
variable {P : Program} {w : World} {K : PySem.W.Frag} {mg : Str → Option Value} {base : Heap}
structure FnG (P : Program) (w : World) (K : PySem.W.Frag) (mg : Str → Option Value) (base : Heap) (k : Nat) (f : Addr) (fd : FuncData) (ps : List Str) (sp : Sp) : Prop where
  len : ∀ vs H Q E, sp vs H Q E → vs.length = ps.length
  go : ∀ (A : Around) (outer : List Env) (s : Shared) (H : Hp) (args : Args) (us : List Value) (vs : List V) (Q : VK) (E : XK), A.guards = some [] → Room k A → Env0 P w K mg base A outer s H → BindsTo s fd args (ps.zip us) → Vals vs us → sp vs H Q E →
    codeAny (model P w) A (.call (.ref f) args) (CR (L2.CX P w) outer P w H s Q E) s
def BodyG (P : Program) (w : World) (K : PySem.W.Frag) (mg : Str → Option Value) (base : Heap) (N : List Str) (qual : Str) (st : Stmt) (k : Nat) (sp : Sp) : Prop :=
  ∀ (f : Addr) (cdv : Value) (A : Around) (outer : List Env) (s : Shared) (H : Hp) (vs : List V) (Q : VK) (E : XK), (cxB P w K mg base N qual st f cdv A outer s H E).A.guards = some [] → Room k (cxB P w K mg base N qual st f cdv A outer s H E).A → sp vs H Q E →
    ∃ t, PSs (cxB P w K mg base N qual st f cdv A outer s H E) (defBody st) t ∧ t { nx := fun _ H' => Q .non H', rt := Q } (start N vs) H
theorem fun_gd {x qual : Str} {st : Stmt} {f : Addr} {fd : FuncData} {ps N : List Str} {k : Nat} {sp : Sp} (F : Fun K x qual st f fd) (S : FnScope N ps (defScope st)) (len : ∀ vs H Q E, sp vs H Q E → vs.length = ps.length) (h : BodyG P w K mg base N qual st k sp) :
    FnG P w K mg base (k + 1) f fd ps sp := by
  obtain ⟨oc, od, kV, doc, pm, an, cdv, ct, osl, rfl, lk, hcd⟩ := F.ex
  refine ⟨len, ?_⟩
  intro A outer s H args us vs Q E hg room e0 bind rel ask
  have many := len _ _ _ _ ask
  have kept : ∀ b o, base.get? b = some o → s.heap.get? b = some o := fun b o e => (e0.bs b o e).1
  have KX : K.In s.heap := e0.mod.kin.keeps kept
  have locals_ : ∀ y ∈ ps.zip us, (defScope st).names.lookup y.1 = some .local ∨ ((defScope st).names.lookup y.1 = some .cell ∧ ((cellsFrom (s.heap.objs.size + 1) (defScope st).names []).lookup y.1).isSome = true) := by
    rintro ⟨nm, v⟩ hy
    refine (S.par nm (List.of_mem_zip hy).1).imp id fun q => ⟨q, ?_⟩
    exact PySem.W.cellsFrom_some _ _ _ (.inl q)
  refine codeAny_call_function room.depth (KX _ _ lk) rfl S.co S.gen rfl (PySem.W.codeRec_of KX hcd) (bind _ _ _ _ ?_)
  refine wpAny_newFunctionEnv_cells S.kind locals_ ?_
  rintro env rfl s1 x
  refine ⟨(e0.mod.nolimit.keeps kept).keeps x.toInCall.keep, codeAny_func ?_⟩
  obtain ⟨t, ht, goal⟩ := h f cdv A outer s H vs Q E hg (room.deeper _) ask
  refine wpAny_mono (ht.run [] s1 (start N vs) H _ (inv_start S room.hd e0 many rel x) goal) ?_ (fun e s' z => z)
  intro fl s' end_
  match fl, end_ with
  | .ret u, ⟨v, σ', H', J, rv, q⟩ => exact ⟨v, H', J.os, J.bare, J.base, J.hok, rv, q⟩
  | .next, ⟨σ', H', J, q⟩ => exact ⟨.non, H', J.os, J.bare, J.base, J.hok, rfl, q⟩
  | .brk, ⟨_, _, _, q⟩ => exact q.elim
  | .cont, ⟨_, _, _, q⟩ => exact q.elim
structure ClG (P : Program) (w : World) (K : PySem.W.Frag) (mg : Str → Option Value) (base : Heap) (k : Nat) (x : Str) (ps : List Str) (sp : Sp) : Prop where
  ex : ∃ f fd, FnG P w K mg base k f fd ps sp ∧ mg x = some (.ref f) ∧ PySem.W.keepIn K (.ref f) = true ∧ Binds K fd ps []
theorem DefAt.clG {x : Str} {st : Stmt} {ps N : List Str} {k : Nat} {sp : Sp} (D : DefAt K mg x st ps) (S : FnScope N ps (defScope st)) (len : ∀ vs H Q E, sp vs H Q E → vs.length = ps.length) (h : BodyG P w K mg base N x st k sp) : ClG P w K mg base (k + 1) x ps sp := by
  obtain ⟨f, fd, F, g, b⟩ := D.ex
  exact ⟨f, fd, fun_gd F S len h, g, F.kp, b⟩
end
section
variable {X : Cx} {k j : Nat} {x : Str} {ps : List Str} {sp : Sp} {e : Expr} {es : List Expr} {t : TA} {p pos : Pos} {W : WX}
theorem pe_fG (hg0 : X.A.guards = some []) (c : ClG X.prog X.w X.K X.mg X.base k x ps sp) (tk : Takes X W) (hr : Room j X.A) (hk : k ≤ j) (hg : Gl X x) (ha : PA X (e :: es) t) (hdb : (x == ("__debug__" : Str)) = false := by decide)
    (he : starEach (e :: es) X.env = (false, eval e X.env) :: starEach es X.env := by rfl) (hpl : (backTo pos (starEach es X.env)).any (·.1) = false := by rfl) : PE X (.Call (.Name x p) (e :: es) [] pos) (tF sp [] W t) := by
  obtain ⟨f, fd, F, hm, hkp, hb⟩ := c.ex
  refine ⟨fun pins s σ H Q I h => wpAny_Call_Name_kw (ld_glob I hg hm (PySem.W.callWith_K (h₀ := X.base) I.ok.mod.kin hkp (thn (ha.run pos pins s σ H _ I h) fun us s1 ⟨vs, H1, I1, r, q⟩ => ⟨I1.kIn, ?_⟩) he hpl) hdb)⟩
  have r2 := r.append (.nil : Vals [] [])
  have hl : (us ++ []).length = ps.length := by rw [← r2.length]; exact F.len _ _ _ _ q
  refine wpAny_call (codeAny_mono (F.go X.A X.stack s1 H1 ⟨us, []⟩ (us ++ []) (vs ++ []) Q (WE W σ) hg0 (hr.mono hk) I1.env0 (hb s1 us I1.kIn hl) r2 q) fun y s' hq => ?_)
  match y, hq with
  | .error e, hq => exact passAt tk σ pins H1 s1 e s' I1 hq
  | .ok (.ret u), hq => exact I1.after hq
end
/-- a call without arguments of a def that lets nothing out -/
theorem pe_f0 {X : Cx} {k j : Nat} {x : Str} {ps : List Str} {sp : Sp} {p pos : Pos} (c : Cl X.prog X.w X.K X.mg X.base k x ps sp []) (hr : Room j X.A) (hk : k ≤ j) (hg : Gl X x) (hdb : (x == ("__debug__" : Str)) = false := by decide) : PE X (.Call (.Name x p) [] [] pos) (tCall sp [] E0 tNil) := by
  obtain ⟨f, fd, ds, F, hm, hkp, hb, hd⟩ := c.ex
  cases hd
  exact pe_call0 F (hr.mono hk) hg hm hkp hb .nil passL hdb
/-! ### repr, where none is under way -/
section
variable {X : Cx}
def rReprD (K : PySem.W.Frag) : List V → Hp → VK → Prop := fun xs H Q => (∃ (a : Addr) (d : PyData), xs = [.ref a] ∧ Dp K H (.ref a) d ∧ d.showable = true ∧ d.hasDict = false ∧ d.depth ≤ 60 ∧ d.shown.length ≤ sizeLine ∧ Q (.str d.shown) H) ∨
  (∃ i : Int, xs = [.int i] ∧ i.natAbs.log2 < 1920 ∧ Q (.str (toString i)) H) ∨ (∃ b : Bool, xs = [.bl b] ∧ Q (.str (if b then "True" else "False")) H) ∨ (xs = [.non] ∧ Q (.str "None") H) ∨
  ∃ a : Addr, xs = [.ref a] ∧ H a = some (.dK []) ∧ Q (.str (PyData.dict []).shown) H
/-- the same, closed -/
structure rRepr (K : PySem.W.Frag) (xs : List V) (H : Hp) (Q : VK) : Prop where
  is : rReprD K xs H Q
theorem call_repr (hg : X.A.guards = some []) (hu : X.A.units + 64 < cLine) : CallR X (.builtin "repr") (rRepr X.K) := by
  intro pins s σ H xs us Q I r h
  rcases h.is with ⟨a, d, rfl, hd, h1, h2, h3, h4, q⟩ | ⟨i, rfl, hz, q⟩ | ⟨b, rfl, q⟩ | ⟨rfl, q⟩ | ⟨a, rfl, hd, q⟩
  · obtain ⟨u, rfl, rx⟩ := vals1 r
    obtain ⟨as, rd⟩ := Dp.reads I d _ _ hd rx
    obtain rfl : u = Value.ref a := rx
    exact repr_of_reads' rd h1 (PyData.noDict_hsm h2) hg (by omega) (fun _ _ e => e) (fun h' u' tk hk => ⟨.str d.shown, H, I.kept hk, ⟨_, rfl⟩, q⟩) h4
  · obtain ⟨u, rfl, t, rfl⟩ := vals1 r
    exact PySem.P.repr_of_int hz ⟨.str _, H, I.tok _, ⟨_, rfl⟩, q⟩
  · obtain ⟨u, rfl, rx⟩ := vals1 r
    obtain rfl : u = Value.bool b := rx
    exact PySem.P.repr_of_bool ⟨.str _, H, I.tok _, ⟨_, rfl⟩, q⟩
  · obtain ⟨u, rfl, rx⟩ := vals1 r
    obtain rfl : u = Value.none := rx
    exact PySem.P.repr_of_none ⟨.str _, H, I.tok _, ⟨_, rfl⟩, q⟩
  · obtain ⟨u, rfl, rx⟩ := vals1 r
    obtain rfl : u = Value.ref a := rx
    obtain ⟨_, ns, vs, kv, dd⟩ := dk_of I.hok hd
    cases kv
    obtain ⟨o, n, es, ho, hc, hdat, hes⟩ : ∃ (o : Obj) (n : Nat) (es : Array DictEntry), s.heap.get? a = some o ∧ o.cls = .type "dict" ∧ o.data = .dict es n ∧ es = #[] := by
      obtain ⟨o, es, ep, ho, ex, hdat, _, pr, _⟩ := dd
      refine ⟨o, ep, es, ho, ex.1, hdat, ?_⟩
      have : es.toList = [] := by
        cases e : es.toList with
        | nil => rfl
        | cons y ys => rw [e] at pr; cases pr
      exact Array.toList_eq_nil_iff.mp this
    subst hes
    have rd : Reads s.heap (.ref a) (.dict []) (a :: [] ++ []) := .dict ho hc hdat .nil .nil
    exact repr_of_reads' rd (by decide) (fun _ hm => by simp at hm; rw [hm] at ns; simp at ns) hg (by have : (PyData.dict []).depth = 1 := rfl; omega) (fun _ _ e => e) (fun h' u' tk hk => ⟨.str _, H, I.kept hk, ⟨_, rfl⟩, q⟩) (by decide +kernel)
end
end Ew

set_option Elab.async false
set_option linter.all false
set_option maxRecDepth 100000
set_option maxHeartbeats 4000000
namespace Ew
open PySem PySem.Spec PyProof.Rows L2
/-! ### an own class that is asked by [ ], in, len -/
section
variable {X : Cx} {CX : CXT} {k : Nat} {f C : Addr} {fd : FuncData} {ps : List Str} {sp : Sp} {E : L2.St → XK} {a b : Expr} {ta tb : TE} {pos : Pos}
/-- a call one step further in -/
theorem run_fn1 {pins : List (Addr × Obj)} {σ : L2.St} {H : Hp} {s : Shared} {Q : VK} {us : List Value} {vs : List V} {E0 : XK} (F : FnOk X.prog X.w X.K X.mg X.base CX k f fd ps sp) (hr : Room (k + 1) X.A) (hb : Binds X.K fd ps []) (hx : PassesAt CX X σ E0)
    (I : Inv X pins σ H s) (r : Vals vs us) (h : sp vs H Q E0) : wpAny (model X.prog X.w) X.A.in1 (call (.ref f) us) (EP X pins σ Q) X.xe s := by
  have hl : us.length = ps.length := by rw [← r.length]; exact F.len _ _ _ _ h
  have b := hb s us I.kIn (by rw [List.append_nil]; exact hl)
  rw [List.append_nil] at b
  refine wpAny_call (codeAny_mono (F.run X.A.in1 X.stack s H ⟨us, []⟩ us vs Q E0 hr.in1 I.env0.in1 b r h) fun r s' hq => ?_)
  cases r with
  | error e => exact hx pins H s e s' I hq
  | ok fl =>
    cases fl with
    | ret u => exact I.after hq
    | next => exact False.elim hq
    | brk => exact False.elim hq
    | cont => exact False.elim hq
def tIxO (C : Addr) (sp : Sp) (E : L2.St → XK) (ta tb : TE) : TE := fun σ H Q => ta σ H fun x H1 => tb σ H1 fun y H2 => ∃ p dx fs, x = .ref p ∧ H2 p = some (.ins C dx fs) ∧ sp [x, y] H2 Q (E σ)
/-- o[k], o of an own class -/
theorem pe_ixO (F : FnOk X.prog X.w X.K X.mg X.base CX k f fd ps sp) (hr : Room (k + 1) X.A) (M : OpM X.K C "__getitem__" f) (hf : PySem.W.fnIn X.K f = true) (hb : Binds X.K fd ps []) (hx : ∀ σ, PassesAt CX X σ (E σ)) (h1 : PE X a ta) (h2 : PE X b tb)
    (hsl : ∀ x i, subscripted b true (.ref x) i = runValue (.builtin "lifetime.subscript" ⟨[.ref x, i], []⟩)) : PE X (.Subscript a b pos) (tIxO C sp E ta tb) := by
  refine ⟨fun pins s σ H Q I h => Subscript_ (bin h1 h2 I h fun v u s2 x y H2 I2 rx ry q => ?_)⟩
  obtain ⟨p, dx, fs, rfl, e1, q⟩ := q
  cases rx
  obtain ⟨o1, J1⟩ := ins_at I2 e1
  obtain ⟨m, fr⟩ := I2.fr
  exact PySem.W.sub_K fr I2.ok.mod.kin J1 M.at_ hf M.fn (run_fn1 (vs := [.ref p, y]) F hr hb (hx σ) I2 (.cons rfl (.cons ry .nil)) q) (hsl _ _)
def tInO (C : Addr) (sp : Sp) (neg : Bool) (E : L2.St → XK) (ta tb : TE) : TE := fun σ H Q => ta σ H fun x H1 => tb σ H1 fun y H2 => ∃ p dx fs, y = .ref p ∧ H2 p = some (.ins C dx fs) ∧ sp [y, x] H2 (fun z H3 => ∃ r : Bool, z = .bl r ∧ Q (.bl (if neg = true then !r else r)) H3) (E σ)
theorem pc_inO (F : FnOk X.prog X.w X.K X.mg X.base CX k f fd ps sp) (hr : Room k X.A) (M : OpM X.K C "__contains__" f) (hb : Binds X.K fd ps []) (hx : ∀ σ, PassesAt CX X σ (E σ)) (h1 : PE X a ta) (h2 : PE X b tb) : PC X .In a b (tInO C sp false E ta tb) := by
  refine ⟨fun pins s σ H Q I h => bin h1 h2 I h fun v u s2 x y H2 I2 rx ry q => ?_⟩
  obtain ⟨p, dx, fs, rfl, e1, q⟩ := q
  cases ry
  obtain ⟨o1, J1⟩ := ins_at I2 e1
  obtain ⟨m, fr⟩ := I2.fr
  refine PySem.W.in_K fr I2.ok.mod.kin J1 M.at_ M.fn (thn (run_fnS (vs := [.ref p, x]) F hr hb (hx σ) I2 (.cons rfl (.cons rx .nil)) q) fun w s3 z => ?_)
  obtain ⟨v3, H3, I3, r3, t, rfl, q3⟩ := z
  cases r3
  exact wpAny_truthy_bool ⟨.bl t, H3, I3, rfl, q3⟩
theorem pc_ninO (F : FnOk X.prog X.w X.K X.mg X.base CX k f fd ps sp) (hr : Room k X.A) (M : OpM X.K C "__contains__" f) (hb : Binds X.K fd ps []) (hx : ∀ σ, PassesAt CX X σ (E σ)) (h1 : PE X a ta) (h2 : PE X b tb) : PC X .NotIn a b (tInO C sp true E ta tb) := by
  refine ⟨fun pins s σ H Q I h => bin h1 h2 I h fun v u s2 x y H2 I2 rx ry q => ?_⟩
  obtain ⟨p, dx, fs, rfl, e1, q⟩ := q
  cases ry
  obtain ⟨o1, J1⟩ := ins_at I2 e1
  obtain ⟨m, fr⟩ := I2.fr
  refine PySem.W.notIn_K fr I2.ok.mod.kin J1 M.at_ M.fn (thn (run_fnS (vs := [.ref p, x]) F hr hb (hx σ) I2 (.cons rfl (.cons rx .nil)) q) fun w s3 z => ?_)
  obtain ⟨v3, H3, I3, r3, t, rfl, q3⟩ := z
  cases r3
  exact wpAny_truthy_bool ⟨.bl (!t), H3, I3, rfl, q3⟩
/-- len(o), o of an own class; nothing is let out -/
def rLenO (C : Addr) (sp : Sp) (E0 : XK) : List V → Hp → VK → Prop := fun xs H Q => ∃ p dx fs, xs = [.ref p] ∧ H p = some (.ins C dx fs) ∧ sp [.ref p] H (fun z H3 => ∃ n : Int, z = .int n ∧ 0 ≤ n ∧ n < 2 ^ 63 ∧ Q (.int n) H3) E0
theorem call_lenO {E0 : XK} (F : FnOk X.prog X.w X.K X.mg X.base CX k f fd ps sp) (hr : Room (k + 1) X.A) (M : OpM X.K C "__len__" f) (hb : Binds X.K fd ps []) (hx : ∀ σ, PassesAt CX X σ E0) : CallR X (.builtin "len") (rLenO C sp E0) := by
  intro pins s σ H xs us Q I r h
  obtain ⟨p, dx, fs, rfl, e1, q⟩ := h
  obtain ⟨u, rfl, rx⟩ := vals1 r
  cases rx
  obtain ⟨o1, J1⟩ := ins_at I e1
  obtain ⟨m, fr⟩ := I.fr
  refine PySem.W.len_K fr I.ok.mod.kin J1 M.at_ M.fn (thn (run_fn1 (vs := [.ref p]) F hr hb (hx σ) I (.cons rfl .nil) q) fun w s3 z => ?_)
  obtain ⟨v3, H3, I3, r3, n, rfl, n0, n1, q3⟩ := z
  obtain ⟨t, rfl⟩ := r3
  exact ⟨⟨n0, n1⟩, .int n, H3, I3.tok _, ⟨_, rfl⟩, q3⟩
end
end Ew

set_option Elab.async false
set_option linter.all false
set_option maxRecDepth 100000
set_option maxHeartbeats 4000000
namespace Ew
open PySem PySem.Spec PyProof.Rows L2
/-! ### an own == with anything at its right -/
/-- what stands to the right: another of the class, a list, a tuple, a text, a number, a truth value, None -/
def RhsAny (K : PySem.W.Frag) (C : Addr) (H : Hp) (y : V) : Prop := y = .non ∨ (∃ b, y = .bl b) ∨ (∃ i, y = .int i) ∨ (∃ z, y = .str z) ∨ ∃ q, y = .ref q ∧ ((∃ dy gs, H q = some (.ins C dy gs)) ∨ (∃ ys, SqL K H q ys) ∨ ∃ ys, SqT K H q ys)
/-- none of these kinds comes ahead of the class -/
def NoFirst (K : PySem.W.Frag) (C : Addr) : Prop := ∀ T ∈ (["NoneType", "bool", "int", "str", "list", "tuple"] : List String), PySem.W.notFirst K C (.type T) = true
section
variable {X : Cx} {CX : CXT} {k : Nat} {f C : Addr} {fd : FuncData} {ps : List Str} {sp : Sp} {E : L2.St → XK} {a b : Expr} {ta tb : TE} {pos : Pos}
def tEqA (K : PySem.W.Frag) (C : Addr) (sp : Sp) (E : L2.St → XK) (ta tb : TE) : TE := fun σ H Q => ta σ H fun x H1 => tb σ H1 fun y H2 => ∃ p dx fs, x = .ref p ∧ H2 p = some (.ins C dx fs) ∧ RhsAny K C H2 y ∧ sp [x, y] H2 Q (E σ)
theorem looks_val {M : Model} {h : Heap} {v : Value} {T : String} (ht : ∀ s : Shared, s.TypeIs v T) : PySem.W.Looks M h (typeOf v) (.type T) := fun A Q E s _ z => wpAny_typeOf (ht s) z
theorem pc_eqA (F : FnOk X.prog X.w X.K X.mg X.base CX k f fd ps sp) (hr : Room k X.A) (M : OpM X.K C "__eq__" f) (ht : NoFirst X.K C) (hb : Binds X.K fd ps []) (hx : ∀ σ, PassesAt CX X σ (E σ))
    (h1 : PE X a ta) (h2 : PE X b tb) : PC X .Eq a b (tEqA X.K C sp E ta tb) := by
  refine ⟨fun pins s σ H Q I h => bin h1 h2 I h fun v u s2 x y H2 I2 rx ry q => ?_⟩
  obtain ⟨p, dx, fs, rfl, e1, r, q⟩ := q
  cases rx
  obtain ⟨o1, J1⟩ := ins_at I2 e1
  obtain ⟨m, fr⟩ := I2.fr
  have run := thn (run_fnS (vs := [.ref p, y]) F hr hb (hx σ) I2 (.cons rfl (.cons ry .nil)) q) fun _ _ z => back_of z
  show wpAny _ _ (richCompare .Eq (.ref p) u) _ _ _
  rcases r with rfl | ⟨c, rfl⟩ | ⟨i, rfl⟩ | ⟨z, rfl⟩ | ⟨q', rfl, r⟩
  · obtain rfl : u = Value.none := ry
    exact PySem.W.cmp_K (op := .Eq) hr.units0 fr I2.ok.mod.kin J1 (looks_val fun s => rfl) (ht "NoneType" (by simp)) M.at_ M.fn run
  · obtain rfl : u = Value.bool c := ry
    exact PySem.W.cmp_K (op := .Eq) hr.units0 fr I2.ok.mod.kin J1 (looks_val fun s => rfl) (ht "bool" (by simp)) M.at_ M.fn run
  · obtain ⟨t, rfl⟩ := ry
    exact PySem.W.cmp_K (op := .Eq) hr.units0 fr I2.ok.mod.kin J1 (looks_val fun s => rfl) (ht "int" (by simp)) M.at_ M.fn run
  · obtain ⟨t, rfl⟩ := ry
    exact PySem.W.cmp_K (op := .Eq) hr.units0 fr I2.ok.mod.kin J1 (looks_val fun s => rfl) (ht "str" (by simp)) M.at_ M.fn run
  · cases ry
    rcases r with ⟨dy, gs, e2⟩ | ⟨ys, e2⟩ | ⟨ys, e2⟩
    · obtain ⟨o2, J2⟩ := ins_at I2 e2
      exact PySem.W.cmp_K (op := .Eq) hr.units0 fr I2.ok.mod.kin J1 J2.type (by simp [PySem.W.notFirst]) M.at_ M.fn run
    · obtain ⟨its, rv, ⟨o, n, ho, hc, _⟩, _⟩ := I2.list e2
      exact PySem.W.cmp_K (op := .Eq) hr.units0 fr I2.ok.mod.kin J1 (fun A' Q' E' s' kp z => wpAny_typeOf_ref (kp _ _ ho) (by rw [hc]; exact z)) (ht "list" (by simp)) M.at_ M.fn run
    · obtain ⟨its, rv, ⟨o, ho, hc, _⟩, _⟩ := I2.tuple e2
      exact PySem.W.cmp_K (op := .Eq) hr.units0 fr I2.ok.mod.kin J1 (fun A' Q' E' s' kp z => wpAny_typeOf_ref (kp _ _ ho) (by rw [hc]; exact z)) (ht "tuple" (by simp)) M.at_ M.fn run
end
/-! ### the class's own methods, by their promises -/
structure OwC (P : Program) (w : World) (K : PySem.W.Frag) (mg : Str → Option Value) (base : Heap) (k : Nat) (C : Addr) (m : Str) (ps : List Str) (sp : Sp) : Prop where
  ex : ∃ f fd, OpM K C m f ∧ PySem.W.fnIn K f = true ∧ FnOk P w K mg base (L2.CX P w) k f fd ps sp ∧ Binds K fd ps []
section
variable {X : Cx} {k j : Nat} {C : Addr} {ps : List Str} {sp : Sp} {e1 e2 : Expr} {ta tb : TE} {pos : Pos} {W : WX}
theorem pe_ixC (c : OwC X.prog X.w X.K X.mg X.base k C "__getitem__" ps sp) (tk : Takes X W) (hr : Room j X.A) (hk : k + 1 ≤ j) (h1 : PE X e1 ta) (h2 : PE X e2 tb)
    (hsl : ∀ x i, subscripted e2 true (.ref x) i = runValue (.builtin "lifetime.subscript" ⟨[.ref x, i], []⟩)) : PE X (.Subscript e1 e2 pos) (tIxO C sp (WE W) ta tb) := by
  obtain ⟨f, fd, M, hf, F, hb⟩ := c.ex
  exact pe_ixO F (hr.mono hk) M hf hb (fun σ => passAt tk σ) h1 h2 hsl
theorem pc_inC (c : OwC X.prog X.w X.K X.mg X.base k C "__contains__" ps sp) (tk : Takes X W) (hr : Room j X.A) (hk : k ≤ j) (h1 : PE X e1 ta) (h2 : PE X e2 tb) : PC X .In e1 e2 (tInO C sp false (WE W) ta tb) := by
  obtain ⟨f, fd, M, hf, F, hb⟩ := c.ex
  exact pc_inO F (hr.mono hk) M hb (fun σ => passAt tk σ) h1 h2
theorem pc_ninC (c : OwC X.prog X.w X.K X.mg X.base k C "__contains__" ps sp) (tk : Takes X W) (hr : Room j X.A) (hk : k ≤ j) (h1 : PE X e1 ta) (h2 : PE X e2 tb) : PC X .NotIn e1 e2 (tInO C sp true (WE W) ta tb) := by
  obtain ⟨f, fd, M, hf, F, hb⟩ := c.ex
  exact pc_ninO F (hr.mono hk) M hb (fun σ => passAt tk σ) h1 h2
theorem pc_eqC (c : OwC X.prog X.w X.K X.mg X.base k C "__eq__" ps sp) (ht : NoFirst X.K C) (tk : Takes X W) (hr : Room j X.A) (hk : k ≤ j) (h1 : PE X e1 ta) (h2 : PE X e2 tb) : PC X .Eq e1 e2 (tEqA X.K C sp (WE W) ta tb) := by
  obtain ⟨f, fd, M, hf, F, hb⟩ := c.ex
  exact pc_eqA F (hr.mono hk) M ht hb (fun σ => passAt tk σ) h1 h2
theorem call_lenC (c : OwC X.prog X.w X.K X.mg X.base k C "__len__" ps sp) (hr : Room j X.A) (hk : k + 1 ≤ j) : CallR X (.builtin "len") (rLenO C sp E0) := by
  obtain ⟨f, fd, M, hf, F, hb⟩ := c.ex
  exact call_lenO F (hr.mono hk) M hb fun σ pins H s e s' I h => passL pins σ H s e s' I h
end
end Ew

set_option Elab.async false
set_option linter.all false
set_option maxRecDepth 100000
set_option maxHeartbeats 4000000
namespace Ew
open PySem PySem.Spec PyProof.Rows L2
/-! ### a def that an except suite calls with the error it holds; nothing leaves it but by return -/
section
variable {P : Program} {w : World} {K : PySem.W.Frag} {mg : Str → Option Value} {base : Heap}
/-- the error at a, of the class cls, its dict d -/
abbrev SpE := Addr → Value → Option Addr → Sp
structure FnE (P : Program) (w : World) (K : PySem.W.Frag) (mg : Str → Option Value) (base : Heap) (k : Nat) (f : Addr) (fd : FuncData) (ps : List Str) (sp : SpE) : Prop where
  len : ∀ a cls d vs H Q E, sp a cls d vs H Q E → vs.length = ps.length
  go : ∀ (A : Around) (outer : List Env) (s : Shared) (H : Hp) (args : Args) (us : List Value) (vs : List V) (Q : VK) (E : XK) (a : Addr) (oe : Obj) (cls : Value) (d : Option Addr), A.guards = some [] → A.handled = some (.ref a) → Zc cls d oe → (∃ vs, oe.data = .fields vs) →
    L2H.RoomH k A → L2H.PinOk outer H s (a, oe) → Env0 P w K mg base A outer s H → BindsTo s fd args (ps.zip us) → Vals vs us → sp a cls d vs H Q E → codeAny (model P w) A (.call (.ref f) args) (CR (L2.CX P w) outer P w H s Q E) s
def BodyE (P : Program) (w : World) (K : PySem.W.Frag) (mg : Str → Option Value) (base : Heap) (N : List Str) (qual : Str) (st : Stmt) (k : Nat) (sp : SpE) : Prop :=
  ∀ (f : Addr) (cdv : Value) (A : Around) (outer : List Env) (s : Shared) (H : Hp) (vs : List V) (Q : VK) (E : XK) (a : Addr) (oe : Obj) (cls : Value) (d : Option Addr), (cxB P w K mg base N qual st f cdv A outer s H E).A.guards = some [] → Zc cls d oe → (∃ vs, oe.data = .fields vs) →
    L2H.RoomH k (cxB P w K mg base N qual st f cdv A outer s H E).A → sp a cls d vs H Q E →
    ∃ t, PSs ((cxB P w K mg base N qual st f cdv A outer s H E).suite a [(a, oe)]) (defBody st) t ∧ t { nx := fun _ H' => Q .non H', rt := Q } (start N vs) H
theorem mark_same {A : Around} {h : Option Value} (e : A.handled = h) : A.mark h = A := by
  subst e
  obtain ⟨h, d, fr, g, u⟩ := A
  cases h <;> rfl
theorem fun_hot {x qual : Str} {st : Stmt} {f : Addr} {fd : FuncData} {ps N : List Str} {k : Nat} {sp : SpE} (F : Fun K x qual st f fd) (S : FnScope N ps (defScope st)) (len : ∀ a cls d vs H Q E, sp a cls d vs H Q E → vs.length = ps.length) (h : BodyE P w K mg base N qual st k sp) :
    FnE P w K mg base (k + 1) f fd ps sp := by
  obtain ⟨oc, od, kV, doc, pm, an, cdv, ct, osl, rfl, lk, hcd⟩ := F.ex
  refine ⟨len, ?_⟩
  intro A outer s H args us vs Q E a oe cls d hg hh hz hf room pin e0 bind rel ask
  have many := len _ _ _ _ _ _ _ ask
  have kept : ∀ b o, base.get? b = some o → s.heap.get? b = some o := fun b o e => (e0.bs b o e).1
  have KX : K.In s.heap := e0.mod.kin.keeps kept
  have locals_ : ∀ y ∈ ps.zip us, (defScope st).names.lookup y.1 = some .local ∨ ((defScope st).names.lookup y.1 = some .cell ∧ ((cellsFrom (s.heap.objs.size + 1) (defScope st).names []).lookup y.1).isSome = true) := by
    rintro ⟨nm, v⟩ hy
    refine (S.par nm (List.of_mem_zip hy).1).imp id fun q => ⟨q, ?_⟩
    exact PySem.W.cellsFrom_some _ _ _ (.inl q)
  refine codeAny_call_function room.depth (KX _ _ lk) rfl S.co S.gen rfl (PySem.W.codeRec_of KX hcd) (bind _ _ _ _ ?_)
  refine wpAny_newFunctionEnv_cells S.kind locals_ ?_
  rintro env rfl s1 x
  refine ⟨(e0.mod.nolimit.keeps kept).keeps x.toInCall.keep, codeAny_func ?_⟩
  obtain ⟨t, ht, goal⟩ := h f cdv A outer s H vs Q E a oe cls d hg hz hf (room.deeper _) ask
  have J := L2H.inv_startH (CX := L2.CX P w) (E := E) (f := f) (cd := cdv) (qual := qual) S pin e0 many rel x
  have ok := J.ok
  have I : Inv ((cxB P w K mg base N qual st f cdv A outer s H E).suite a [(a, oe)]) [] (start N vs) H s1 :=
    ⟨⟨ok.mod, ok.kind, ok.glob, ok.blt, ok.above, ok.inj, ok.has, ok.cab, fun z => Bool.noConfusion (show false = true from z), ok.frames, ok.stk, ok.exf, ok.bs, ok.bsz, ok.noex, ok.exfs, ok.funs, ok.frf⟩, J.os, J.bare, J.base, J.loc, J.cell, J.free, J.freeC, J.pin, J.hok, J.len⟩
  have r := ht.run [] s1 (start N vs) H _ I goal
  have same : ((cxB P w K mg base N qual st f cdv A outer s H E).suite a [(a, oe)]).A = (cxB P w K mg base N qual st f cdv A outer s H E).A := mark_same hh
  rw [same] at r
  refine wpAny_mono r ?_ fun e s' z => z.elim
  intro fl s' end_
  match fl, end_ with
  | .ret u, ⟨v, σ', H', J, rv, q⟩ => exact ⟨v, H', J.os, J.bare, J.base, J.hok, rv, q⟩
  | .next, ⟨σ', H', J, q⟩ => exact ⟨.non, H', J.os, J.bare, J.base, J.hok, rfl, q⟩
  | .brk, ⟨_, _, _, q⟩ => exact q.elim
  | .cont, ⟨_, _, _, q⟩ => exact q.elim
structure ClE (P : Program) (w : World) (K : PySem.W.Frag) (mg : Str → Option Value) (base : Heap) (k : Nat) (x : Str) (ps : List Str) (sp : SpE) : Prop where
  ex : ∃ f fd, FnE P w K mg base k f fd ps sp ∧ mg x = some (.ref f) ∧ PySem.W.keepIn K (.ref f) = true ∧ Binds K fd ps []
theorem DefAt.clE {x : Str} {st : Stmt} {ps N : List Str} {k : Nat} {sp : SpE} (D : DefAt K mg x st ps) (S : FnScope N ps (defScope st)) (len : ∀ a cls d vs H Q E, sp a cls d vs H Q E → vs.length = ps.length) (h : BodyE P w K mg base N x st k sp) : ClE P w K mg base (k + 1) x ps sp := by
  obtain ⟨f, fd, F, g, b⟩ := D.ex
  exact ⟨f, fd, fun_hot F S len h, g, F.kp, b⟩
end
section
variable {X : Cx} {k j : Nat} {x : Str} {ps : List Str} {sp : SpE} {e : Expr} {es : List Expr} {t : TA} {p pos : Pos} {a : Addr} {oe : Obj} {cls : Value} {d : Option Addr} {pn : List (Addr × Obj)}
theorem pe_fE (hg0 : X.A.guards = some []) (c : ClE X.prog X.w X.K X.mg X.base k x ps sp) (hz : Zc cls d oe) (hf : ∃ vs, oe.data = .fields vs) (hr : Room j X.A) (hk : k ≤ j) (hg : Gl X x) (ha : PA (X.suite a ((a, oe) :: pn)) (e :: es) t) (hdb : (x == ("__debug__" : Str)) = false := by decide)
    (he : starEach (e :: es) X.env = (false, eval e X.env) :: starEach es X.env := by rfl) (hpl : (backTo pos (starEach es X.env)).any (·.1) = false := by rfl) : PE (X.suite a ((a, oe) :: pn)) (.Call (.Name x p) (e :: es) [] pos) (tCall (sp a cls d) [] E0 t) := by
  obtain ⟨f, fd, F, hm, hkp, hb⟩ := c.ex
  have hr := hr.mono hk
  refine ⟨fun pins s σ H Q I h => wpAny_Call_Name_kw (ld_glob I hg hm (PySem.W.callWith_K (h₀ := X.base) I.ok.mod.kin hkp (thn (ha.run pos pins s σ H _ I h) fun us s1 ⟨vs, H1, I1, r, q⟩ => ⟨I1.kIn, ?_⟩) he hpl) hdb)⟩
  have r2 := r.append (.nil : Vals [] [])
  have hl : (us ++ []).length = ps.length := by rw [← r2.length]; exact F.len _ _ _ _ _ _ _ q
  have P1 := I1.pin (a, oe) (List.mem_append_left _ List.mem_cons_self)
  have pin : L2H.PinOk X.stack H1 s1 (a, oe) := ⟨P1.1, P1.2.1, fun hm => (List.mem_cons.mp (I1.stkSub a hm)).elim P1.2.2.1 P1.2.2.2.1, P1.2.2.2.2⟩
  refine wpAny_call (codeAny_mono (F.go _ X.stack s1 H1 ⟨us, []⟩ (us ++ []) (vs ++ []) Q E0 a oe cls d hg0 rfl hz hf ⟨hr.dp, hr.un⟩ pin I1.env0 (hb s1 us I1.kIn hl) r2 q) fun y s' hq => ?_)
  match y, hq with
  | .error e, hq => exact passL pins σ H1 s1 e s' I1 hq
  | .ok (.ret u), hq => exact I1.after hq
end
end Ew

set_option Elab.async false
set_option linter.all false
set_option maxRecDepth 100000
set_option maxHeartbeats 4000000
namespace Ew
open PySem PySem.Spec PyProof.Rows L2
/-! ### a new instance whose __init__ may let an error out, at the slots where it is made -/
section
variable {X : Cx} {k j : Nat} {x : Str} {C : Addr} {ps : List Str} {sp : Sp} {e : Expr} {es : List Expr} {t : TA} {p pos : Pos} {W : WX}
def tMkW (C : Addr) (sp : Sp) (W : WX) (t : TA) : TE := fun σ H Q => t σ H fun vs H1 => ∀ o d, H1 o = none → H1 d = none → d ≠ o →
  sp (.ref o :: vs) (upd (upd H1 d (.own o)) o (.ins C d [])) (fun v H2 => v = .non ∧ Q (.ref o) H2) (WE W σ)
theorem pe_mkW (c : Mkr X.prog X.w X.K X.mg X.base k x C ps sp) (tk : Takes X W) (hr : Room j X.A) (hk : k + 1 ≤ j) (hg : Gl X x) (ha : PA X (e :: es) t) (hdb : (x == ("__debug__" : Str)) = false := by decide)
    (he : starEach (e :: es) X.env = (false, eval e X.env) :: starEach es X.env := by rfl) (hpl : (backTo pos (starEach es X.env)).any (·.1) = false := by rfl) : PE X (.Call (.Name x p) (e :: es) [] pos) (tMkW C sp W t) := by
  obtain ⟨f, fd, M, F, hb⟩ := c.ex
  have room : Room (k + 1) X.A := hr.mono hk
  refine ⟨fun pins s σ H Q I h => wpAny_Call_Name_kw (ld_glob I hg c.gC (PySem.W.callWith_K (h₀ := X.base) I.ok.mod.kin M.kp (thn (ha.run pos pins s σ H _ I h) fun us s1 z => ?_) he hpl) hdb)⟩
  obtain ⟨vs, H1, J, r, q⟩ := z
  refine ⟨J.kIn, ?_⟩
  have ask := q (s1.heap.objs.size + 1) s1.heap.objs.size (J.hok.fresh (Nat.le_succ _)) (J.hok.fresh (Nat.le_refl _)) (Nat.ne_of_lt (Nat.lt_succ_self _))
  have both : Vals (V.ref (s1.heap.objs.size + 1) :: vs) (Value.ref (s1.heap.objs.size + 1) :: us) := .cons rfl r
  have many : (Value.ref (s1.heap.objs.size + 1) :: us).length = ps.length := both.length ▸ F.len _ _ _ _ ask
  have J2 := Inv.made (C := C) J
  have bind := hb _ (Value.ref (s1.heap.objs.size + 1) :: us) J2.kIn (by rw [List.append_nil]; exact many)
  rw [List.append_nil] at bind
  have go := F.run _ X.stack _ _ ⟨Value.ref (s1.heap.objs.size + 1) :: us, []⟩ _ _ _ _ (room.make C us []) (J2.env0.make C us []) bind both ask
  refine wpAny_call (make_map (f := f) J.kIn M.makes M.init (beq_iff_eq.mp M.fn) (codeAny_mono go fun y s' end_ => ?_))
  match y, end_ with
  | .error e, end_ => exact passAt tk σ pins _ _ e s' J2 end_
  | .ok (.ret u), end_ =>
    obtain ⟨v, H', J3, rv, rfl, q3⟩ := J2.after end_
    exact ⟨rv, .ref _, H', J3, rfl, q3⟩
end
end Ew

set_option Elab.async false
set_option linter.all false
set_option maxRecDepth 100000
set_option maxHeartbeats 4000000
namespace Ew
open PySem PySem.Spec PyProof.Rows L2
/-! ### a walk over an own class whose __iter__ hands iter of a dict of its own -/
/-- what is known behind such a call -/
def KI (outer : List Env) (P : Program) (w : World) (H : Hp) (s : Shared) (d : Addr) (n ep : Nat) (u : Value) (s' : Shared) : Prop :=
  ∃ (it : Addr) (H' : Hp), u = .ref it ∧ H' = H ∧ s'.os = s.os ∧ AllBare s'.gens ∧ Un (frs outer) [] H H' s.heap s'.heap ∧ HOk P w H' s'.heap ∧ H' it = none ∧ s.heap.objs.size ≤ it ∧ s'.heap.IsKeyIter it d 0 n ep
def KR (outer : List Env) (P : Program) (w : World) (H : Hp) (s : Shared) (d : Addr) (n ep : Nat) (r : Result) (s' : Shared) : Prop :=
  match r with
  | .ok (.ret u) => KI outer P w H s d n ep u s'
  | .ok _ => False
  | .error e => L2.CX P w outer H s E0 e s'
section
variable {P : Program} {w : World} {K : PySem.W.Frag} {mg : Str → Option Value} {base : Heap}
structure FnI (P : Program) (w : World) (K : PySem.W.Frag) (mg : Str → Option Value) (base : Heap) (k : Nat) (f : Addr) (fd : FuncData) (C : Addr) (at_ : Str) : Prop where
  go : ∀ (A : Around) (outer : List Env) (s : Shared) (H : Hp) (args : Args) (a dx d : Addr) (fs : List (Str × V)) (o : Obj) (kvs : List (List Key × V)) (es : Array DictEntry) (ep : Nat), Room k A → Env0 P w K mg base A outer s H → BindsTo s fd args ([("self", .ref a)]) →
    H a = some (.ins C dx fs) → fs.lookup at_ = some (.ref d) → H d = some (.frz o (.dT kvs)) → o.data = .dict es ep →
    codeAny (model P w) A (.call (.ref f) args) (KR outer P w H s d kvs.length ep) s
theorem call_iter_dict {prog : Program} {A : Around} {E : Value → Shared → Prop} {s : Shared} {d : Addr} {o : Obj} {es : Array DictEntry} {ep : Nat} {Q : Value → Shared → Prop} (hd : (d == sysModules) = false) (ho : s.heap.get? d = some o) (hc : o.ExactDict) (hdat : o.data = .dict es ep)
    (hQ : Q (.ref s.heap.objs.size) { s with heap := s.heap.push { cls := .type "dict_keyiterator", data := .fields #[.ref d, .int 0 0, .int es.size 0, .int ep 0] } }) : wpAny (model prog w) A (call (.builtin "iter") [.ref d]) Q E s := by
  refine Calls.call_function_entry (by decide +kernel) (by decide +kernel) PySem.W.kdk_entry_iter (PySem.W.kdk_args_iter _) ?_
  unfold Builtin.«iter»
  refine wpAny_bind (m := someArgs "iter" 1 2 _) (wpAny_of_eq (a := [Value.ref d]) (by first | rfl | kernel_rfl!) ?_)
  show wpAny _ _ (pyIter (.ref d) >>= _) _ _ _
  refine wpAny_bind (iter_keys hd ho hc hdat ?_)
  exact wpAny_pure ⟨_, rfl, hQ⟩
theorem fun_it {q : Str} {st : Stmt} {f C : Addr} {fd : FuncData} {N : List Str} {k : Nat} {at_ : Str} {ea : Expr} {np cp rp : Pos} (F : Fun K "__iter__" q st f fd) (S : FnScope N ["self"] (defScope st)) (hb : defBody st = [.Return (some (.Call (.Name "iter" np) [ea] [] cp)) rp]) (hm : mg "iter" = none)
    (he : ∀ (cdv : Value) (A : Around) (outer : List Env) (s : Shared) (H : Hp), ∃ te : TE, PE (cxB P w K mg base N q st f cdv A outer s H E0) ea te ∧ Gl (cxB P w K mg base N q st f cdv A outer s H E0) "iter" ∧
      starEach [ea] (cxB P w K mg base N q st f cdv A outer s H E0).env = (false, eval ea (cxB P w K mg base N q st f cdv A outer s H E0).env) :: starEach [] (cxB P w K mg base N q st f cdv A outer s H E0).env ∧
      ∀ (H1 : Hp) (Q : VK) (a dx d : Addr) (fs : List (Str × V)), H1 a = some (.ins C dx fs) → fs.lookup at_ = some (.ref d) → Q (.ref d) H1 → te (start N [.ref a]) H1 Q) :
    FnI P w K mg base (k + 1) f fd C at_ := by
  obtain ⟨oc, od, kV, doc, pm, an, cdv, ct, osl, rfl, lk, hcd⟩ := F.ex
  refine ⟨?_⟩
  intro A outer s H args a dx d fs o kvs es ep room e0 bind ha hl hd hdat
  have kept : ∀ b o, base.get? b = some o → s.heap.get? b = some o := fun b o e => (e0.bs b o e).1
  have KX : K.In s.heap := e0.mod.kin.keeps kept
  have locals_ : ∀ y ∈ ([("self", Value.ref a)] : List (Str × Value)), (defScope st).names.lookup y.1 = some .local ∨ ((defScope st).names.lookup y.1 = some .cell ∧ ((cellsFrom (s.heap.objs.size + 1) (defScope st).names []).lookup y.1).isSome = true) := by
    rintro ⟨nm, v⟩ hy
    have hn : nm ∈ (["self"] : List Str) := by
      rcases List.mem_cons.mp hy with h | h
      · cases h; exact List.mem_cons_self
      · exact absurd h List.not_mem_nil
    refine (S.par nm hn).imp id fun q => ⟨q, ?_⟩
    exact PySem.W.cellsFrom_some _ _ _ (.inl q)
  refine codeAny_call_function room.depth (KX _ _ lk) rfl S.co S.gen rfl (PySem.W.codeRec_of KX hcd) (bind _ _ _ _ ?_)
  refine wpAny_newFunctionEnv_cells S.kind locals_ ?_
  rintro env rfl s1 x
  refine ⟨(e0.mod.nolimit.keeps kept).keeps x.toInCall.keep, codeAny_func ?_⟩
  obtain ⟨te, hpe, hg, hst, hte⟩ := he cdv A outer s H
  have I1 : Inv (cxB P w K mg base N q st f cdv A outer s H E0) [] (start N [.ref a]) H s1 := inv_start (us := [.ref a]) S room.hd e0 rfl (.cons rfl .nil) x
  have main : wpAny (model P w) (cxB P w K mg base N q st f cdv A outer s H E0).A (execs (defBody st) (cxB P w K mg base N q st f cdv A outer s H E0).env) (fun fl s' => ∃ it, fl = .ret (.ref it) ∧ (∃ σ', Inv (cxB P w K mg base N q st f cdv A outer s H E0) [] σ' H s') ∧ H it = none ∧ s.heap.objs.size ≤ it ∧ s'.heap.IsKeyIter it d 0 kvs.length ep) (cxB P w K mg base N q st f cdv A outer s H E0).xe s1 := by
    rw [hb]
    refine wpAny_execs_cons (thn (wpAny_Return_some (Q := fun fl s' => ∃ it, fl = .ret (.ref it) ∧ (∃ σ', Inv (cxB P w K mg base N q st f cdv A outer s H E0) [] σ' H s') ∧ H it = none ∧ s.heap.objs.size ≤ it ∧ s'.heap.IsKeyIter it d 0 kvs.length ep) (wpAny_Call_Name_kw (ld_blt I1 hg hm (by decide +kernel : bootBuiltins "iter" = some (.builtin "iter")) ?_ (by decide) (by decide)))) ?_)
    · refine PyProof.Rows.callWith_builtin1 (thn ((pa_cons hpe pa_nil (hs := hst)).run cp [] s1 (start N [.ref a]) H (fun vs H1 => vs = [.ref d] ∧ H1 = H) I1 (hte H _ a dx d fs ha hl ⟨rfl, rfl⟩)) fun us s2 z => ?_) hst (by rfl)
      obtain ⟨vs, H1, I2, r2, rfl, rfl⟩ := z
      obtain ⟨u, rfl, ru⟩ := vals1 r2
      obtain rfl : u = Value.ref d := ru
      obtain ⟨hs, hgd, hx, es', ep', hdt, hsz, ent⟩ := I2.frzT hd
      obtain ⟨rfl, rfl⟩ := dict_ep hdat hdt
      refine call_iter_dict hs hgd hx hdt ⟨_, rfl, ⟨_, I2.kept (t' := s2.toks) fun b ob e => Heap.get?_push_of_some _ e⟩, I2.hok.fresh (Nat.le_refl _), ?_, ⟨_, Heap.get?_push_size _ rfl, rfl, ?_⟩⟩
      · exact I2.sz
      · rw [hsz]
        rfl
    · rintro fl s' ⟨it, rfl, h⟩
      exact ⟨it, rfl, h⟩
  refine wpAny_mono main ?_ (fun e s' z => z)
  rintro fl s' ⟨it, rfl, ⟨σ', J⟩, h1, h2, h3⟩
  exact ⟨it, H, rfl, rfl, J.os, J.bare, J.base, J.hok, h1, h2, h3⟩
end
/-- an own class with such an __iter__, its promise -/
structure ItrC (P : Program) (w : World) (K : PySem.W.Frag) (mg : Str → Option Value) (base : Heap) (k : Nat) (C : Addr) (at_ : Str) : Prop where
  ex : ∃ f fd, OpM K C "__iter__" f ∧ FnI P w K mg base k f fd C at_ ∧ Binds K fd ["self"] []
section
variable {X : Cx} {tg e : Expr} {td : TE} {C : Addr} {at_ : Str} {k j : Nat}
def iOwn (C : Addr) (at_ : Str) (td : TE) : TI := fun σ H R => td σ H fun x H1 => ∃ a dx fs d o kvs, x = .ref a ∧ H1 a = some (.ins C dx fs) ∧ fs.lookup at_ = some (.ref d) ∧ H1 d = some (.frz o (.dT kvs)) ∧ R (Itkt d o kvs) H1
/-- for k in o, o of an own class -/
theorem pi_own (c : ItrC X.prog X.w X.K X.mg X.base k C at_) (hr : Room j X.A) (hk : k ≤ j) (he : PE X e td) : PI X tg e (iOwn C at_ td) := by
  obtain ⟨f, fd, M, FI, hb⟩ := c.ex
  refine ⟨fun pins s σ H R I h => thn (he.run pins s σ H _ I h) fun u s1 z => ?_⟩
  obtain ⟨x, H1, I1, rx, a, dx, fs, d, o, kvs, rfl, ha, hl, hd, q⟩ := z
  obtain rfl : u = Value.ref a := rx
  obtain ⟨od, J⟩ := ins_at I1 ha
  obtain ⟨m, fr⟩ := I1.fr
  obtain ⟨hs, hgd, hx, es, ep, hdt, hsz, ent⟩ := I1.frzT hd
  have b := hb s1 [.ref a] I1.kIn (by rfl)
  refine PySem.W.owit_iter fr I1.ok.mod.kin J M.at_ M.fn (wpAny_call (codeAny_mono (FI.go X.A X.stack s1 H1 ⟨[.ref a], []⟩ a dx d fs o kvs es ep (hr.mono hk) I1.env0 b ha hl hd hdt) fun r s' hq => ?_))
  match r, hq with
  | .error e, hq => exact passL pins σ H1 s1 e s' I1 hq
  | .ok (.ret u), hq =>
    obtain ⟨it, H', rfl, rfl, os, bare, un, hok, hn, hz, hit⟩ := hq
    obtain ⟨hh, g, dd, t, os'⟩ := s'
    obtain rfl : os' = s1.os := os
    have J2 := I1.call (h' := hh) (g' := g) (d' := dd) (t' := t) (ch := []) un hok bare (fun b z => absurd z (by simp))
    show PySem.W.OwitIt _ _ _ _ _ _
    unfold PySem.W.OwitIt
    refine wpAny_specialOf hit.typeIs PySem.F.slot_dict_keyiterator_next.lookup ?_
    refine ⟨it, [it], _, Itkt d o kvs, _, rfl, J2, turn_keysT it hdt, hit, fun b hb => ?_, q⟩
    have e : b = it := by simpa using hb
    subst e
    exact I1.fpOk hz hn
end
end Ew

set_option Elab.async false
set_option linter.all false
set_option maxRecDepth 100000
set_option maxHeartbeats 4000000
namespace Ew
open PySem PySem.Spec PyProof.Rows L2
/-! ### list(o), o of an own class with __len__, whose __iter__ hands iter of a dict of its own -/
section
variable {P : Program} {w : World} {A : Around} {E : Value → Shared → Prop} {s : Shared} {K : PySem.W.Frag} {a f C : Addr} {ox : Obj} {od : Option Obj}
/-- the length is asked, and some room is made where it is above 0 -/
theorem own_length {Q : Bool → Shared → Prop} (hK : K.In s.heap) (J : PySem.W.InstAt s.heap a ox C od) (M : OpM K C "__len__" f)
    (h : wpAny (model P w) A (call (.builtin "len") [.ref a]) (fun v s' => ∃ (n : Nat) (t : Tok), v = .int n t ∧ n ≤ sizeLine ∧ Q (n != 0) s') (fun _ _ => False) s) : wpAny (model P w) A (Builtin.List.listLengthHint (.ref a)) Q E s := by
  unfold Builtin.List.listLengthHint
  refine wpAny_bind (wpAny_bind (J.type.here ((PySem.W.looks_findIn hK M.at_).here ?_)))
  refine PySem.W.KFB.if_not rfl ?_
  refine wpAny_ite_split (fun _ => ?_) (fun z => absurd (show (some (Value.ref f)).isSome = true from rfl) z)
  refine wpAny_bind (wpAny_rule ?_)
  refine wpAny_bind (wpAny_attempt (wpAny_mono h (fun v s' hv => ?_) fun e s' he => ?_))
  · obtain ⟨n, t, rfl, hn, q⟩ := hv
    refine wpAny_bind (wpAny_pure ?_)
    have hl : Builtin.List.listTooLong ((n : Nat) : Int).toNat = false := by
      unfold Builtin.List.listTooLong
      simpa using hn
    show wpAny _ _ (if Builtin.List.listTooLong ((n : Nat) : Int).toNat = true then _ else pure (((n : Nat) : Int) != 0)) _ _ _
    rw [if_neg (by rw [hl]; decide)]
    refine wpAny_pure ?_
    have e : (((n : Nat) : Int) != 0) = (n != 0) := by
      rw [Bool.eq_iff_iff]
      simp
    rw [e]
    exact q
  · exact he.elim
end
section
variable {X : Cx} {pins : List (Addr × Obj)} {σ : L2.St} {H : Hp} {s : Shared} {k : Nat} {f : Addr} {fd : FuncData} {ps : List Str} {sp : Sp}
/-- somewhere below the running body -/
structure Low (X : Cx) (k : Nat) (A : Around) : Prop where
  room : Room k A
  fr : A.frames = X.A.frames
theorem Low.env0 {A : Around} (l : Low X k A) (I : Inv X pins σ H s) : Env0 X.prog X.w X.K X.mg X.base A X.stack s H := by
  have e := I.env0
  exact ⟨l.fr.trans e.frames, e.mod, e.bs, e.bsz, e.funs, e.frf, e.hok, e.bare⟩
/-- a call there of a def that lets nothing out -/
theorem run_low {A : Around} {Q : VK} {us : List Value} {vs : List V} {E : Value → Shared → Prop} (F : FnOk X.prog X.w X.K X.mg X.base (L2.CX X.prog X.w) k f fd ps sp) (l : Low X k A) (hb : Binds X.K fd ps [])
    (I : Inv X pins σ H s) (r : Vals vs us) (h : sp vs H Q E0) : wpAny (model X.prog X.w) A (call (.ref f) us) (EP X pins σ Q) E s := by
  have many : us.length = ps.length := r.length ▸ F.len _ _ _ _ h
  have bind := hb s us I.kIn (by rw [List.append_nil]; exact many)
  rw [List.append_nil] at bind
  refine wpAny_call (codeAny_mono (F.run A X.stack s H ⟨us, []⟩ us vs Q E0 l.room (l.env0 I) bind r h) fun y s' end_ => ?_)
  match y, end_ with
  | .error e, ⟨_, _, _, _, _, _, _, _, _, _, _, _, bad⟩ => exact bad.elim
  | .ok (.ret u), end_ => exact I.after end_
end
section
variable {X : Cx} {C : Addr} {at_ : Str} {k j : Nat} {sp : Sp}
/-- the keys of such a dict, off a row of addresses -/
theorem keys_row {H : Hp} : ∀ {kvs : List (List Key × V)} {vs : List Value}, vs.length = kvs.length → (∀ (i : Nat) (k : List Key) (v : V), kvs[i]? = some (k, v) → ∃ b : Addr, vs[i]? = some (Value.ref b) ∧ H b = some (.tup (k.map kV))) →
    ∃ bs, IsKeys H kvs bs ∧ vs = bs.map Value.ref ∧ Vals (bs.map V.ref) vs
  | [], [], _, _ => ⟨[], .nil, rfl, .nil⟩
  | (k, v) :: kvs, u :: vs, hl, h => by
    obtain ⟨b, e, hb⟩ := h 0 k v rfl
    obtain rfl : u = .ref b := Option.some.inj e
    obtain ⟨bs, h1, h2, h3⟩ := keys_row (by simpa using hl) fun i k v e => h (i + 1) k v e
    exact ⟨b :: bs, .cons hb h1, by rw [h2]; rfl, .cons rfl h3⟩
def rListC (C : Addr) (at_ : Str) (sp : Sp) : List V → Hp → VK → Prop := fun xs H Q => ∃ a dx fs d o kvs, xs = [.ref a] ∧ H a = some (.ins C dx fs) ∧ fs.lookup at_ = some (.ref d) ∧ H d = some (.frz o (.dT kvs)) ∧
  (∀ q, H q = none → sp [.ref a] (upd H q (.lst [])) (fun z H3 => ∃ n : Nat, z = .int n ∧ n ≤ sizeLine ∧ H3 = upd H q (.lst [])) E0) ∧ ∀ p bs, H p = none → IsKeys H kvs bs → Q (.ref p) (upd H p (.lst (bs.map V.ref)))
theorem call_listC (hc : X.calm = true) (ci : ItrC X.prog X.w X.K X.mg X.base k C at_) (cl : OwC X.prog X.w X.K X.mg X.base k C "__len__" ["self"] sp) (hr : Room j X.A) (hk : k + 3 ≤ j) : CallR X (.type "list") (rListC C at_ sp) := by
  intro pins s σ H xs us Q I r h
  obtain ⟨a, dx, fs, d, o, kvs, rfl, ha, hl, hd, hlen, q⟩ := h
  obtain ⟨u, rfl, rx⟩ := vals1 r
  obtain rfl : u = Value.ref a := rx
  obtain ⟨fi, fdi, Mi, FI, bi⟩ := ci.ex
  obtain ⟨fl, fdl, Ml, _, FL, bl⟩ := cl.ex
  refine callType_codes (Q₁ := fun obj s₁ => obj = .ref s.heap.objs.size ∧ s₁ = { s with heap := s.heap.push { cls := .type "list", data := .seq #[] } }) PySem.F.called_list (PySem.F.typeCall_list_1 _) PySem.F.entry_list_init (code_list_new _ ⟨rfl, rfl⟩) ?_
  rintro obj s1 ⟨rfl, rfl⟩
  have I1 : Inv X pins σ (upd H s.heap.objs.size (.lst [])) { s with heap := s.heap.push { cls := .type "list", data := .seq #[] } } := I.lnew (its := []) (t' := s.toks) .nil (Nat.zero_le _)
  have free := I.fresh
  have pa : a ≠ s.heap.objs.size := ne_of_none ha free
  have pd : d ≠ s.heap.objs.size := ne_of_none hd free
  obtain ⟨_, its, n, r1, l1, g1⟩ := I1.lstM upd_same
  cases r1
  refine ⟨⟨_, g1, rfl⟩, PySem.F.args_list_init_2 _ _, ?_⟩
  unfold Builtin.«list.__init__»
  refine wpAny_bind (m := Builtin.List.listItems (.ref s.heap.objs.size)) ?_
  unfold Builtin.List.listItems Builtin.List.listUpdate
  refine wpAny_bind (wpAny_seqItems g1 rfl (wpAny_pure (wpAny_bind (wpAny_updateSeq g1 rfl ?_))))
  have I2 := I1.lset (f := fun _ => #[]) (its := []) (its' := []) (ys := []) (t' := s.toks) upd_same g1 rfl .nil (Nat.zero_le _)
  rw [upd_upd] at I2
  refine wpAny_bind (wpAny_letGo ?_)
  obtain ⟨_, its2, n2, r2, l2, g2⟩ := I2.lstM upd_same
  cases r2
  have ha2 : upd H s.heap.objs.size (.lst []) a = some (.ins C dx fs) := by rw [upd_ne pa]; exact ha
  have hd2 : upd H s.heap.objs.size (.lst []) d = some (.frz o (.dT kvs)) := by rw [upd_ne pd]; exact hd
  have hl2 := hlen _ free
  have hp2 : upd H s.heap.objs.size (.lst []) s.heap.objs.size = some (.lst []) := upd_same
  obtain ⟨H2, eH⟩ : ∃ H2, H2 = upd H s.heap.objs.size (.lst []) := ⟨_, rfl⟩
  rw [← eH] at I2 ha2 hd2 hl2 hp2
  obtain ⟨p, ep⟩ : ∃ p, p = s.heap.objs.size := ⟨_, rfl⟩
  rw [← ep] at g2 hp2 pa pd eH free ⊢
  revert I2 g2
  rw [← ep]
  generalize ({ s with heap := (s.heap.push { cls := .type "list", data := .seq #[] }).update p (Obj.mapSeq fun _ => #[]) } : Shared) = s2
  intro I2 g2
  have low : Low X (k + 1) X.A.in1.in1 := ⟨((hr.mono (show k + 1 + 1 + 1 ≤ j by omega)).in1).in1, rfl⟩
  obtain ⟨oa, J⟩ := ins_at I2 ha2
  obtain ⟨m, fr⟩ := I2.fr
  obtain ⟨_, gd, hx, es, ee, hdt, hsz, ent⟩ := I2.frzT hd2
  -- what is left when the iterator is there and the room is made
  have fin : ∀ (it : Addr) (s5 : Shared) (n5 : Nat), FpOk X pins H2 it → it ≠ p → it ≠ d → Inv X pins σ H2 s5 → s5.heap.get? p = some { cls := .type "list", data := .seq #[] n5 } → s5.heap.IsKeyIter it d 0 es.size ee →
      codeAny (model X.prog X.w) X.A.in1 (.builtin "list.extend.loop" ⟨[.ref p, .ref it, .none], []⟩) (wants (fun r s₂ => r = .none ∧ EP X pins σ Q (.ref p) s₂) X.xe) s5 := by
    intro it s5 n5 hf hip hid I5 g5 hit
    obtain ⟨_, gd5, _⟩ := I5.frzT hd2
    have hz : es.size ≤ sizeLine := by
      rw [hsz]
      exact (I5.hok d _ hd2).2.1
    have off : p ∉ [it, d] := fun z => by
      rcases List.mem_cons.mp z with z | z
      · exact hip z.symm
      · exact pd (List.mem_singleton.mp z).symm
    refine codeAny_extend_loopS (walks_raw (A := X.A.in1.in1) (I.ok.hd hc) it d (Ne.symm hid) hdt).toS hz p off .none es.size 0 _ #[] n5 rfl (Nat.zero_le _) ⟨hit, gd5⟩ g5 (ItemsOf.nil _) fun s6 acc n6 mv g6 all => ?_
    obtain ⟨bs, ks, eb, rv⟩ := keys_row (H := H2) (kvs := kvs) (vs := acc.toList) (by rw [Array.length_toList, all.1, hsz]) fun i k v e => by
      obtain ⟨en, b, h1, h2, h3⟩ := ent i k v e
      have hi : i < acc.size := by
        rw [all.1]
        exact (Array.getElem?_eq_some_iff.mp h1).1
      obtain ⟨en', h4, h5⟩ := all.2 i acc[i] (Array.getElem?_eq_getElem hi)
      rw [h1] at h4
      cases h4
      exact ⟨b, by rw [Array.getElem?_toList, Array.getElem?_eq_getElem hi, h5, h2], h3⟩
    have gp := Heap.get?_update_self (fun _ => ({ cls := .type "list", data := .seq acc n6 } : Obj)) g5 rfl
    have J6 := I5.write (x := p) (e := p) (o := .lst (bs.map V.ref)) (t' := s6.toks) (h' := s5.heap.update p fun _ => { cls := .type "list", data := .seq acc n6 }) (by rw [hp2]; exact trivial) (.inl rfl) (fun b o hb e => (Heap.get?_update_other _ _ (Ne.symm hb)).trans e) ⟨_, gp⟩
      ⟨by rw [List.length_map, ← List.length_map (f := Value.ref), ← eb, Array.length_toList, all.1]; exact hz, acc.toList, n6, rv, by rw [Array.toArray_toList]; exact gp⟩
    obtain ⟨f0, f1, f2, f3, f4, f5⟩ := hf
    have J7 := J6.turned (h' := s6.heap) (t' := s6.toks) (it := it) (fun b o hb e => by
      by_cases ebp : b = p
      · subst ebp
        have e' := gp.symm.trans e
        cases e'
        exact g6
      · exact mv.heap b o (fun z => by
          rcases List.mem_cons.mp z with z | z
          · exact ebp z
          · exact hb (List.mem_singleton.mp z)) ((Heap.get?_update_other _ _ (Ne.symm ebp)).symm.trans e)) (by rw [upd_ne hip]; exact f0) f1 f3 f4 f5
    have fin : EP X pins σ Q (.ref p) s6 := by
      rw [Moved.eq_with mv]
      refine ⟨.ref p, _, J7, rfl, ?_⟩
      rw [eH, upd_upd]
      refine q p bs free (Paired.mapP ks fun x b z => ?_)
      have np : b ≠ p := fun e => by
        rw [e, hp2] at z
        cases z
      rwa [eH, upd_ne np] at z
    exact ⟨rfl, fin⟩
  show wpAny _ _ (Builtin.List.listExtendWith (.ref p) (.ref a) .none) _ _ s2
  unfold Builtin.List.listExtendWith
  have no : (Builtin.List.listSameRef (.ref p) (.ref a) || Value.ref C == .type "list" || Value.ref C == .type "tuple") = false := by
    have : Builtin.List.listSameRef (.ref p) (.ref a) = false := by simp [Builtin.List.listSameRef, Ne.symm pa]
    rw [this]
    rfl
  refine wpAny_bind (J.type.here ?_)
  rw [if_neg (by rw [no]; decide)]
  have b := bi s2 [.ref a] I2.kIn (by rfl)
  refine wpAny_bind (PySem.W.owit_iter fr I2.ok.mod.kin J Mi.at_ Mi.fn (wpAny_call (codeAny_mono (FI.go X.A.in1.in1 X.stack s2 H2 ⟨[.ref a], []⟩ a dx d fs o kvs es ee (low.room.mono (Nat.le_succ k)) (low.env0 I2) b ha2 hl hd2 hdt) fun y s3 end_ => ?_)))
  match y, end_ with
  | .error e, ⟨_, _, _, _, _, _, _, _, _, _, _, _, bad⟩ => exact bad.elim
  | .ok (.ret u), ⟨it, H', eu, eH', os, bare, un, hok, hn, hz, hit⟩ =>
    subst eu
    obtain ⟨hh, g, dd, t, os'⟩ := s3
    obtain rfl : os' = s2.os := os
    subst eH'
    have J3 := I2.call (h' := hh) (g' := g) (d' := dd) (t' := t) (ch := []) un hok bare (fun b z => absurd z (by simp))
    unfold PySem.W.OwitIt
    refine wpAny_specialOf hit.typeIs PySem.F.slot_dict_keyiterator_next.lookup ?_
    have hf := I2.fpOk hz hn
    obtain ⟨oi, gi, ci2, di⟩ := id hit
    have J4 := J3.pinned (fp := [it]) (fun b hb => by rw [List.mem_singleton.mp hb]; exact hf) (fun b hb => by rw [List.mem_singleton.mp hb]; exact ⟨oi, gi, fun v z => by rw [di] at z; cases z⟩)
    obtain ⟨ob, J5⟩ := ins_at J4 ha2
    obtain ⟨m4, fr4⟩ := J4.fr
    have ni : it ≠ p := fun z => by rw [z, hp2] at hn; cases hn
    have nd : it ≠ d := fun z => by rw [z, hd2] at hn; cases hn
    refine wpAny_bind (wpAny_holding (own_length J4.kIn J5 Ml (PySem.W.len_K fr4 J4.ok.mod.kin J5 Ml.at_ Ml.fn (thn (run_low (vs := [.ref a]) FL (⟨low.room.in1, low.fr⟩ : Low X k X.A.in1.in1.in1) bl J4 (.cons rfl .nil) hl2) fun v s4 z => ?_))))
    obtain ⟨v4, H4, J6, r4, c, rfl, hc4, eH4⟩ := z
    obtain ⟨tc, rfl⟩ := r4
    subst eH4
    refine ⟨⟨by omega, by have := sizeLine_eq; omega⟩, c, _, rfl, hc4, ?_⟩
    have J7 := J6.unpinned.tok (s4.toks + 1)
    have at_it : s4.heap.get? it = some oi := (J6.pin (it, oi) (List.mem_append_right _ (List.mem_append_right _ (mem_pinsAt List.mem_cons_self gi)))).1
    have hit4 : s4.heap.IsKeyIter it d 0 es.size ee := ⟨oi, at_it, ci2, by rw [hsz]; exact di⟩
    obtain ⟨_, its5, n5, r5, l5, g5⟩ := J7.lstM hp2
    cases r5
    refine wpAny_ite_split (fun _ => ?_) (fun _ => wpAny_pure ⟨plainId_quiet PySem.F.plain_extend_loop _, fin it _ n5 hf ni nd J7 g5 hit4⟩)
    refine wpAny_bind (wpAny_rule (wpAny_bind ?_))
    unfold Builtin.List.listTouch Builtin.List.listUpdate
    refine wpAny_bind (wpAny_updateSeq g5 rfl ?_ (by simp [sizeLine_eq]) (by simp [sizeLine_eq]))
    have J8 := J7.lset (f := (·.push Value.none)) (its' := [Value.none]) (ys := [.non]) (t' := s4.toks + 1) hp2 g5 (by simp) (.cons rfl .nil) (by simp [sizeLine_eq])
    obtain ⟨_, its8, n8, r8, l8, g8⟩ := J8.lstM upd_same
    obtain ⟨u8, rfl, ru8⟩ := r8.one
    refine wpAny_updateSeq g8 rfl ?_ (by simp [sizeLine_eq]) (by simp [sizeLine_eq])
    have J9 := J8.lset (f := (·.pop)) (its := [u8]) (its' := []) (ys := []) (t' := s4.toks + 1) upd_same g8 (by rfl) .nil (Nat.zero_le _)
    have same : upd (upd H4 p (.lst [.non])) p (.lst []) = H4 := by
      rw [upd_upd]
      funext b
      by_cases e : b = p
      · rw [e, upd_same, hp2]
      · rw [upd_ne e]
    rw [same] at J9
    obtain ⟨_, its9, n9, r9, l9, g9⟩ := J9.lstM hp2
    cases r9
    refine wpAny_pure ⟨plainId_quiet PySem.F.plain_extend_loop _, fin it _ n9 hf ni nd J9 g9 ⟨oi, ?_, ci2, by rw [hsz]; exact di⟩⟩
    exact (Heap.get?_update_other _ _ (Ne.symm ni)).trans ((Heap.get?_update_other _ _ (Ne.symm ni)).trans at_it)
end
end Ew

set_option Elab.async false
set_option linter.all false
set_option maxRecDepth 100000
set_option maxHeartbeats 4000000
namespace Ew
open PySem PySem.Spec PyProof.Rows L2
/-! ### two dicts whose keys are tuples, side by side -/
section
variable {P : Program} {w : World} {A : Around} {E : Value → Shared → Prop} {s : Shared}
abbrev Turn1 := Option Bool × PUnit
/-- places asked one after the other, nothing is changed; the first no is the answer -/
theorem ask_places {Q : Turn1 → Shared → Prop} (b : Nat → Bool) (g : Nat → Turn1 → Sem (ForInStep Turn1)) : ∀ l : List Nat,
    (∀ i ∈ l, ∀ R : ForInStep Turn1 → Shared → Prop, R (if b i = true then .yield (none, ()) else .done (some false, ())) s → wpAny (model P w) A (g i (none, ())) R E s) →
    Q (if l.all b = true then (none, ()) else (some false, ())) s → wpAny (model P w) A (forIn l ((none, ()) : Turn1) g) Q E s
  | [], _, q => by
    rw [List.forIn_nil]
    exact wpAny_pure q
  | i :: l, h, q => by
    rw [List.forIn_cons]
    refine wpAny_bind (h i List.mem_cons_self _ ?_)
    rw [List.all_cons] at q
    cases e : b i with
    | false =>
      rw [e] at q
      exact wpAny_pure q
    | true =>
      rw [e] at q
      exact ask_places b g l (fun j hj => h j (List.mem_cons_of_mem _ hj)) q
variable {K : Type} [DecidableEq K] {kd : HeapKind P w K}
/-- what the pair at a place of the one says of the other -/
def sideB (ys : List (K × Addr × Value)) (e : K → Bool) (x : K × Addr × Value) : Bool := (ys.any fun y => decide (y.1 = x.1)) && e x.1
theorem one_of {ys : List (K × Addr × Value)} (hn : (ys.map (·.1)).Nodup) {i j : Nat} {k : K} {p q : Addr × Value} (h1 : ys[i]? = some (k, p)) (h2 : ys[j]? = some (k, q)) : p = q := by
  have e1 : (ys.map (·.1))[i]? = some k := by rw [List.getElem?_map, h1]; rfl
  have e2 : (ys.map (·.1))[j]? = some k := by rw [List.getElem?_map, h2]; rfl
  obtain ⟨hi, _⟩ := List.getElem?_eq_some_iff.mp e1
  have : i = j := (List.getElem?_inj hi hn).mp (e1.trans e2.symm)
  subst this
  exact (Prod.mk.inj (Option.some.inj (h1.symm.trans h2))).2
theorem side_by_side {nm : String} {a b : Addr} {xs ys : List (K × Addr × Value)} {e : K → Bool} {Q : Bool → Shared → Prop} (hu : kd.room A) (ha : (a == sysModules) = false) (hb : (b == sysModules) = false) (da : s.heap.DictOfH kd a xs) (db : s.heap.DictOfH kd b ys)
    (he : ∀ k p q, (k, p) ∈ xs → (k, q) ∈ ys → SeqAt.EqP P w A s p.2 q.2 (e k)) (q : Q (xs.length == ys.length && xs.all (sideB ys e)) s) : wpAny (model P w) A (Builtin.Dict.samePairs nm a b) Q E s := by
  obtain ⟨oa, ea, pa, ga, _, va, la, ka, _⟩ := da
  obtain ⟨ob, eb, pb, gb, _, vb, lb, kb, nb⟩ := db
  have sa : ea.size = xs.length := by rw [← Array.length_toList, la, List.length_map]
  have sb : eb.size = ys.length := by rw [← Array.length_toList, lb, List.length_map]
  simp only [Builtin.Dict.samePairs, Builtin.Dict.showsAll, ha, hb, Bool.false_eq_true, if_false]
  refine wpAny_bind (wpAny_pure (wpAny_bind (wpAny_pure (wpAny_bind (wpAny_dictEntries ga va (wpAny_bind (wpAny_dictEntries gb vb ?_)))))))
  rw [sa, sb]
  by_cases hl : xs.length = ys.length
  · rw [if_neg (by rw [hl]; simp)]
    rw [hl, beq_self_eq_true, Bool.true_and] at q
    refine wpAny_bind (wpAny_dictEpoch ga va (wpAny_bind ?_))
    rw [Std.Legacy.Range.forIn_eq_forIn_range']
    refine ask_places (fun i => (xs[i]?.map (sideB ys e)).getD true) _ _ (fun i hi R r => ?_) ?_
    · have il : i < xs.length := by
        have := List.mem_range'.mp hi
        simp at this
        omega
      obtain ⟨k, p, hx⟩ : ∃ k p, xs[i]? = some (k, p) := ⟨_, _, List.getElem?_eq_getElem il⟩
      have hm := List.mem_of_getElem? hx
      rw [hx] at r
      refine wpAny_bind (wpAny_dictEntries ga va ?_)
      rw [entry_at la, hx]
      refine wpAny_bind (wpAny_holding (wpAny_bind (wpAny_dictFind_heap (k := k) hu (ka _ hm) gb vb lb kb nb (fun no => ?_) fun j q hj => ?_)))
      · have f : sideB ys e (k, p) = false := by
          have n : (ys.any fun y => decide (y.1 = k)) = false := by
            rw [List.any_eq_false]
            rintro ⟨k2, q2⟩ hy
            obtain ⟨j, hj⟩ := List.mem_iff_getElem?.mp hy
            intro z
            obtain rfl : k2 = k := of_decide_eq_true z
            exact no j q2 hj
          rw [sideB, n, Bool.false_and]
        simp only [Option.map_some, Option.getD_some, f, Bool.false_eq_true, if_false] at r
        exact wpAny_pure (wpAny_pure r)
      · have hy := List.mem_of_getElem? hj
        have f : sideB ys e (k, p) = e k := by
          have n : (ys.any fun y => decide (y.1 = k)) = true := List.any_eq_true.mpr ⟨_, hy, decide_eq_true rfl⟩
          rw [sideB, n, Bool.true_and]
        simp only [Option.map_some, Option.getD_some, f] at r
        refine wpAny_bind (wpAny_dictEntries gb vb ?_)
        rw [entry_at lb, hj]
        refine wpAny_holding (he k p q hm hy _ _ ?_)
        cases ek : e k with
        | false =>
          rw [ek] at r
          exact wpAny_pure r
        | true =>
          rw [ek] at r
          refine wpAny_bind (wpAny_dictEpoch ga va ?_)
          rw [if_neg (by simp)]
          exact wpAny_pure r
    · have f : ((List.range' 0 xs.length 1).all fun i => (xs[i]?.map (sideB ys e)).getD true) = xs.all (sideB ys e) := by
        rw [Bool.eq_iff_iff, List.all_eq_true, List.all_eq_true]
        constructor
        · intro h x hx
          obtain ⟨i, hi⟩ := List.mem_iff_getElem?.mp hx
          have il := (List.getElem?_eq_some_iff.mp hi).1
          have := h i (List.mem_range'.mpr ⟨i, il, by simp⟩)
          rw [hi] at this
          exact this
        · intro h i hi
          cases hx : xs[i]? with
          | none => rfl
          | some x => exact h x (List.mem_of_getElem? hx)
      have g : (Std.Legacy.Range.size { start := 0, stop := xs.length, step := 1, step_pos := Nat.one_pos }) = xs.length := by
        simp [Std.Legacy.Range.size]
      rw [g, f]
      cases r : xs.all (sideB ys e) <;> (rw [r] at q; exact wpAny_pure q)
  · rw [if_pos (by simpa using hl)]
    have hf : (xs.length == ys.length) = false := by simpa using hl
    rw [hf, Bool.false_and] at q
    exact wpAny_bind (wpAny_rule (wpAny_pure q))
/-- a == b -/
theorem dd_eq {a b : Addr} {xs ys : List (K × Addr × Value)} {e : K → Bool} {Q : Value → Shared → Prop} (hc : A.units < cLine) (hu : kd.room A.in1) (ha : (a == sysModules) = false) (hb : (b == sysModules) = false) (da : s.heap.DictOfH kd a xs) (db : s.heap.DictOfH kd b ys)
    (he : ∀ k p q, (k, p) ∈ xs → (k, q) ∈ ys → SeqAt.EqP P w A.in1 s p.2 q.2 (e k)) (q : Q (.bool (xs.length == ys.length && xs.all (sideB ys e))) s) : wpAny (model P w) A (richCompare .Eq (.ref a) (.ref b)) Q E s := by
  have ta : s.TypeIs (.ref a) "dict" := da.typeIs
  have tb : s.TypeIs (.ref b) "dict" := db.typeIs
  refine wpAny_richCompare_same_room (op := .Eq) ta tb PySem.F.slot_dict_eq ?_ hc
  refine wpAny_call_entry PySem.F.slot_dict_eq ta PySem.F.entry_dict_eq ?_ (PySem.F.args_dict_eq_2 _ _)
  refine wpAny_bind (m := Builtin.Dict.dictSlotArgs "__eq__" ⟨[.ref a, .ref b], []⟩) (wpAny_bind (wpAny_notOrdered_dict ta (wpAny_pure ?_)))
  refine wpAny_bind (wpAny_isInstance (T := "dict") (b := true) tb PySem.F.sub_dict_dict ?_)
  refine wpAny_bind (m := Builtin.Dict.addrOf (.ref a)) (wpAny_pure (wpAny_bind (m := Builtin.Dict.addrOf (.ref b)) (wpAny_pure (wpAny_bind (side_by_side hu ha hb da db he ?_)))))
  have f : Q (.bool ((xs.length == ys.length && xs.all (sideB ys e)) == true)) s := by
    rw [beq_true]
    exact q
  refine wpAny_pure ⟨_, rfl, ?_, f⟩
  rintro ⟨⟩
end
/-! ### == of two such dicts by what the reading says of them -/
def inB (kb : List (List Key × V)) (e : List Key → Bool) (p : List Key × V) : Bool := (kb.any fun q => decide (q.1 = p.1)) && e p.1
def rEqT (K : PySem.W.Frag) : R2 := fun x y H Q => ∃ a b ka kb e, x = .ref a ∧ y = .ref b ∧ Rd H a (.dT ka) ∧ Rd H b (.dT kb) ∧
  (∀ k v u, (k, v) ∈ ka → (k, u) ∈ kb → ∃ d1 d2, Dp K H v d1 ∧ Dp K H u d2 ∧ SeqAt.shaped d1 = true ∧ SeqAt.shaped d2 = true ∧ PyData.eqv d1 d2 = e k) ∧ Q (.bl (ka.length == kb.length && ka.all (inB kb e))) H
theorem kt_back {H : Hp} {ks : List (List Key × V)} {xs : List (List Key × Addr × Value)} (r : KT H ks xs) : ∀ k p, (k, p) ∈ xs → ∃ v, (k, v) ∈ ks ∧ RelV v p.2 := by
  induction r with
  | nil => exact fun k p h => nomatch h
  | cons h t ih =>
    intro k p m
    rcases List.mem_cons.mp m with z | z
    · subst z
      exact ⟨_, List.mem_cons.mpr (.inl (Prod.ext h.1.symm rfl)), h.2.2⟩
    · obtain ⟨v, hv, rv⟩ := ih k p z
      exact ⟨v, List.mem_cons_of_mem _ hv, rv⟩
theorem kt_len {H : Hp} {ks : List (List Key × V)} {xs : List (List Key × Addr × Value)} (r : KT H ks xs) : xs.length = ks.length := by
  induction r with
  | nil => rfl
  | cons h t ih => rw [List.length_cons, List.length_cons, ih]
theorem kt_any {H : Hp} {ks : List (List Key × V)} {xs : List (List Key × Addr × Value)} (r : KT H ks xs) (k : List Key) : (xs.any fun y => decide (y.1 = k)) = ks.any fun q => decide (q.1 = k) := by
  induction r with
  | nil => rfl
  | cons h t ih => rw [List.any_cons, List.any_cons, ih, h.1]
theorem kt_all {H : Hp} {ka kb : List (List Key × V)} {xs ys : List (List Key × Addr × Value)} (r : KT H ka xs) (t : KT H kb ys) (e : List Key → Bool) : xs.all (sideB ys e) = ka.all (inB kb e) := by
  induction r with
  | nil => rfl
  | cons h _ ih => rw [List.all_cons, List.all_cons, ih, sideB, inB, kt_any t, h.1]
theorem op_eqT {X : Cx} (hu : X.A.units + 65 < cLine) : OpR X (compareOp .Eq) (rEqT X.K) := by
  intro pins s σ H x y v u Q I rx ry h
  obtain ⟨a, b, ka, kb, e, rfl, rfl, ea, eb, he, q⟩ := h
  obtain rfl : v = Value.ref a := rx
  obtain rfl : u = Value.ref b := ry
  obtain ⟨_, na, xs, ra, da⟩ := dt_rd I.hok ea
  obtain ⟨_, nb, ys, rb, db⟩ := dt_rd I.hok eb
  refine dd_eq (e := e) (by omega) (show X.A.in1.units < cLine from ?_) na nb da db (fun k p z hp hz => ?_) ?_
  · show X.A.units + 1 < cLine
    omega
  · obtain ⟨v1, m1, r1⟩ := kt_back ra k p hp
    obtain ⟨v2, m2, r2⟩ := kt_back rb k z hz
    obtain ⟨d1, d2, h1, h2, s1, s2, f⟩ := he k v1 v2 m1 m2
    obtain ⟨as, w1⟩ := Dp.reads I d1 v1 _ h1 r1
    obtain ⟨bs, w2⟩ := Dp.reads I d2 v2 _ h2 r2
    rw [← f]
    exact (PySem.W.keq_at w1 w2 s1 s2 (show X.A.units + 1 + 64 < cLine by omega)).eqP
  · rw [kt_len ra, kt_len rb, kt_all ra rb]
    exact ⟨.bl _, H, I, rfl, q⟩
end Ew

set_option Elab.async false
set_option linter.all false
set_option maxRecDepth 100000
set_option maxHeartbeats 4000000
namespace Ew
open PySem PySem.Spec PyProof.Rows L2
section
variable {X : Cx} {e : Expr} {te : TE}
/-- behind an expression a thing of the def's own is not to be written any more -/
def tKeep (te : TE) : TE := fun σ H Q => te σ H fun v H' => ∃ d u, H' d = some u ∧ Mut (some u) ∧ ∀ o, Q v (upd H' d (.frz o u))
theorem pe_keep (h : PE X e te) : PE X e (tKeep te) := ⟨fun pins s σ H Q I q => thn (h.run pins s σ H _ I q) fun _ _ ⟨v, H', J, r, d, u, hd, mu, k⟩ => by
  obtain ⟨o, J2⟩ := J.lock hd mu
  exact ⟨v, _, J2, r, k o⟩⟩
/-- len of a dict whose keys are tuples, written or not -/
def rLenF : List V → Hp → VK → Prop := fun xs H Q => ∃ p kvs, xs = [.ref p] ∧ Rd H p (.dT kvs) ∧ Q (.int ((kvs.length : Nat) : Int)) H
theorem call_lenF : CallR X (.builtin "len") rLenF := by
  intro pins s σ H xs us Q I r h
  obtain ⟨p, kvs, rfl, hp, q⟩ := h
  obtain ⟨u, rfl, rx⟩ := vals1 r
  obtain rfl : u = Value.ref p := rx
  obtain ⟨z, ns, ys, kt, d⟩ := dt_rd I.hok hp
  have l : ys.length = kvs.length := kt_len kt
  refine call_len_dictH ns d (by have := sizeLine_eq; omega) ?_
  rw [l]
  exact ⟨.int _, H, (I.tok _).tok _, ⟨_, rfl⟩, q⟩
/-- room for what stands a little deeper -/
theorem units5 {k : Nat} {A : Around} (r : Room k A) : A.units + 65 < cLine := by
  have := r.un
  omega
end
end Ew

set_option Elab.async false
set_option linter.all false
set_option maxRecDepth 100000
set_option maxHeartbeats 4000000
namespace Ew
open PySem PySem.Spec PyProof.Rows L2
/-! ### enumerate(a tuple) -/
section
variable {P : Program} {w : World} {A : Around} {E : Value → Shared → Prop} {s : Shared}
theorem enum_new {v : Value} {o : Obj} {G : Heap → Prop} (B : Begins v o G) : Meets (Builtin.«enumerate.__new__» ⟨[.type "enumerate", v], []⟩) (fun _ R s => G s.heap ∧
    R (.ok (.ret (.ref (s.heap.push o).objs.size))) { s with heap := (s.heap.push o).push { cls := .type "enumerate", data := .fields #[.none, .bool false, .ref s.heap.objs.size, rawInt 0, .none, .none] } }) :=
  .of_wp fun P w A R s z => by
    obtain ⟨hp, g, d, tk, os⟩ := s
    obtain ⟨here, q⟩ := z
    have sub := sub_enumerate
    have go : ∀ {A' : Around} {E : Value → Shared → Prop} {Q : Value → Shared → Prop}, Q (.ref hp.objs.size) ⟨hp.push o, g, d, tk, os⟩ → wpAny (model P w) A' (pyIter v) Q E ⟨hp, g, d, tk, os⟩ := fun k => B.iter P w _ _ ⟨hp, g, d, tk, os⟩ _ here k
    wp_walk using go
    refine wpAny_stack_any fun st => wpAny_pure ?_
    split
    · rename_i c _ _ _ _ _
      cases (c == Value.type "enumerate") <;> (wp_walk using go; exact ⟨_, rfl, q⟩)
    · wp_walk using go
      exact ⟨_, rfl, q⟩
theorem enum_call {v : Value} {o : Obj} {G : Heap → Prop} {Q : Value → Shared → Prop} (B : Begins v o G) (here : G s.heap)
    (k : ∀ h', IsEnum h' (s.heap.objs.size + 1) s.heap.objs.size 0 .none → h'.get? s.heap.objs.size = some o → (∀ b u, s.heap.get? b = some u → h'.get? b = some u) → Q (.ref (s.heap.objs.size + 1)) { s with heap := h' }) :
    wpAny (model P w) A (call (.type "enumerate") [v]) Q E s := by
  refine callType_new F.called_enumerate (by decide) (F.typeCall_enumerate_1 _) (F.newCall_enumerate_1 _) (fun obj => F.args_object_init_2 obj _) F.entry_enumerate_new (enum_new B) ⟨here, ?_⟩
  have z : (s.heap.push o).objs.size = s.heap.objs.size + 1 := Heap.size_push ..
  have e := Heap.get?_push_size (s.heap.push o) (o := { cls := .type "enumerate", data := .fields #[.none, .bool false, .ref s.heap.objs.size, rawInt 0, .none, .none] }) rfl
  show _ ∧ _
  rw [z] at e ⊢
  exact ⟨⟨_, e, rfl⟩, k _ e (Heap.get?_push_of_some _ (Heap.get?_push_size _ B.free)) fun b u q => Heap.get?_push_of_some _ (Heap.get?_push_of_some _ q)⟩
end
/-- the tuple at a, each item in a new pair behind its place -/
def IteT (K : PySem.W.Frag) (a : Addr) : It where
  go := fun i H => ∃ (xs : List V) (x : V), SqT K H a xs ∧ xs[i]? = some x
  yld := fun i H v H' => ∃ T x, v = .ref T ∧ H T = none ∧ H' = upd H T (.tup [.int (i : Nat), x]) ∧ ∀ xs, SqT K H a xs → xs[i]? = some x
  stop := fun i H => ∃ xs : List V, SqT K H a xs ∧ i = xs.length
theorem two {c e it : Addr} (h : c ∈ [e, it]) : c = e ∨ c = it := by
  simp only [List.mem_cons, List.not_mem_nil, or_false] at h
  exact h
theorem turn_enumT {P : Program} {w : World} {K : PySem.W.Frag} {elts : List Expr} {kk : Nat} {tpos : Pos} {a e it : Addr} (ne : e ≠ it) (na : a ≠ it) (ea : e ≠ a) :
    Turn P w K (.Tuple elts kk tpos) (IteT K a) [e, it] e (fun i h => (∃ old, IsEnum h e it ((i : Nat) : Int) old) ∧ h.IsTupleIter it a i) where
  mem := List.mem_cons_self
  obj := fun i h st c hc => by
    obtain ⟨⟨_, q1⟩, ⟨o, q2, _, d2⟩⟩ := st
    rcases two hc with rfl | rfl
    · exact ⟨_, q1, fun v e => nomatch e⟩
    · exact ⟨o, q2, fun v e => by rw [d2] at e; cases e⟩
  keep := fun i h h' st k => by
    obtain ⟨⟨x, q1⟩, q2⟩ := st
    exact ⟨⟨x, k _ List.mem_cons_self _ q1⟩, q2.at fun o e => k _ (by simp) o e⟩
  item := by
    intro X hP hw hK hc i pins s σ H E I hf st go
    subst hP hw hK
    obtain ⟨⟨x0, q1⟩, q2⟩ := st
    obtain ⟨xs, x, sx, hx⟩ := go
    obtain ⟨l, r, p, _⟩ := I.tuple sx
    obtain ⟨u, hu, ru⟩ := r.get hx
    have D := Draws.tuple (prog := X.prog) (w := X.w) (A := X.A.in1) (I.ok.hd hc) it a na l.toArray
    have g : i < l.toArray.size := by
      rw [List.size_toArray]
      exact (List.getElem?_eq_some_iff.mp hu).1
    have le := Heap.lt_size q1
    have li : it < s.heap.objs.size := by obtain ⟨_, e, _⟩ := q2; exact Heap.lt_size e
    refine wpAny_pyNext_enum_itemD D q1 ⟨q2, p⟩ g ne (fun z => (List.mem_cons.mp z).elim ne fun z => ea (List.mem_singleton.mp z)) fun v h' tk e1 w1 w2 w3 w4 w5 => ?_
    rw [List.getElem?_toArray, hu] at e1
    cases e1
    refine ⟨_, rfl, wpAny_letOwnedTupleGo_enum (s := { s with heap := h', toks := tk + 1 }) w1 fun h'' w1' sb => ?_⟩
    have nw : h''.get? s.heap.objs.size = some { cls := .type "tuple", data := .seq #[.int i tk, u] } := (sb.2 _ (Nat.ne_of_gt le)).trans w3
    have ob : ObjOk X.prog X.w (upd H s.heap.objs.size (.tup [.int (i : Nat), x])) h'' s.heap.objs.size (.tup [.int (i : Nat), x]) := by
      refine ⟨?_, [.int i tk, u], .cons ⟨_, rfl⟩ (.cons ru .nil), ⟨_, nw, rfl, _, rfl⟩⟩
      show 2 ≤ sizeLine
      decide
    have off : ∀ c o, c ∉ [e, it] → s.heap.get? c = some o → h''.get? c = some o := fun c o hb q => by
      have n : c ≠ e ∧ c ≠ it := ⟨fun q => hb (by simp [q]), fun q => hb (by simp [q])⟩
      exact (sb.2 c n.1).trans (w5 c o n.1 n.2 q)
    have I1 : Inv X pins σ (upd H s.heap.objs.size (.tup [.int (i : Nat), x])) { s with heap := h'', toks := tk + 1 } := I.turnedNew off hf (Nat.le_refl _) ob
    refine ⟨.ref s.heap.objs.size, _, I1, rfl, ⟨_, x, rfl, I.hok.fresh (Nat.le_refl _), rfl, fun ys hl => ?_⟩, ⟨⟨_, w1'⟩, ?_⟩, fun c hcm => ?_⟩
    · rw [I.tuple_inj hl sx]
      exact hx
    · exact w2.1.at fun o q => (sb.2 _ ne.symm).trans q
    · have lt : c < s.heap.objs.size := by
        rcases two hcm with rfl | rfl
        · exact le
        · exact li
      rw [upd_ne (Nat.ne_of_lt lt)]
      exact (hf c hcm).1
  done := by
    intro X hP hw hK hc i pins s σ H E I hf st go
    subst hP hw hK
    obtain ⟨⟨x0, q1⟩, q2⟩ := st
    obtain ⟨xs, sx, hi⟩ := go
    obtain ⟨l, r, p, _⟩ := I.tuple sx
    have el := r.length
    have D := Draws.tuple (prog := X.prog) (w := X.w) (A := X.A.in1) (I.ok.hd hc) it a na l.toArray
    have ez : l.toArray.size = i := by
      rw [List.size_toArray, hi]
      exact el.symm
    refine wpAny_pyNext_enum_endD D q1 (by rw [ez]; exact ⟨q2, p⟩) fun h' k => ⟨rfl, ?_⟩
    exact I.turnedL (ch := [e, it]) (fun c o hb q => k c o (fun z => hb (by simp [z])) q) hf
  self := fun A i s Q E st h => wpAny_pyIter_enum st.1.choose_spec h
def iEnumT (K : PySem.W.Frag) (ta : TA) : TI := fun σ H R => ta σ H fun vs H1 => ∃ a xs, vs = [.ref a] ∧ SqT K H1 a xs ∧ R (IteT K a) H1
theorem pi_enumT {X : Cx} {e : Expr} {ta : TA} {p pos tpos : Pos} {elts : List Expr} {kk : Nat} (hg : Gl X "enumerate") (hm : X.mg "enumerate" = none) (ha : PA X [e] ta) (hs : starEach [e] X.env = [(false, eval e X.env)] := by rfl) :
    PI X (.Tuple elts kk tpos) (.Call (.Name "enumerate" p) [e] [] pos) (iEnumT X.K ta) := by
  refine ⟨fun pins s σ H R I h => Call_ (ld_blt I hg hm boot_enumerate (PyProof.Rows.callWith_type1 (thn (ha.run pos pins s σ H _ I h) fun us s1 z => ?_) hs rfl))⟩
  obtain ⟨vs, H1, I1, r1, a, xs, rfl, sx, q⟩ := z
  obtain ⟨u, rfl, ru⟩ := vals1 r1
  cases ru
  obtain ⟨l, rv, p1, _⟩ := I1.tuple sx
  have la : a < s1.heap.objs.size := by
    obtain ⟨o, e, _⟩ := id p1
    exact Heap.lt_size e
  refine enum_call (begins_tuple a l.toArray) p1 fun h' he hi k => wpAny_pyIter_enum he ?_
  have I2 : Inv X pins σ H1 { s1 with heap := h' } := I1.kept (t' := s1.toks) k
  refine ⟨s1.heap.objs.size + 1, [s1.heap.objs.size + 1, s1.heap.objs.size], _, _, H1, rfl, I2, turn_enumT (a := a) (e := s1.heap.objs.size + 1) (it := s1.heap.objs.size) (Nat.succ_ne_self _) (Nat.ne_of_lt la) (Nat.ne_of_gt (Nat.lt_succ_of_lt la)), ⟨⟨_, he⟩, ⟨_, hi, rfl, rfl⟩⟩, fun b hb => ?_, q⟩
  have le : s1.heap.objs.size ≤ b := by
    rcases two hb with rfl | rfl
    · exact Nat.le_add_right _ _
    · exact Nat.le_refl _
  exact I1.fpOk le (I1.hok.fresh le)
/-- enumerate(a list or a tuple) -/
theorem pi_enumX {X : Cx} {e : Expr} {ta : TA} {p pos tpos : Pos} {elts : List Expr} {kk : Nat} (hg : Gl X "enumerate") (hm : X.mg "enumerate" = none) (ha : PA X [e] ta) (hs : starEach [e] X.env = [(false, eval e X.env)] := by rfl) :
    PI X (.Tuple elts kk tpos) (.Call (.Name "enumerate" p) [e] [] pos) (fun σ H R => iEnum X.K ta σ H R ∨ iEnumT X.K ta σ H R) :=
  ⟨fun pins s σ H R I h => h.elim ((pi_enum hg hm ha hs).run pins s σ H R I) ((pi_enumT hg hm ha hs).run pins s σ H R I)⟩
end Ew

set_option Elab.async false
set_option linter.all false
set_option maxRecDepth 100000
set_option maxHeartbeats 4000000
namespace Ew
open PySem PySem.Spec PyProof.Rows L2
/-! ### an attribute as a target among others -/
section
variable {X : Cx} {o : Expr} {f : Str} {ta : TE} {pos : Pos}
def gFld (K : PySem.W.Frag) (ta : TE) (f : Str) : TG := fun v σ H Q => ta σ H fun x H1 => ∃ a C dx fs, x = .ref a ∧ H1 a = some (.ins C dx fs) ∧ Cls K C ∧ NoAttr K C f ∧ fs.length < 1000 ∧ Q σ (upd H1 a (.ins C dx (putF f v fs)))
theorem pg_fld (ha : PE X o ta) : PG X (.Attribute o f pos) (gFld X.K ta f) := by
  refine ⟨fun pins s σ H v u Q I r h => PySem.W.kas_attr (thn (ha.run pins s σ H _ I h) fun ov s2 ⟨x, H2, I2, rx, z⟩ => ?_)⟩
  obtain ⟨a, C, dx, fs, rfl, ea, c, n, l, q⟩ := z
  obtain rfl : ov = Value.ref a := rx
  exact setattr_ok I2 ea c n l r fun s3 I3 => ⟨σ, _, I3, q⟩
end
/-! ### an instance that is called -/
/-- its class has __call__, with a promise -/
structure ClmC (P : Program) (w : World) (K : PySem.W.Frag) (mg : Str → Option Value) (base : Heap) (k : Nat) (C : Addr) (ps : List Str) (sp : Sp) : Prop where
  ex : ∃ f fd, StX.CallO K C f ∧ FnOk P w K mg base (L2.CX P w) k f fd ps sp ∧ Binds K fd ps []
section
variable {X : Cx} {k j : Nat} {C : Addr} {ps : List Str} {sp : Sp} {e fe : Expr} {es : List Expr} {tf : TE} {t : TA} {pos : Pos} {W : WX}
def tCallI (C : Addr) (sp : Sp) (W : WX) (tf : TE) (t : TA) : TE := fun σ H Q => tf σ H fun y H1 => ∃ a, y = .ref a ∧ t σ H1 fun vs H2 => (∃ dx fs, H2 a = some (.ins C dx fs)) ∧ sp (.ref a :: vs) H2 Q (WE W σ)
theorem pe_callI (c : ClmC X.prog X.w X.K X.mg X.base k C ps sp) (tk : Takes X W) (hr : Room j X.A) (hk : k ≤ j) (hf : PE X fe tf) (ha : PA X (e :: es) t)
    (ht : eval (.Call fe (e :: es) [] pos) X.env = (do callWith pos (← eval fe X.env) [] (backTo pos (starEach (e :: es) X.env)) (backToKw pos (keywordEach [] X.env))) := by rfl)
    (he : starEach (e :: es) X.env = (false, eval e X.env) :: starEach es X.env := by rfl) (hpl : (backTo pos (starEach es X.env)).any (·.1) = false := by rfl) : PE X (.Call fe (e :: es) [] pos) (tCallI C sp W tf t) := by
  obtain ⟨f, fd, cc, F, hb⟩ := c.ex
  refine ⟨fun pins s σ H Q I h => Call_ (thn (hf.run pins s σ H _ I h) fun u s1 ⟨y, H1, I1, ry, a, ey, q⟩ => ?_) ht⟩
  subst ey
  obtain rfl : u = Value.ref a := ry
  refine StX.callO_with (thn (ha.run pos pins s1 σ H1 _ I1 q) fun us s2 ⟨vs, H2, I2, r, ⟨dx, fs, ei⟩, q2⟩ => ?_) he hpl
  obtain ⟨ox, od, J, hd⟩ := StX.insC_at I2 (.inr ⟨dx, fs, ei⟩)
  refine ⟨⟨C, ox, od, J, hd⟩, wpAny_call (PySem.W.kco_code I2.kIn J hd cc.at_ cc.fn cc.fi ?_)⟩
  have many : (Value.ref a :: us).length = ps.length := (Paired.length (show Vals (.ref a :: vs) (.ref a :: us) from .cons rfl r)) ▸ F.len _ _ _ _ q2
  have bind := hb s2 (.ref a :: us) I2.kIn (by rw [List.append_nil]; exact many)
  rw [List.append_nil] at bind
  refine codeAny_mono (F.run X.A X.stack s2 H2 ⟨.ref a :: us, []⟩ (.ref a :: us) (.ref a :: vs) Q (WE W σ) (hr.mono hk) I2.env0 bind (.cons rfl r) q2) fun y s' end_ => ?_
  match y, end_ with
  | .error e, end_ => exact passAt tk σ pins H2 s2 e s' I2 end_
  | .ok (.ret u), end_ => exact I2.after end_
end
/-! ### a new instance, some of its __init__'s values its defaults -/
structure MkrD (P : Program) (w : World) (K : PySem.W.Frag) (mg : Str → Option Value) (base : Heap) (k : Nat) (x : Str) (C : Addr) (ps : List Str) (sp : Sp) (dvs : List V) : Prop where
  gC : mg x = some (.ref C)
  ex : ∃ f fd ds, Mk K C f ∧ FnOk P w K mg base (L2.CX P w) k f fd ps sp ∧ Binds K fd ps ds ∧ Vals dvs ds
section
variable {X : Cx} {k j : Nat} {x : Str} {C : Addr} {ps : List Str} {sp : Sp} {dvs : List V} {e : Expr} {es : List Expr} {t : TA} {p pos : Pos}
theorem pe_mkD (c : MkrD X.prog X.w X.K X.mg X.base k x C ps sp dvs) (hr : Room j X.A) (hk : k + 1 ≤ j) (hg : Gl X x) (ha : PA X (e :: es) t) (hdb : (x == ("__debug__" : Str)) = false := by decide)
    (he : starEach (e :: es) X.env = (false, eval e X.env) :: starEach es X.env := by rfl) (hpl : (backTo pos (starEach es X.env)).any (·.1) = false := by rfl) : PE X (.Call (.Name x p) (e :: es) [] pos) (tMake C sp dvs E0 t) := by
  obtain ⟨f, fd, ds, M, F, hb, hd⟩ := c.ex
  exact pe_make M F (hr.mono hk) hg c.gC hb hd passL ha hdb he hpl
theorem pe_mkD0 (c : MkrD X.prog X.w X.K X.mg X.base k x C ps sp dvs) (hr : Room j X.A) (hk : k + 1 ≤ j) (hg : Gl X x) (hdb : (x == ("__debug__" : Str)) = false := by decide) : PE X (.Call (.Name x p) [] [] pos) (tMake C sp dvs E0 tNil) := by
  obtain ⟨f, fd, ds, M, F, hb, hd⟩ := c.ex
  exact pe_make0 M F (hr.mono hk) hg c.gC hb hd passL hdb
end
/-! ### a method without arguments -/
section
variable {X : Cx} {k j : Nat} {C : Addr} {m : Str} {ps : List Str} {sp : Sp} {o : Expr} {ta : TE} {apos pos : Pos}
theorem pe_mf0 {pl : Sem Bool} (c : Mt X.prog X.w X.K X.mg X.base k C m ps sp []) (hr : Room j X.A) (hk : k ≤ j) (he : PE X o ta)
    (ht : eval (.Call (.Attribute o m apos) [] [] pos) X.env = (do
      let v ← eval o X.env
      standAt apos.atName
      let (g, first) ← holding [v] (getMethod v m pl)
      callWith pos g first (backTo pos (starEach [] X.env)) (backToKw pos (keywordEach [] X.env))) := by rfl) : PE X (.Call (.Attribute o m apos) [] [] pos) (tMeth C m sp [] E0 ta tNil) := by
  obtain ⟨f, fd, ds, M, F, hb, hd⟩ := c.ex
  cases hd
  exact pe_meth0 he c.cl M F (hr.mono hk) hb .nil passL ht
end
/-! ### an own sign with something of a built-in kind at its right -/
section
variable {P : Program} {w : World} {A : Around} {E : Value → Shared → Prop} {s : Shared} {K : PySem.W.Frag} {x C L f : Addr} {hp : Heap} {mo : Str → Option Value} {ox : Obj} {od : Option Obj} {T : String} {op : Operator} {b : Value} {fo ro rc : Option Value} {Q : Value → Shared → Prop}
theorem bin_left (fr : Fr hp L s.heap mo) (kin : K.In hp) (J : PySem.W.InstAt s.heap x ox C od) (ty : PySem.W.Looks (model P w) s.heap (typeOf b) (.type T)) (sf : PySem.W.selfFirst K C = true)
    (M : OpM K C (PySem.dunder op.info.2) f) (hr : PySem.W.findIn K (.ref C) (PySem.dunderR op.info.2) = some none)
    (h1 : PySem.W.findIn K (.type T) (PySem.dunder op.info.2) = some fo) (h2 : PySem.W.findIn K (.type T) (PySem.dunderR op.info.2) = some ro) (sub : PySem.W.subIn K (.type T) (.ref C) = some false)
    (run : wpAny (model P w) A (call (.ref f) [.ref x, b]) (PySem.W.CmpBack Q) E s) : wpAny (model P w) A (binaryOp op (.ref x) b) Q E s := by
  have XX := kin.keeps fr.keep
  obtain ⟨at_, fn⟩ := M
  obtain ⟨cd, rest, own, first⟩ := PySem.W.ksp_first sf
  rcases key : op.info with ⟨sign, nm⟩
  rw [key] at at_ hr h1 h2
  dsimp only at at_ hr h1 h2
  have last := PySem.W.ksp_try XX J at_ fn run
  obtain ⟨hh, gg, dd, tt, os⟩ := s
  have y1 : PySem.W.Looks (model P w) hh (typeOf (.ref x)) (.ref C) := J.type
  have y2 : PySem.W.Looks (model P w) hh (typeOf b) (.type T) := ty
  have y3 : PySem.W.Looks (model P w) hh (fillsNumberSlot (.ref C) nm) true := PySem.W.fills_K XX own first at_
  have y4 : PySem.W.Looks (model P w) hh (fillsNumberSlot (.type T) nm) ((fo.isSome && !isSeqSlot fo) || (ro.isSome && !isSeqSlot ro)) := PySem.W.ksp_fillsT XX h1 h2
  have y5 : PySem.W.Looks (model P w) hh (isSubtype (.type T) (.ref C)) false := PySem.W.looks_subIn XX sub
  have y6 : PySem.W.Looks (model P w) hh (numberSlotInPython (.ref C) nm) true := PySem.W.ksp_inPy XX at_ hr (.inl rfl)
  have y7 : PySem.W.Looks (model P w) hh (numberSlotInPython (.type T) nm) false := PySem.W.Looks.of_pure rfl
  have y8 : PySem.W.Looks (model P w) hh (typeLookup (.type T) (PySem.dunderR nm)) ro := PySem.W.looks_findIn XX h2
  generalize ((fo.isSome && !isSeqSlot fo) || (ro.isSome && !isSeqSlot ro)) = side at y4
  have ne : (Value.ref C == Value.type T) = false := Bool.eq_false_iff.mpr fun z => nomatch beq_iff_eq.mp z
  simp only [binaryOp, key]
  refine wpAny_holding (wpAny_bind ?_)
  unfold binaryOp1
  refine wpAny_bind (y1.at (wpAny_bind (y2.at (wpAny_bind (y3.at ?_)))))
  simp only [ne, Bool.false_eq_true, if_false]
  cases side <;>
  · ksp_lk
    refine wpAny_mono last (fun r s' z => ?_) fun _ _ z => z
    obtain ⟨v, rfl, hv⟩ := z
    ksp_lk
    exact hv
end
section
variable {X : Cx} {CX : CXT} {k j : Nat} {C : Addr} {ps : List Str} {sp : Sp} {a b : Expr} {ta tb : TE} {pos : Pos} {W : WX} {op : Operator}
/-- what an own sign with a tuple at its right wants of the class -/
structure TupR (K : PySem.W.Frag) (C : Addr) (nm : String) : Prop where
  rf : PySem.W.findIn K (.ref C) (PySem.dunderR nm) = some none
  t1 : ∃ fo, PySem.W.findIn K (.type "tuple") (PySem.dunder nm) = some fo
  t2 : ∃ ro, PySem.W.findIn K (.type "tuple") (PySem.dunderR nm) = some ro
  sb : PySem.W.subIn K (.type "tuple") (.ref C) = some false
def tBinT (K : PySem.W.Frag) (C : Addr) (sp : Sp) (E : L2.St → XK) (ta tb : TE) : TE := fun σ H Q => ta σ H fun x H1 => tb σ H1 fun y H2 => ∃ p q dx fs ys, x = .ref p ∧ y = .ref q ∧ H2 p = some (.ins C dx fs) ∧ SqT K H2 q ys ∧ sp [x, y] H2 Q (E σ)
theorem pe_binT (c : OpC X.prog X.w X.K X.mg X.base k C (PySem.dunder op.info.2) ps sp) (R : TupR X.K C op.info.2) (tk : Takes X W) (hr : Room j X.A) (hk : k ≤ j) (h1 : PE X a ta) (h2 : PE X b tb) : PE X (.BinOp a op b pos) (tBinT X.K C sp (WE W) ta tb) := by
  obtain ⟨f, fd, M, F, hb⟩ := c.ex
  obtain ⟨rf, ⟨fo, t1⟩, ⟨ro, t2⟩, sb⟩ := R
  refine ⟨fun pins s σ H Q I h => wpAny_BinOp (bin h1 h2 I h fun v u s2 x y H2 I2 rx ry q => ?_)⟩
  obtain ⟨p, q', dx, fs, ys, rfl, rfl, e1, e2, q⟩ := q
  cases rx
  cases ry
  obtain ⟨o1, J1⟩ := ins_at I2 e1
  obtain ⟨m, fr⟩ := I2.fr
  obtain ⟨its, rv, ⟨o, ho, hc, _⟩, _⟩ := I2.tuple e2
  exact bin_left fr I2.ok.mod.kin J1 (fun A' Q' E' s' kp z => wpAny_typeOf_ref (kp _ _ ho) (by rw [hc]; exact z)) c.sf M rf t1 t2 sb
    (thn (run_fnS (vs := [.ref p, .ref q']) F (hr.mono hk) hb (passAt tk σ) I2 (.cons rfl (.cons rfl .nil)) q) fun _ _ z => back_of z)
end
end Ew

set_option Elab.async false
set_option linter.all false
set_option maxRecDepth 100000
set_option maxHeartbeats 4000000
namespace Ew
open PySem PySem.Spec PyProof.Rows L2
section
variable {P : Program} {w : World} {K : PySem.W.Frag} {mg mb : Str → Option Value} {k : Nat} {fa a : Addr} {fd : FuncData} {x : Str} {sp : Sp} {st : Shared} {vs : List Value} {ns : List Int}
/-- what is needed of the heap in which the law is asked -/
structure Seed (P : Program) (w : World) (K : PySem.W.Frag) (h : Heap) (a : Addr) (ns : List Int) (H : Hp) : Prop where
  only : Only H
  sq : SqL K H a (ns.map V.int)
  ok : HOk P w H h
  lone : ∀ b, H b ≠ none → b = a
  apart : H a ≠ none → K.lookup a = none
theorem seed_of (KX : K.In st.heap) (ha : st.heap.get? a = some { cls := .type "list", data := .seq vs.toArray }) (hi : IntsAre vs ns) (hl : ns.length ≤ sizeLine) : ∃ H, Seed P w K st.heap a ns H := by
  have rv := vals_ints hi
  rcases hk : K.lookup a with _ | o
  · have off : ∀ b, ¬ b = a → (fun b => if b = a then some (HO.frz { cls := .type "list", data := .seq vs.toArray } (.lst (ns.map V.int))) else none) b = none := fun b n => if_neg n
    refine ⟨fun b => if b = a then some (.frz { cls := .type "list", data := .seq vs.toArray } (.lst (ns.map V.int))) else none, ⟨fun b => ?_, .inl (.inr ⟨_, if_pos rfl⟩), fun b u z => ?_, fun b z => ?_, fun _ => hk⟩⟩
    · rcases Classical.em (b = a) with e | e
      · exact .inr ⟨_, _, if_pos e⟩
      · exact .inl (off b e)
    · rcases Classical.em (b = a) with e | e
      · cases (if_pos e).symm.trans z
        rw [e]
        exact ⟨ha, by rw [List.length_map]; exact hl, vs, _, rv, ha⟩
      · cases (off b e).symm.trans z
    · exact Classical.byContradiction fun e => z (off b e)
  · have e := KX a o hk
    rw [ha] at e
    cases e
    refine ⟨fun _ => none, ⟨fun _ => .inl rfl, .inr ⟨_, vs.toArray, _, hk, rfl, rfl, rfl, ?_, by simpa using rv⟩, (fun b u z => nomatch z), (fun b z => absurd rfl z), fun z => absurd rfl z⟩⟩
    rw [List.size_toArray, hi.length]
    exact hl
theorem seed_env {H : Hp} (S : Seed P w K st.heap a ns H) (KX : K.In st.heap) (hns : st.heap.Ns mainGlobals mg) (hb : st.heap.Ns builtinsNs mb) (hbb : ∀ x : Str, x ≠ "__name__" → mb x = bootBuiltins x) (hlim : st.heap.NoLimit) (hg : st.gens = #[])
    (ha : st.heap.get? a = some { cls := .type "list", data := .seq vs.toArray }) : Mod K mg (hidT st.heap H) ∧ Env0 P w K mg (hidT st.heap H) callerA [] st H := by
  have free : ∀ {b : Addr}, ¬ b = a → H b = none := fun {b} n => Classical.byContradiction fun z => n (S.lone b z)
  have seen : ∀ {b : Addr} {m : Str → Option Value}, st.heap.Ns b m → (hidT st.heap H).Ns b m := by
    rintro b m ⟨o, es, ep, e, d, r⟩
    refine ⟨o, es, ep, hidT_get e (free fun q => ?_), d, r⟩
    rw [q, ha] at e
    cases e
    cases (show Data.seq vs.toArray _ = Data.dict es ep from d)
  have kin : K.In (hidT st.heap H) := fun b o e => by
    refine hidT_get (KX b o e) (Classical.byContradiction fun z => ?_)
    have q := S.lone b z
    rw [q] at z e
    rw [S.apart z] at e
    cases e
  obtain ⟨mc, l1, l2⟩ := hlim
  have md : Mod K mg (hidT st.heap H) := ⟨kin, seen hns, ⟨mb, seen hb, hbb⟩, mc, seen l1, l2⟩
  exact ⟨md, ⟨rfl, md, fun b o e => of_hidT e, Nat.le_of_eq (hidT_size _ _), trivial, fun b z => (nomatch z), S.ok, .of_eq hg⟩⟩
theorem law_callG (KX : K.In st.heap) (hns : st.heap.Ns mainGlobals mg) (hb : st.heap.Ns builtinsNs mb) (hbb : ∀ x : Str, x ≠ "__name__" → mb x = bootBuiltins x) (hlim : st.heap.NoLimit) (hg : st.gens = #[])
    (ha : st.heap.get? a = some { cls := .type "list", data := .seq vs.toArray }) (hi : IntsAre vs ns) (hl : ns.length ≤ sizeLine) (hr : Room k callerA)
    (F : ∀ base : Heap, K.In base → base.Ns mainGlobals mg → FnG P w K mg base k fa fd [x] sp) (hbind : ∀ (s : Shared) (u : Value), BindsTo s fd ⟨[u], []⟩ [(x, u)])
    (hsp : ∀ H : Hp, Only H → SqL K H a (ns.map V.int) → sp [.ref a] H (fun v _ => v = .bl true) fun _ _ _ => False) :
    codeAny (model P w) callerA (.call (.ref fa) ⟨[.ref a], []⟩) (fun r s' => r = .ok (.ret (.bool true)) ∧ OldK st.heap s'.heap ∧ s'.os = st.os ∧ AllBare s'.gens) st := by
  obtain ⟨H, S⟩ := seed_of (P := P) (w := w) KX ha hi hl
  obtain ⟨md, env⟩ := seed_env S KX hns hb hbb hlim hg ha
  refine codeAny_mono ((F _ md.kin md.glob).go callerA [] st H ⟨[.ref a], []⟩ [.ref a] [.ref a] _ _ rfl hr env (hbind st (.ref a)) (.cons rfl .nil) (hsp H S.only S.sq)) ?_
  intro r s' got
  match r, got with
  | .error e, got =>
    obtain ⟨_, _, _, _, _, _, _, _, _, _, _, _, z⟩ := got
    exact z.elim
  | .ok (.ret u), ⟨v, H', os, bare, un, hok', r', q⟩ =>
    have q : v = .bl true := q
    subst q
    have r' : u = Value.bool true := r'
    subst r'
    refine ⟨rfl, OldK.of_keep fun b o e => ?_, os, bare⟩
    rcases z : H b with _ | u
    · exact un.keep b o e z (fun y => nomatch y) (by simp)
    · rcases S.only b with y | ⟨ob, xs, y⟩
      · rw [z] at y
        cases y
      · obtain ⟨e1, _⟩ := S.ok b _ y
        obtain ⟨e2, _⟩ := hok' b _ (un.frzs b ob _ y)
        rw [e] at e1
        cases e1
        exact e2
end
theorem walk_G {l : PySem.W.OpenLaw} {n k : Nat} {q : Program} {loose : List Str} {XP : (Str → Option Value) → Heap → Prop} {YP : World → Heap → Prop} {d : DefRec} {K : Params → PySem.W.Frag} {sp : World → Sp} {x : Str}
    (hn : l.most = some n) (hn2 : n ≤ sizeLine) (hdf : d.params.defaults = []) (hr : Room k callerA) (hY : ∀ (w : World) (h : Heap), YP w h → (K w.params).In h)
    (F : ∀ (w : World) (mg : Str → Option Value) (fa : Addr) (h : Heap), (K w.params).In h → h.Ns mainGlobals mg → mg d.name = some (.ref fa) →
      ∃ fd : FuncData, (∀ (s : Shared) (u : Value), BindsTo s fd ⟨[u], []⟩ [(x, u)]) ∧ ∀ base : Heap, (K w.params).In base → base.Ns mainGlobals mg → FnG l.prog w (K w.params) mg base k fa fd [x] (sp w))
    (hsp : ∀ (w : World) (H : Hp) (a : Addr) (ns : List Int), ns.length ≤ n → Only H → SqL (K w.params) H a (ns.map V.int) → sp w [.ref a] H (fun v _ => v = .bl true) fun _ _ _ => False) :
    PySem.W.WalkO q loose XP YP l.row.toRowW d [] (fun f vs => PySem.call f vs) := by
  refine Att.attach_call hn hdf ?_
  intro w s₀ s₁ mg mb fa o pm cd doc a vs ns G Y ho hd hcd hmg hobj hints hlen hg
  obtain ⟨fd, bind, go⟩ := F w mg fa _ (hY w _ Y) G.T.g hmg
  exact law_callG (hY w _ Y) G.T.g G.T.b G.T.builtins G.T.nolimit hg hobj hints (Nat.le_trans hlen hn2) hr go bind fun H o s => hsp w H a ns hlen o s
end Ew

set_option Elab.async false
set_option linter.all false
set_option maxRecDepth 100000
set_option maxHeartbeats 4000000
namespace Ew
open PySem PySem.Spec PyProof.Rows L2
open SX (S)
/-! ### lists or tuples -/
section
variable {X : Cx} {tg l : Expr} {tl : TE}
theorem pi_seq (hl : PE X l tl) : PI X tg l (fun σ H R => iList X.K tl σ H R ∨ iTup X.K tl σ H R) :=
  ⟨fun pins s σ H R I h => h.elim ((pi_list hl).run pins s σ H R I) ((pi_tup hl).run pins s σ H R I)⟩
end
/-- a list or a tuple of xs at v -/
def Sq (K : PySem.W.Frag) (F : Hp) (v : V) (xs : List V) : Prop := ∃ p, v = .ref p ∧ (SqL K F p xs ∨ SqT K F p xs)
theorem Sq.up {K : PySem.W.Frag} {F F' : Hp} {v : V} {xs : List V} (h : Sq K F v xs) (e : Same F F') : Sq K F' v xs := by
  obtain ⟨p, h1, h2⟩ := h
  exact ⟨p, h1, h2.imp (upL e) (upT e)⟩
/-! ### a dict comprehension over anything that walks -/
theorem dc_it {J : It} {n : Nat} {G : Hp → Prop} {Y : Nat → Hp → V → Hp → Prop} (w : Walk J n G Y) {g : TG} {tt : TT} {tk tv : TE} {vs : List Nat} {σ : L2.St} {H1 : Hp} {D : Addr} {Qd : Hp → Prop} (Pv : Nat → Hp → Prop) (h0 : Pv 0 (upd H1 D (.dK []))) (hG : ∀ i H, i ≤ n → Pv i H → G H)
    (hs : ∀ i x H H', i < n → Pv i H → Y i H x H' → g x (wipe σ vs) H' fun σ2 H2 => wipe σ2 vs = wipe σ vs ∧ tt σ2 H2 fun b H3 =>
      if b = true then tk σ2 H3 fun y H4 => tv σ2 H4 fun z H5 => ∃ kvs k, y = kV k ∧ H5 D = some (.dK kvs) ∧ kvs.length < sizeLine ∧ Pv (i + 1) (upd H5 D (.dK (putK kvs k z))) else Pv (i + 1) H3) (hd : ∀ H, Pv n H → Qd H) :
    ∃ W : Nat → Nat → Hp → Prop, (∃ m, W 0 m (upd H1 D (.dK []))) ∧ ∀ i m H, W i m H →
      (J.stop i H ∧ Qd H) ∨ (J.go i H ∧ ∃ Nx : Hp → Prop, (∀ H', Nx H' → ∃ m', m' < m ∧ W (i + 1) m' H') ∧ ∀ x H', J.yld i H x H' → g x (wipe σ vs) H' fun σ2 H2 => wipe σ2 vs = wipe σ vs ∧ tt σ2 H2 fun b H3 =>
        if b = true then tk σ2 H3 fun y H4 => tv σ2 H4 fun z H5 => ∃ kvs k, y = kV k ∧ H5 D = some (.dK kvs) ∧ kvs.length < sizeLine ∧ Nx (upd H5 D (.dK (putK kvs k z))) else Nx H3) := by
  refine ⟨fun i m H => m = n - i ∧ i ≤ n ∧ Pv i H, ⟨n, by simp, Nat.zero_le _, h0⟩, ?_⟩
  rintro i m H ⟨rfl, hi, p⟩
  have q := hG i H hi p
  rcases Nat.lt_or_ge i n with lt | ge
  · exact .inr ⟨w.goes i H lt q, Pv (i + 1), fun H' p' => ⟨n - (i + 1), by omega, rfl, lt, p'⟩, fun x H' y => hs i x H H' lt p (w.yields i H x H' lt q y)⟩
  · obtain rfl : i = n := by omega
    exact .inl ⟨w.stops H q, hd H p⟩
/-! ### a text, k times -/
theorem fold_rep (a : Array Nat) : ∀ (m : Nat) (acc : Array Nat), (List.replicate m a).foldl (· ++ ·) acc = acc ++ (List.replicate m a.toList).flatten.toArray
  | 0, acc => by simp
  | m + 1, acc => by
    rw [List.replicate_succ, List.foldl_cons, fold_rep a m, List.replicate_succ]
    apply Array.ext'
    simp
def rep (k : Nat) (l : List Nat) : List Nat := (List.replicate k l).flatten
theorem rep_len (l : List Nat) : ∀ k, (rep k l).length = k * l.length
  | 0 => by simp [rep]
  | k + 1 => by
    have := rep_len l k
    unfold rep at this ⊢
    rw [List.replicate_succ, List.flatten_cons, List.length_append, this, Nat.succ_mul]
    omega
def rRepS : R2 := fun x y H Q => ∃ (l : List Nat) (k : Int), x = .str (S l) ∧ y = .int k ∧ 1 ≤ k ∧ k ≤ 100000 ∧ l ≠ [] ∧ l.length ≤ 100 ∧ Q (.str (S (rep k.toNat l))) H
theorem op_repS {X : Cx} : OpR X (binaryOp .Mult) rRepS := by
  intro pins s σ H x y v u Q I rx ry h
  obtain ⟨l, k, rfl, rfl, h1, h2, h3, h4, q⟩ := h
  obtain ⟨t, rfl⟩ := rx
  obtain ⟨t', rfl⟩ := ry
  have hl : (S l).length = l.length := SX.S_len l
  have l0 : 0 < l.length := List.length_pos_iff.mpr h3
  have kz : ((k.toNat : Nat) : Int) = k := Int.toNat_of_nonneg (by omega)
  have hb : l.length * k.toNat ≤ 100 * 100000 := Nat.mul_le_mul h4 (by omega)
  refine PySem.P.mul_str ?_ (fun _ _ => ?_) (fun _ _ => ?_) ?_
  · rw [decide_eq_false (by omega), decide_eq_false (by omega)]
    rfl
  · rw [hl]
    have : (l.length : Int) ≤ (2 ^ 63 - 1) / k := (Int.le_ediv_iff_mul_le (by omega)).mpr (by
      have : (l.length : Int) * k = ((l.length * k.toNat : Nat) : Int) := by rw [Int.natCast_mul, kz]
      rw [this]
      omega)
    omega
  · rw [hl]
    unfold PySem.Builtin.Str.tooLong
    rw [decide_eq_false_iff_not, sizeLine_eq]
    omega
  · rw [if_neg (by omega)]
    by_cases e : k = 1
    · subst e
      have er : rep (1 : Int).toNat l = l := by simp [rep]
      rw [er] at q
      rw [if_pos (by rfl)]
      exact ⟨.str (S l), H, I, ⟨_, rfl⟩, q⟩
    · have e1 : (k == 1) = false := by rw [beq_eq_false_iff_ne]; exact e
      have e0 : ((S l).length == 0) = false := by rw [hl, beq_eq_false_iff_ne]; omega
      rw [e1, e0, if_neg (by decide), fold_rep]
      have e3 : (#[] ++ (List.replicate k.toNat (S l).cps.toList).flatten.toArray : Array Nat) = (rep k.toNat l).toArray := by simp [rep]
      rw [e3]
      refine ⟨?_, ⟨.str (S (rep k.toNat l)), H, I.tok _, ⟨_, rfl⟩, q⟩⟩
      show (S (rep k.toNat l)).length ≤ sizeLine
      rw [SX.S_len, rep_len, sizeLine_eq, Nat.mul_comm]
      omega
/-! ### str of a tuple, where no repr is under way; of an int -/
def rStrD (K : PySem.W.Frag) : List V → Hp → VK → Prop := fun xs H Q => ∃ (a : Addr) (d : PyData), xs = [.ref a] ∧ Dp K H (.ref a) d ∧ d.showable = true ∧ d.hasDict = false ∧ d.depth ≤ 50 ∧ d.shown.length ≤ sizeLine ∧ Q (.str d.shown) H
theorem call_strD {X : Cx} (hg : X.A.guards = some []) (hu : X.A.units + 64 < cLine) : CallR X (.type "str") (rStrD X.K) := by
  intro pins s σ H xs us Q I r h
  obtain ⟨a, d, rfl, hd, h1, h2, h3, h4, q⟩ := h
  obtain ⟨u, rfl, rx⟩ := vals1 r
  obtain ⟨as, rd⟩ := Dp.reads I d _ _ hd rx
  obtain rfl : u = Value.ref a := rx
  exact str_of_reads rd h1 (PyData.noDict_hsm h2) hg (by omega) (fun _ _ e => e) (fun h' u' tk hk => ⟨.str d.shown, H, I.kept hk, ⟨_, rfl⟩, q⟩) h4
end Ew

set_option Elab.async false
set_option linter.all false
set_option maxRecDepth 100000
set_option maxHeartbeats 4000000
namespace Ew
open PySem PySem.Spec PyProof.Rows L2
open SX (S)
/-! ### methods: with a row of further values, and without any, that may let an error out -/
section
variable {P : Program} {w : World} {K : PySem.W.Frag} {mg : Str → Option Value} {base : Heap}
/-- def m(a, .., *r) of the class at C, as it stands behind the top -/
structure StarAt (K : PySem.W.Frag) (C : Addr) (m q : Str) (st : Stmt) (ps : List Str) (pv : Str) : Prop where
  ex : ∃ f fd, Meth K C m f ∧ Fun K m q st f fd ∧ ∀ us rest : List Value, us.length = ps.length → bindArgs fd ⟨us ++ rest, []⟩ = (newTuple rest >>= fun t => pure (ps.zip us ++ [(pv, t)]))
/-- a method by the values that it is given -/
structure StrM (P : Program) (w : World) (K : PySem.W.Frag) (mg : Str → Option Value) (base : Heap) (k : Nat) (C : Addr) (m : Str) (sp : Sp) : Prop where
  cl : Cls K C
  ex : ∃ f, Meth K C m f ∧ FnR P w K mg base (L2.CX P w) k f sp
theorem StarAt.mt {C : Addr} {m q : Str} {st : Stmt} {ps N : List Str} {pv : Str} {k : Nat} {sp : Sp} (D : StarAt K C m q st ps pv) (c : Cls K C) (S : FnScope N (ps ++ [pv]) (defScope st)) (h : BodyOk P w K mg base N q st k sp) :
    StrM P w K mg base (k + 1) C m (fun vs H Q E => ∃ ws rest, vs = ws ++ rest ∧ ws.length = ps.length ∧ rest.length ≤ sizeLine ∧ ∀ p, H p = none → sp (ws ++ [V.ref p]) (upd H p (.tup rest)) Q E) := by
  obtain ⟨f, fd, M, F, hb⟩ := D.ex
  obtain ⟨oc, od, kV, doc, pm, an, cdv, ct, osl, rfl, lk, hcd⟩ := F.ex
  exact ⟨c, f, M, StX.fn_star lk hcd S StX.cxUp hb fun A outer s H vs Q E hr hs => h f cdv A outer s H vs Q E hr hs⟩
end
section
variable {X : Cx} {k j : Nat} {C : Addr} {m : Str} {ps : List Str} {sp : Sp} {e o : Expr} {es : List Expr} {t : TA} {ta : TE} {pos apos : Pos} {W : WX}
theorem run_w {f : Addr} {pins : List (Addr × Obj)} {σ : L2.St} {H : Hp} {s : Shared} {Q : VK} {us : List Value} {vs : List V} (F : FnR X.prog X.w X.K X.mg X.base (L2.CX X.prog X.w) k f sp) (tk : Takes X W) (hr : Room k X.A) (I : Inv X pins σ H s) (r : Vals vs us) (h : sp vs H Q (WE W σ)) :
    wpAny (model X.prog X.w) X.A (call (.ref f) us) (EP X pins σ Q) X.xe s := by
  refine wpAny_call (codeAny_mono (F X.A X.stack s H us vs Q (WE W σ) hr I.env0 r h) fun y s' hq => ?_)
  match y, hq with
  | .error e, hq => exact passAt tk σ pins H s e s' I hq
  | .ok (.ret u), hq => exact I.after hq
def tMr (C : Addr) (m : Str) (sp : Sp) (W : WX) (ta : TE) (t : TA) : TE := fun σ H Q => ta σ H fun x H1 => ∃ a dx fs, x = .ref a ∧ H1 a = some (.ins C dx fs) ∧ fs.lookup m = none ∧ t σ H1 fun vs H2 => sp (x :: vs) H2 Q (WE W σ)
theorem pe_mr {pl : Sem Bool} (c : StrM X.prog X.w X.K X.mg X.base k C m sp) (tk : Takes X W) (hr : Room j X.A) (hk : k ≤ j) (he : PE X o ta) (ha : PA X (e :: es) t)
    (hst : starEach (e :: es) X.env = (false, eval e X.env) :: starEach es X.env := by rfl) (hpl : (backTo pos (starEach es X.env)).any (·.1) = false := by rfl)
    (ht : eval (.Call (.Attribute o m apos) (e :: es) [] pos) X.env = (do
      let v ← eval o X.env
      standAt apos.atName
      let (g, first) ← holding [v] (getMethod v m pl)
      callWith pos g first (backTo pos (starEach (e :: es) X.env)) (backToKw pos (keywordEach [] X.env))) := by rfl) :
    PE X (.Call (.Attribute o m apos) (e :: es) [] pos) (tMr C m sp W ta t) := by
  obtain ⟨f, hm, F⟩ := c.ex
  refine ⟨fun pins s σ H Q I h => PySem.W.methodCall_KW (pl := pl) (thn (he.run pins s σ H _ I h) fun u s1 ⟨x, H1, I1, rx, a, dx, fs, ex, ea, l, q⟩ => ?_) ht⟩
  subst ex
  obtain rfl : u = Value.ref a := rx
  refine getmeth_ok I1 ea c.cl hm l ?_
  refine PySem.W.callWith_K (h₀ := X.base) I1.ok.mod.kin hm.kp (thn (ha.run pos pins s1 σ H1 _ I1 q) fun us s2 ⟨vs, H2, I2, r, q2⟩ => ⟨I2.kIn, ?_⟩) hst hpl
  exact run_w (vs := .ref a :: vs) F tk (hr.mono hk) I2 (.cons rfl r) q2
def tMr0 (C : Addr) (m : Str) (sp : Sp) (W : WX) (ta : TE) : TE := fun σ H Q => ta σ H fun x H1 => ∃ a dx fs, x = .ref a ∧ H1 a = some (.ins C dx fs) ∧ fs.lookup m = none ∧ sp [x] H1 Q (WE W σ)
theorem pe_mr0 {pl : Sem Bool} (c : StrM X.prog X.w X.K X.mg X.base k C m sp) (tk : Takes X W) (hr : Room j X.A) (hk : k ≤ j) (he : PE X o ta)
    (ht : eval (.Call (.Attribute o m apos) [] [] pos) X.env = (do
      let v ← eval o X.env
      standAt apos.atName
      let (g, first) ← holding [v] (getMethod v m pl)
      callWith pos g first (backTo pos (starEach [] X.env)) (backToKw pos (keywordEach [] X.env))) := by rfl) :
    PE X (.Call (.Attribute o m apos) [] [] pos) (tMr0 C m sp W ta) := by
  obtain ⟨f, hm, F⟩ := c.ex
  refine ⟨fun pins s σ H Q I h => PySem.W.methodCall_KW (pl := pl) (thn (he.run pins s σ H _ I h) fun u s1 ⟨x, H1, I1, rx, a, dx, fs, ex, ea, l, q⟩ => ?_) ht⟩
  subst ex
  obtain rfl : u = Value.ref a := rx
  refine getmeth_ok I1 ea c.cl hm l ?_
  exact PySem.W.callWith_K0 (first := [.ref a]) I1.kIn hm.kp (wpAny_call (codeAny_mono (F X.A X.stack s1 H1 [.ref a] [.ref a] Q (WE W σ) (hr.mono hk) I1.env0 (.cons rfl .nil) q) fun y s' hq => by
    match y, hq with
    | .error e, hq => exact passAt tk σ pins H1 s1 e s' I1 hq
    | .ok (.ret u), hq => exact I1.after hq))
theorem pe_mw0 {pl : Sem Bool} (c : Mt X.prog X.w X.K X.mg X.base k C m ps sp []) (tk : Takes X W) (hr : Room j X.A) (hk : k ≤ j) (he : PE X o ta)
    (ht : eval (.Call (.Attribute o m apos) [] [] pos) X.env = (do
      let v ← eval o X.env
      standAt apos.atName
      let (g, first) ← holding [v] (getMethod v m pl)
      callWith pos g first (backTo pos (starEach [] X.env)) (backToKw pos (keywordEach [] X.env))) := by rfl) :
    PE X (.Call (.Attribute o m apos) [] [] pos) (tMr0 C m sp W ta) := by
  obtain ⟨f, fd, ds, hm, F, hb, hd⟩ := c.ex
  cases hd
  refine pe_mr0 (k := k) ⟨c.cl, f, hm, ?_⟩ tk hr hk he ht
  have := F.raw hb .nil
  exact this.imp fun vs H Q E z => by rw [List.append_nil]; exact z
end
/-! ### a table of the top whose keys are texts -/
structure Tb (K : PySem.W.Frag) (w : World) (d : Addr) (ks : List Str) : Prop where
  keys : He.dicW K d = some (He.keysIn w.params ks)
theorem Tb.at_ {K : PySem.W.Frag} {w : World} {d : Addr} {ks : List Str} (T : Tb K w d ks) : ∃ es n, KDict K w d es n ∧ es.toList.map He.keyOf = He.keysIn w.params ks := by
  obtain ⟨es, n, D⟩ := He.dicW_ok T.keys
  refine ⟨es, n, D, ?_⟩
  have h := T.keys
  unfold He.dicW at h
  rw [D.at_] at h
  dsimp only at h
  rw [show (decide (("dict" : String) = "dict") && ((#[] : Array (Option Value)).isEmpty && !(d == sysModules))) = true by rw [D.low]; rfl] at h
  exact Option.some.inj h
theorem keys_find {P : Params} {z : Str} : ∀ {l : List DictEntry} {ks : List Str}, l.map He.keyOf = He.keysIn P ks → (l.find? (·.key.isStr z)).isSome = decide (z ∈ ks) ∧ l.any (·.refKey) = false
  | [], [], _ => ⟨rfl, rfl⟩
  | [], k :: ks, h => by cases h
  | e :: l, [], h => by cases h
  | e :: l, k :: ks, h => by
    have h1 : He.keyOf e :: l.map He.keyOf = some (k, PyData.keyHash P k) :: He.keysIn P ks := h
    injection h1 with h2 h3
    obtain ⟨i1, i2⟩ := keys_find (z := z) h3
    obtain ⟨t, q⟩ : ∃ t, e.key = .str k t := by
      unfold He.keyOf at h2
      split at h2
      · rename_i x t q
        obtain ⟨h5, _⟩ := Prod.mk.inj (Option.some.inj h2)
        exact ⟨t, by rw [q, h5]⟩
      · cases h2
    have er : e.refKey = false := by unfold DictEntry.refKey; rw [q]
    have ei : e.key.isStr z = decide (k = z) := by
      rw [q]
      show (k == z) = _
      by_cases c : k = z
      · subst c; simp
      · rw [decide_eq_false c]; exact beq_eq_false_iff_ne.mpr c
    refine ⟨?_, by rw [List.any_cons, er, i2]; rfl⟩
    rw [List.find?_cons, ei]
    by_cases c : k = z
    · subst c
      rw [decide_eq_true rfl]
      simp
    · rw [decide_eq_false c]
      dsimp only
      rw [i1]
      have c' : ¬ z = k := fun y => c y.symm
      by_cases c2 : z ∈ ks <;> simp [c2, c']
theorem Tb.ns {K : PySem.W.Frag} {w : World} {d : Addr} {ks : List Str} (T : Tb K w d ks) (z : Str) : ∃ r, PySem.W.nsIn K d z = some r ∧ r.isSome = decide (z ∈ ks) := by
  obtain ⟨es, n, D, h⟩ := T.at_
  obtain ⟨h1, h2⟩ := keys_find (z := z) h
  unfold PySem.W.nsIn
  rw [D.at_]
  dsimp only
  cases q : es.toList.find? (·.key.isStr z) with
  | some e => rw [q] at h1; exact ⟨_, rfl, h1⟩
  | none => rw [q] at h1; rw [if_neg (by rw [h2]; decide)]; exact ⟨_, rfl, h1⟩
section
variable {X : Cx} {d : Addr} {ks : List Str}
theorem none_in {es : Array DictEntry} {n : Nat} (D : KDict X.K X.w d es n) {h : Heap} (hk : X.K.In h) : ∃ f, h.MapOf (noneKind X.prog X.w) d f ∧ f none = none := by
  refine ⟨fun k => findBy (noneKind X.prog X.w).is es k, ⟨_, es, n, hk _ _ D.at_, ⟨rfl, rfl, rfl⟩, rfl, fun e he => ?_, fun _ => rfl⟩, ?_⟩
  · obtain ⟨x, t, e1, e2⟩ := D.lit.all e (Array.mem_toList_iff.mpr he)
    refine ⟨some (.inr x), ?_, e2⟩
    show keyIs (.inr x) e.key = true
    rw [e1]
    exact PySem.strKind_is X.prog X.w x t
  · have q : (es.find? fun e => nkIs none e.key) = none := by
      rw [Array.find?_eq_none]
      intro e he hq
      obtain ⟨x, t, e1, _⟩ := D.lit.all e (Array.mem_toList_iff.mpr (by simpa using he))
      have := nk_none hq
      rw [e1] at this
      cases this
    show (es.find? fun e => nkIs none e.key).map (·.val) = none
    rw [q]
    rfl
def rInTb (d : Addr) (ks : List Str) : R2 := fun x y H Q => y = .ref d ∧ ((∃ z, x = .str z ∧ Q (.bl (decide (z ∈ ks))) H) ∨ (x = .non ∧ Q (.bl false) H))
theorem op_in_tb (T : Tb X.K X.w d ks) : OpR X (compareOp .In) (rInTb d ks) := by
  intro pins s σ H x y v u Q I rx ry h
  obtain ⟨es, n, D, hks⟩ := T.at_
  obtain ⟨rfl, ⟨z, rfl, q⟩ | ⟨rfl, q⟩⟩ := h
  · obtain ⟨r, e, er⟩ := T.ns z
    exact op_in_kd D pins s σ H _ _ v u Q I rx ry ⟨z, r, rfl, rfl, e, er ▸ q⟩
  · obtain rfl : v = Value.none := rx
    cases ry
    obtain ⟨f, hm, hf⟩ := none_in D I.kIn
    refine wpAny_in_of (show (noneKind X.prog X.w).is none .none = true from rfl) D.low hm ?_
    rw [hf]
    exact ⟨.bl false, H, I.tok _, rfl, q⟩
def rIxTb (K : PySem.W.Frag) (d : Addr) : R2 := fun x y H Q => ∃ (z : Str) (u0 : Value) (v0 : V), x = .ref d ∧ y = .str z ∧ PySem.W.nsIn K d z = some (some u0) ∧ RelV v0 u0 ∧ Q v0 H
theorem ix_tb (T : Tb X.K X.w d ks) : IxR X (rIxTb X.K d) := by
  intro value slice pins s σ H x y v u Q I rx ry h hs
  obtain ⟨es, n, D, hks⟩ := T.at_
  obtain ⟨z, u0, v0, rfl, rfl, e, r, q⟩ := h
  cases rx
  obtain ⟨t, rfl⟩ := ry
  exact tail_any (kd_type D I) PySem.F.slot_dict_getitem.lookup (op_item_kd D pins s σ H (.ref d) (.str z) _ _ Q I rfl ⟨t, rfl⟩ ⟨z, u0, v0, rfl, rfl, e, r, q⟩) hs
end
/-! ### a text so many times, perhaps none -/
def rRepZ : R2 := fun x y H Q => ∃ (l : List Nat) (k : Int), x = .str (S l) ∧ y = .int k ∧ 0 ≤ k ∧ k ≤ 100000 ∧ l ≠ [] ∧ l.length ≤ 100 ∧ Q (.str (S (rep k.toNat l))) H
theorem op_repZ {X : Cx} : OpR X (binaryOp .Mult) rRepZ := by
  intro pins s σ H x y v u Q I rx ry h
  obtain ⟨l, k, rfl, rfl, h1, h2, h3, h4, q⟩ := h
  by_cases h0 : k = 0
  · subst h0
    obtain ⟨t, rfl⟩ := rx
    obtain ⟨t', rfl⟩ := ry
    exact PySem.P.mul_str_none (by decide) (by decide) ⟨.str Str.empty, H, I.tok _, ⟨_, rfl⟩, q⟩
  · exact op_repS pins s σ H _ _ v u Q I rx ry ⟨l, k, rfl, rfl, by omega, h2, h3, h4, q⟩
end Ew

set_option Elab.async false
set_option linter.all false
set_option maxRecDepth 100000
set_option maxHeartbeats 4000000
/-! a try whose one clause has a name and whose suite raises anew -/
namespace Ew
open PySem PySem.Spec PyProof.Rows L2
section
variable {X : Cx} {pins : List (Addr × Obj)} {σ : L2.St} {H : Hp} {s : Shared} {i : Nat} {n : Str} {Wo : WX}
/-- the frame's own names are other ones, slot i is empty: still a state of ours -/
theorem inv_less (J : Inv X pins σ H s) (hN : X.N.Nodup) (hi : X.N[i]? = some n) {m : Str → Option Value} {v : Option Value} {g : Heap} {t : Nat} (hs : Heap.SameBut X.env.locals s.heap g) (hn : g.Ns X.env.locals fun x => if x = n then v else m x)
    (lk : ∀ (j : Nat) (x : Str) (z : V), X.N[j]? = some x → σ[j]? = some (some z) → Vis X.env.scope x → ∃ u, RelV z u ∧ Look X.env s.heap m x u) : Inv X pins (σ.set i none) H { s with heap := g, toks := t } := by
  have far : ∀ c y, X.s_0.heap.get? c = some y → c ≠ X.env.locals := fun c y e z => by
    have h1 := Heap.lt_size e
    rw [z] at h1
    exact Nat.lt_irrefl _ (Nat.lt_of_lt_of_le h1 J.ok.above)
  have U : Un X.fs X.ex X.H_0 H X.s_0.heap g := by
    have b := J.base
    refine { keep := fun c y e1 e2 e3 e4 => ?_, slot := fun c y e1 e2 e3 e4 => ?_, free := b.free, there := fun c y e1 e2 => ?_, tups := b.tups, frzs := b.frzs, tbls := b.tbls }
    · rw [hs.2 c (far c y e1)]
      exact b.keep c y e1 e2 e3 e4
    · rw [hs.2 c (far c y e1)]
      exact b.slot c y e1 e2 e3 e4
    · rw [hs.2 c (far c y e1)]
      exact b.there c y e1 e2
  have C : ∀ x c, X.env.cells.lookup x = some c → ∃ z, g.IsCell c z := fun x c e => let ⟨z, q⟩ := J.cell x c e; ⟨z, q.sameBut hs (J.cne x c e)⟩
  have P : ∀ p ∈ X.pn ++ pins, g.get? p.1 = some p.2 ∧ H p.1 = none ∧ p.1 ≠ X.env.locals ∧ p.1 ∉ X.fs ∧ ∀ z, p.2.data ≠ .cell z := fun p hp => by
    obtain ⟨e1, e2, e3, e4⟩ := J.pin p hp
    exact ⟨by rw [hs.2 _ e3]; exact e1, e2, e3, e4⟩
  have O : HOk X.prog X.w H g := fun c o e => (J.hok c o e).stay (fun d w hd q => by
    have nd : d ≠ X.env.locals := fun z => by
      subst z
      rcases hd with hd | hd
      · rw [← hd, J.free] at e
        cases e
      · rw [J.free] at hd
        cases hd
    rw [hs.2 d nd]
    exact q) (fun _ q => q) fun _ _ q => q
  have Lk : ∀ (j : Nat) (x : Str) (z : V), X.N[j]? = some x → (σ.set i none)[j]? = some (some z) → Vis X.env.scope x → ∃ u, RelV z u ∧ Look X.env g (fun x => if x = n then v else m x) x u := fun j x z e1 e2 e3 => by
    have nj : j ≠ i := fun q => by
      rw [q] at e2
      by_cases hl : i < σ.length
      · rw [List.getElem?_set_self hl] at e2
        cases e2
      · rw [List.getElem?_eq_none (by rw [List.length_set]; omega)] at e2
        cases e2
    rw [List.getElem?_set_ne (Ne.symm nj)] at e2
    obtain ⟨u, r, q⟩ := lk j x z e1 e2 e3
    refine ⟨u, r, q.elim (fun ⟨k, e⟩ => .inl ⟨k, ?_⟩) fun ⟨k, c, e, y⟩ => .inr ⟨k, c, e, y.sameBut hs (J.cne x c e)⟩⟩
    have nx : x ≠ n := fun q => nj (nodup_ix hN e1 (q ▸ hi))
    show (if x = n then v else m x) = some u
    rw [if_neg nx]
    exact e
  exact ⟨J.ok, J.os, J.bare, U, ⟨_, hn, Lk⟩, C, J.free, J.freeC, P, O, by rw [List.length_set]; exact J.len⟩
theorem traced_less {Z : Obj → Prop} {B g h : Heap} {e L : Addr} {fl : Value} {m : Str → Option Value} (x : HandSPX.TracedZ h B e Z fl) (hn : h.Ns L m) (hs : Heap.SameBut L h g) : HandSPX.TracedZ g B e Z fl := by
  obtain ⟨oe, vs, T, oT, ts, a1, a2, a3, a4, a5, a6, a7, a8, a9⟩ := x
  obtain ⟨oL, es, ep, l1, l2, _⟩ := hn
  have reco : ∀ {c : Addr} {o : Obj} {us : Array Value}, h.get? c = some o → o.data = .fields us → c ≠ L := fun {c o us} y1 y2 z => by
    rw [z, l1] at y1
    cases y1
    rw [l2] at y2
    cases y2
  exact ⟨oe, vs, T, oT, ts, by rw [hs.2 e (reco a1 a3)]; exact a1, a2, a3, a4, a5, a6, by rw [hs.2 T (reco a7 a8)]; exact a7, a8, a9⟩
/-- what stands behind a suite that let an exception out -/
abbrev outX (X : Cx) (a : Addr) (n : Str) (pos : Pos) : Value → Shared → Prop :=
  AsSuiteRaised (model X.prog X.w) (X.A.mark (some (.ref a))) X.env n pos (notedBy (model X.prog X.w) (X.A.mark (some (.ref a))) X.env (cameBackBy (model X.prog X.w) X.A X.env X.xe))
/-- where such a suite runs -/
abbrev sX (X : Cx) (a : Addr) (n : Str) (pos : Pos) (pn : List (Addr × Obj)) : Cx := { X with A := X.A.mark (some (.ref a)), calm := false, pn := pn, xe := outX X a n pos }
theorem inSX {a : Addr} {pos : Pos} {pn pn' : List (Addr × Obj)} (I : Inv (X.suite a pn) pn' σ H s) : Inv (sX X a n pos pn) pn' σ H s := Inv.unwish (X := sX X a n pos pn) (E := fun _ _ => False) I
theorem outSX {a : Addr} {pos : Pos} {q : Addr × Obj} {pn' : List (Addr × Obj)} (I : Inv (sX X a n pos (q :: (X.pn ++ pins))) pn' σ H s) (ok : X.Ok) : Inv X pins σ H s :=
  Inv.unsuite (X := X) (a := a) (q := q) (pn' := pn') (show Inv (X.suite a (q :: (X.pn ++ pins))) pn' σ H s from I.wish fun _ _ => False) ok
/-- what raises nothing in a suite, in such a suite too -/
theorem pe_sx {a : Addr} {pos : Pos} {pn : List (Addr × Obj)} {e : Expr} {te : TE} (h : PE (X.suite a pn) e te) : PE (sX X a n pos pn) e te :=
  ⟨fun pn2 s1 τ G Q I z => wpAny_mono (h.run pn2 s1 τ G Q (Inv.wish (X := sX X a n pos pn) I fun _ _ => False) z) (fun _ _ ⟨v, G', J, r, q⟩ => ⟨v, G', inSX J, r, q⟩) fun _ _ z => z.elim⟩
theorem notes {M : Model} {A : Around} {E₁ : Value → Shared → Prop} {env : Env} {outer : List Env} {L a : Addr} {Z : Obj → Prop} {B : Heap} {Q : Unit → Shared → Prop} (hZ : HandSPX.Steady Z) (hfr : A.frames = some (env :: outer)) (hf : env.frame = some L)
    (x : L2.Sky B (env :: outer) a Z L s.heap) (hQ : ∀ g, HandSPX.HeldZ B (env :: outer) a Z L g → s.heap.UpToSlots g → Q () { s with heap := g }) : wpAny M A (noteFrame (.ref a) env) Q E₁ s := by
  rcases x with ⟨b1, b2, b3, oe, vs, e1, e2, e3, e4⟩ | fl | hh
  · exact HandSPX.look_newZ hZ hfr b3 hf e1 b1 b2 e3 e4 e2 hQ
  · exact HandSPX.looks_onZ hZ hfr hf fl hQ
  · exact HandSPX.againZ hf hh.2.2.2 (hQ s.heap hh (Heap.UpToSlots.refl _))
/-- what such a suite may let out -/
theorem takesX {a : Addr} {q : Addr × Obj} {pos : Pos} (ok : X.Ok) (hst : X.stack = X.env :: X.outer) (hfr : X.env.frame = some X.env.locals) (hN : X.N.Nodup) (hi : X.N[i]? = some n) (hl : X.env.kindOf n = some .local) (tk : L2.Takes X Wo) :
    L2.Takes (sX X a n pos (q :: (X.pn ++ pins))) fun cls d σ H => Wo cls d (σ.set i none) H := fun u s1 ⟨b, B, sI, pn2, σ1, H1, cls, d, eu, I, nb, up, sky, na, os, ag, w⟩ => by
  subst eu
  have J : Inv X pins σ1 H1 sI := outSX I ok
  have hA : (X.A.mark (some (.ref a))).frames = some (X.env :: X.outer) := ok.frames.trans (congrArg some hst)
  have sky2 : L2.Sky B (X.env :: X.outer) b (Zc cls d) X.env.locals s1.heap := by rw [← hst]; exact sky
  obtain ⟨hp, gn, dr, tks, o⟩ := s1
  show AsSuiteRaised _ _ _ _ _ _ _ _
  unfold AsSuiteRaised
  refine notes Zc.steady hA hfr sky2 fun g1 held1 up1 => ?_
  have up01 : sI.heap.UpToSlots g1 := up.trans up1
  obtain ⟨m, hn, lk⟩ := id J.loc
  have hn1 : g1.Ns X.env.locals m := by
    obtain ⟨ol, es, ep, l1, l2, l3, l4⟩ := id hn
    obtain ⟨sl, l5⟩ := up01 _ _ l1 fun vs z => by rw [l2] at z; cases z
    exact ⟨_, es, ep, l5, l2, l3, l4⟩
  have hcls : (X.env.scope.kind == .class || (X.env.scope.kind == .module && X.env.locals != X.env.globals)) = false := by rw [ok.kind]; rfl
  refine wpAny_nameGoes_keeps hl hn1 hcls fun g2 v hn2 hs2 => ?_
  obtain ⟨b1, b0, f1, t1⟩ := held1
  have bL : B.get? X.env.locals = none := by
    obtain ⟨_, ⟨L', _, e1, e2, _⟩, _⟩ := id f1
    rw [hfr] at e1
    cases e1
    exact e2
  have held2 : HandSPX.HeldZ B (X.env :: X.outer) b (Zc cls d) X.env.locals g2 := by
    refine ⟨fun c y e => ?_, b0, Heap.FunFrames.sameBut hs2 hn2 f1, traced_less t1 hn1 hs2⟩
    have nc : c ≠ X.env.locals := fun z => by rw [z, bL] at e; cases e
    rw [hs2.2 c nc]
    exact b1 c y e
  obtain ⟨oe, vs, T, oT, ts, e1, e2, e3, e4, r1⟩ := id held2.2.2.2
  unfold PySem.passOn
  refine wpAny_bind (wpAny_field e1 e3 e4 ?_)
  rw [if_neg (show ¬ ((Value.ref T == Value.none) = true) from by simp)]
  rw [hfr]
  have go : wpAny (model X.prog X.w) (X.A.mark (some (.ref a))) (setFlight (.ref b) (some X.env.locals)) (fun _ s4 => wpAny (model X.prog X.w) (X.A.mark (some (.ref a))) (throw (.ref b) : Sem Flow) (fun _ _ => False)
      (notedBy (model X.prog X.w) (X.A.mark (some (.ref a))) X.env (cameBackBy (model X.prog X.w) X.A X.env X.xe)) s4) (notedBy (model X.prog X.w) (X.A.mark (some (.ref a))) X.env (cameBackBy (model X.prog X.w) X.A X.env X.xe))
      { heap := g2, gens := gn, drawn := dr, toks := tks + 1, os := o } := by
    refine HandSPX.setFlight_onZ held2 fun g3 held3 up3 => wpAny_throw ?_
    show wpAny _ _ (noteFrame (.ref b) X.env) _ _ _
    refine HandSPX.againZ hfr held3.2.2.2 ?_
    obtain ⟨oe', vs', T', oT', ts', y1, y2, y3, y4, y5⟩ := id held3.2.2.2
    unfold cameBackBy
    refine wpAny_bind (wpAny_field y1 y3 y4 ?_)
    rw [if_neg (show ¬ ((Value.ref T' == Value.none) = true) from by simp)]
    rw [hfr]
    have last : wpAny (model X.prog X.w) X.A (setFlight (.ref b) (some X.env.locals)) (fun _ s'' => X.xe (.ref b) s'') X.xe { heap := g3, gens := gn, drawn := dr, toks := tks + 1, os := o } := by
      refine HandSPX.setFlight_onZ held3 fun g4 held4 up4 => tk _ _ ?_
      obtain ⟨o2, es2, ep2, z1, z2, z3, z4⟩ := id hn2
      obtain ⟨oL, es0, ep0, l1, l2, _⟩ := id hn
      have nfree : o2.isFreed = false := by
        cases o2 with
        | mk c dd dt sl =>
          cases dt with
          | dict _ _ => rfl
          | _ => cases z2
      have gS : (sI.heap.update X.env.locals fun _ => o2).get? X.env.locals = some o2 := Heap.get?_update_self _ l1 nfree
      have gO : ∀ c, c ≠ X.env.locals → (sI.heap.update X.env.locals fun _ => o2).get? c = sI.heap.get? c := fun c nc => Heap.get?_update_other _ _ (Ne.symm nc)
      have J2 : Inv X pins (σ1.set i none) H1 { sI with heap := sI.heap.update X.env.locals fun _ => o2, toks := sI.toks } := inv_less J hN hi (Heap.SameBut.update ..) ⟨o2, es2, ep2, gS, z2, z3, z4⟩ lk
      have inF : X.env.locals ∈ frs X.stack := by
        rw [hst]
        exact List.mem_filterMap.mpr ⟨_, List.mem_cons_self, hfr⟩
      refine ⟨b, B, _, pins, _, H1, cls, d, rfl, J2, fun c y e nf => ?_, fun c y e nd => ?_, .inr (.inr (by rw [hst]; exact held4)), na, os, ag, w⟩
      · have nc : c ≠ X.env.locals := fun z => nf (z ▸ inF)
        have e' : (sI.heap.update X.env.locals fun _ => o2).get? c = some y := e
        rw [gO c nc] at e'
        exact nb c y e' nf
      · have e' : (sI.heap.update X.env.locals fun _ => o2).get? c = some y := e
        have up24 := up3.trans up4
        by_cases nc : c = X.env.locals
        · rw [nc, gS] at e'
          cases e'
          rw [nc]
          exact up24 _ _ z1 nd
        · rw [gO c nc] at e'
          obtain ⟨sl1, k1⟩ := up01 c y e' nd
          have k2 : g2.get? c = some { y with slots := sl1 } := by rw [hs2.2 c nc]; exact k1
          obtain ⟨sl2, k3⟩ := up24 c _ k2 nd
          exact ⟨sl2, k3⟩
    first
      | exact wpAny_bind (wpAny_pure last)
      | exact last
  first
    | exact wpAny_bind (wpAny_pure (wpAny_bind go))
    | exact wpAny_bind go
/-- try: body / except x as n: a suite that may raise; what the body raises has no context -/
theorem ps_tryX {x : Str} {c : Value} {body suite : List Stmt} {b₀ : Stmt} {np pos pos' : Pos} {tb : WX → TS} {ts : Addr → Value → Option Addr → TS} (hst : X.stack = X.env :: X.outer) (hfr : X.env.frame = some X.env.locals) (hN : X.N.Nodup) (hi : X.N[i]? = some n)
    (hl : X.env.kindOf n = some .local) (hc : Names X x c) (tk : L2.Takes X Wo)
    (hb : ∀ (W : WX) (pn : List (Addr × Obj)) (xe : Value → Shared → Prop), L2N.Takes (X.tr pn xe) W → PassesOwn (model X.prog X.w) X.A X.env xe → PSs (X.tr pn xe) body (tb W))
    (hsu : ∀ (a : Addr) (oe : Obj) (cls : Value) (d : Option Addr) (pn : List (Addr × Obj)), L2N.Zn cls d oe → (∃ vs, oe.data = .fields vs) → L2.Takes (sX X a n pos' ((a, oe) :: pn)) (fun cls d σ H => Wo cls d (σ.set i none) H) → L2H.HotC (sX X a n pos' ((a, oe) :: pn)) →
      PSs (sX X a n pos' ((a, oe) :: pn)) (b₀ :: suite) (ts a cls d)) :
    PS X (.Try body [.ExceptHandler (some (.Name x np)) (some n) (b₀ :: suite) pos'] [] [] pos) fun D σ H => tb (wN X.K Wo D [(c, some i, ts)]) D σ H := ⟨fun pins s σ H D I h => by
  have ok := I.ok
  let xe : Value → Shared → Prop := fun e s₁ => wpAny (model X.prog X.w) X.A (noteFrame e X.env) (fun _ s₂ => wpAny (model X.prog X.w) X.A (setFlight e none) (fun _ s₃ =>
    wpAny (model X.prog X.w) X.A (handleBy e X.env [.ExceptHandler (some (.Name x np)) (some n) (b₀ :: suite) pos']) (SP X pins D) X.xe s₃) X.xe s₂) X.xe s₁
  have tk2 : L2N.Takes (X.tr (X.pn ++ pins) xe) (wN X.K Wo D [(c, some i, ts)]) := fun u s' ⟨a, B, sI, pins', σ', H', cls, d, e, J', nb, up, sky, na, os, ag, w⟩ => by
    subst e
    have sky2 : L2.Sky B (X.env :: X.outer) a (L2N.Zn cls d) X.env.locals s'.heap := by rw [← hst]; exact sky
    obtain ⟨hp, g, dr, t, o⟩ := s'
    refine L2N.Sky.land L2N.Zn.steady (ok.frames.trans (congrArg some hst)) hfr sky2 fun h3 fl u3 => ?_
    have fz := L2H.flyingZ_imp (fun _ z => L2N.Zn.zc z) fl
    have cg : Caught X pins σ' H' a cls d ⟨h3, g, dr, t, o⟩ := ⟨ok, hst, hfr, na, B, sI, J'.ofTry ok, nb, up.trans u3, os, ag, fz⟩
    obtain ⟨b, eb, yes, no⟩ := id w
    cases b with
    | false =>
      refine wpAny_handleBy_cons (codeAny_handlers_test (cg.asks hc ((cg.judged eb).here ?_))) (fun q => nomatch q)
      exact Caught.handled (pos := pos) hN tk .nil cg (no rfl)
    | true =>
      refine wpAny_handleBy_cons (codeAny_handlers_test (cg.asks hc ((cg.judged eb).here ?_))) (fun q => nomatch q)
      refine codeAny_handlers_suite_as (HandSPX.lands_againZ fl fun h4 fl4 u4 => ?_)
      have c4 : Caught X pins σ' H' a cls d ⟨h4, g, dr, t, o⟩ := ⟨ok, hst, hfr, na, B, sI, J'.ofTry ok, nb, (up.trans u3).trans u4, os, ag, L2H.flyingZ_imp (fun _ z => L2N.Zn.zc z) fl4⟩
      obtain ⟨oe, vs, he, hz, hd⟩ := fl4.there
      have nL : a ≠ X.env.locals := fun z => c4.off (List.mem_filterMap.mpr ⟨_, List.mem_cons_self, hfr.trans (congrArg some z.symm)⟩)
      have nF : a ∉ X.fs := fun hm => by
        obtain ⟨y, hy, z⟩ := List.mem_filterMap.mp hm
        exact c4.off (List.mem_filterMap.mpr ⟨y, List.mem_cons_of_mem _ hy, z⟩)
      have S : Inv (sX X a n pos' ((a, oe) :: (X.pn ++ pins))) [] σ' H' ⟨h4, g, dr, t, o⟩ := inSX (c4.inv.suite he hd na nL nF)
      have tkS := takesX (q := (a, oe)) (a := a) (pins := pins) (pos := pos') ok hst hfr hN hi hl tk
      refine store_ok (X := sX X a n pos' ((a, oe) :: (X.pn ++ pins))) (v := .ref a) S hN hi (.inl hl) rfl (fun s5 S5 => ?_) (.inr hl)
      refine wpAny_mono ((hsu a oe cls d (X.pn ++ pins) hz ⟨_, hd⟩ tkS ⟨(a, oe), ⟨rfl, vs, hd, hz.2.2 vs hd⟩, List.mem_cons_self⟩).run [] s5 _ H' _ S5 (yes rfl a na)) (fun f s6 q => ?_) fun e6 s6 z => z
      cases f <;> first
        | (obtain ⟨σ6, H6, S6, q6⟩ := q; exact gone_ok (outSX S6 ok) hN hi hl fun s7 J7 => ⟨_, _, J7, q6⟩)
        | (obtain ⟨v6, σ6, H6, S6, r6, q6⟩ := q; exact gone_ok (outSX S6 ok) hN hi hl fun s7 J7 => ⟨_, _, _, J7, r6, q6⟩)
  refine wpAny_Try_except (wpAny_mono ((hb _ _ xe tk2 PassesOwn.looking).run [] s σ H D (I.toTry _) h) (fun f s1 q => ?_) fun _ _ z => z)
  cases f <;> first
    | (obtain ⟨σ', H', J, q⟩ := q; exact wpAny_execs_nil ⟨σ', H', J.ofTry ok, q⟩)
    | (obtain ⟨σ', H', J, q⟩ := q; exact ⟨σ', H', J.ofTry ok, q⟩)
    | (obtain ⟨v, σ', H', J, r, q⟩ := q; exact ⟨v, σ', H', J.ofTry ok, r, q⟩)⟩
end
end Ew

set_option Elab.async false
set_option linter.all false
set_option maxRecDepth 100000
set_option maxHeartbeats 4000000
/-! defs whose errors have no context (they may be caught by a suite that raises anew) -/
namespace Ew
open PySem PySem.Spec PyProof.Rows L2
section
variable {P : Program} {w : World} {K : PySem.W.Frag} {mg : Str → Option Value} {base : Heap}
structure ClN (P : Program) (w : World) (K : PySem.W.Frag) (mg : Str → Option Value) (base : Heap) (k : Nat) (x : Str) (ps : List Str) (sp : Sp) (dvs : List V) : Prop where
  ex : ∃ f fd ds, FnOk P w K mg base (L2N.CX P w) k f fd ps sp ∧ mg x = some (.ref f) ∧ PySem.W.keepIn K (.ref f) = true ∧ Binds K fd ps ds ∧ Vals dvs ds
abbrev cxN (P : Program) (w : World) (K : PySem.W.Frag) (mg : Str → Option Value) (base : Heap) (N : List Str) (qual : Str) (st : Stmt) (f : Addr) (cdv : Value) (A : Around) (outer : List Env) (s : Shared) (H : Hp) (E : XK) : Cx :=
  cxOf (L2N.CX P w) P w K mg base N qual (defScope st) f cdv A outer s H E
def BodyN (P : Program) (w : World) (K : PySem.W.Frag) (mg : Str → Option Value) (base : Heap) (N : List Str) (qual : Str) (st : Stmt) (k : Nat) (sp : Sp) : Prop :=
  ∀ (f : Addr) (cdv : Value) (A : Around) (outer : List Env) (s : Shared) (H : Hp) (vs : List V) (Q : VK) (E : XK), Room k (cxN P w K mg base N qual st f cdv A outer s H E).A → sp vs H Q E →
    ∃ t, PSs (cxN P w K mg base N qual st f cdv A outer s H E) (defBody st) t ∧ t { nx := fun _ H' => Q .non H', rt := Q } (start N vs) H
theorem okN {x qual : Str} {st : Stmt} {f : Addr} {fd : FuncData} {N ps : List Str} {k : Nat} {sp : Sp} (F : Fun K x qual st f fd) (S : FnScope N ps (defScope st)) (len : ∀ vs H Q E, sp vs H Q E → vs.length = ps.length)
    (h : BodyN P w K mg base N qual st k sp) : FnOk P w K mg base (L2N.CX P w) (k + 1) f fd ps sp := by
  obtain ⟨_, _, _, _, _, _, cdv, _, _, rfl, lk, cd⟩ := F.ex
  exact fn_of lk cd S len fun A outer s H vs Q E r q => h f cdv A outer s H vs Q E r q
/-- a def's body that runs while an exception is handled -/
abbrev cxT (P : Program) (w : World) (K : PySem.W.Frag) (mg : Str → Option Value) (base : Heap) (N : List Str) (qual : Str) (st : Stmt) (f : Addr) (cdv : Value) (A : Around) (outer : List Env) (s : Shared) (H : Hp) (E : XK) (p : Addr × Obj) : Cx :=
  L2H.cxH (L2.CX P w) P w K mg base N qual (defScope st) f cdv A outer s H E p
theorem okH {x qual : Str} {st : Stmt} {f : Addr} {fd : FuncData} {N ps : List Str} {k : Nat} {sp : Sp} (F : Fun K x qual st f fd) (S : FnScope N ps (defScope st)) (len : ∀ vs H Q E, sp vs H Q E → vs.length = ps.length)
    (h : ∀ (cdv : Value) (A : Around) (outer : List Env) (s : Shared) (H : Hp) (vs : List V) (Q : VK) (E : XK) (p : Addr × Obj), L2H.RoomH k (cxT P w K mg base N qual st f cdv A outer s H E p).A → sp vs H Q E →
      ∃ t, PSs (cxT P w K mg base N qual st f cdv A outer s H E p) (defBody st) t ∧ t { nx := fun _ H' => Q .non H', rt := Q } (L2.start N vs) H) : L2H.FnH P w K mg base (L2.CX P w) (k + 1) f fd ps sp := by
  obtain ⟨_, _, _, _, _, _, cdv, _, _, rfl, lk, cd⟩ := F.ex
  exact L2H.fn_ofH lk cd S len fun A outer s H vs Q E p _ r q => h cdv A outer s H vs Q E p r q
theorem DefAt.clN {x : Str} {st : Stmt} {ps N : List Str} {k : Nat} {sp : Sp} (D : DefAt K mg x st ps) (S : FnScope N ps (defScope st)) (len : ∀ vs H Q E, sp vs H Q E → vs.length = ps.length) (h : BodyN P w K mg base N x st k sp) : ClN P w K mg base (k + 1) x ps sp [] := by
  obtain ⟨f, fd, F, g, b⟩ := D.ex
  exact ⟨f, fd, [], okN F S len h, g, F.kp, b, .nil⟩
end
section
variable {X : Cx} {k j : Nat} {x m : Str} {ps : List Str} {sp : Sp} {dvs : List V} {e o : Expr} {es : List Expr} {t : TA} {ta : TE} {p pos apos : Pos} {W : WX} {C : Addr}
theorem run_dvN {f : Addr} {fd : FuncData} {ds : List Value} {pins : List (Addr × Obj)} {σ : L2.St} {H : Hp} {s : Shared} {Q : VK} {us : List Value} {vs : List V} (F : FnOk X.prog X.w X.K X.mg X.base (L2N.CX X.prog X.w) k f fd ps sp) (hr : Room k X.A) (hb : Binds X.K fd ps ds)
    (hd : Vals dvs ds) (tk : L2N.Takes X W) (I : Inv X pins σ H s) (r : Vals vs us) (h : sp (vs ++ dvs) H Q (WE W σ)) : wpAny (model X.prog X.w) X.A (call (.ref f) us) (EP X pins σ Q) X.xe s := by
  have r2 := r.append hd
  have hl : (us ++ ds).length = ps.length := by rw [← r2.length]; exact F.len _ _ _ _ h
  refine wpAny_call (codeAny_mono (F.run X.A X.stack s H ⟨us, []⟩ (us ++ ds) (vs ++ dvs) Q (WE W σ) hr I.env0 (hb s us I.kIn hl) r2 h) fun y s' hq => ?_)
  match y, hq with
  | .error e, hq => exact L2N.passAt tk σ pins H s e s' I hq
  | .ok (.ret u), hq => exact I.after hq
theorem pe_fN (c : ClN X.prog X.w X.K X.mg X.base k x ps sp dvs) (tk : L2N.Takes X W) (hr : Room j X.A) (hk : k ≤ j) (hg : Gl X x) (ha : PA X (e :: es) t) (hdb : (x == ("__debug__" : Str)) = false := by decide)
    (he : starEach (e :: es) X.env = (false, eval e X.env) :: starEach es X.env := by rfl) (hpl : (backTo pos (starEach es X.env)).any (·.1) = false := by rfl) : PE X (.Call (.Name x p) (e :: es) [] pos) (tF sp dvs W t) := by
  obtain ⟨f, fd, ds, F, hm, hkp, hb, hd⟩ := c.ex
  exact ⟨fun pins s σ H Q I h => wpAny_Call_Name_kw (ld_glob I hg hm (PySem.W.callWith_K (h₀ := X.base) I.ok.mod.kin hkp (thn (ha.run pos pins s σ H _ I h) fun us s1 ⟨vs, H1, I1, r, q⟩ => ⟨I1.kIn, run_dvN F (hr.mono hk) hb hd tk I1 r q⟩) he hpl) hdb)⟩
/-- an own error made: its context is None -/
theorem pmk_errN (c : Mke X.prog X.w X.K X.mg X.base k x C ps sp) (hr : Room j X.A) (hk : k + 1 ≤ j) (hg : Gl X x) (ha : PA X (e :: es) t) (hdb : (x == ("__debug__" : Str)) = false := by decide)
    (he : starEach (e :: es) X.env = (false, eval e X.env) :: starEach es X.env := by rfl) (hpl : (backTo pos (starEach es X.env)).any (·.1) = false := by rfl) : L2N.PMk X (.Call (.Name x p) (e :: es) [] pos) (tMkO C sp [] t) := by
  obtain ⟨fI, fd, iC, tI, F1, hb⟩ := c.ex
  have ox := c.ox
  obtain ⟨nm, q, N, bs, bm, sn, sub, ab, col, dd, _, _, _, _, _, hC, hbm⟩ := ox.cls
  intro pins s σ H Q I h
  refine wpAny_Call_Name_kw (ld_glob I hg c.gC ?_ hdb)
  refine PySem.W.callWith_K (h₀ := X.base) I.ok.mod.kin ox.kC (thn (ha.run pos pins s σ H _ I h) fun us s1 ⟨vs, H1, I1, r1, _, q1⟩ => ⟨I1.kIn, ?_⟩) he hpl
  show wpAny _ _ (call (.ref C) us) _ _ _
  obtain ⟨hp, g, dr, tk, os⟩ := s1
  generalize ea : hp.objs.size + 1 = z
  have le : hp.objs.size ≤ z := by omega
  have hq := q1 z (I1.hok.fresh le)
  have grow : ∀ b o, hp.get? b = some o → ((hp.push (PySem.W.kdv_tup us)).push (PySem.HandSPX.excO C hp.objs.size)).get? b = some o := fun b o y => Heap.get?_push_of_some _ (Heap.get?_push_of_some _ y)
  have mine : ((hp.push (PySem.W.kdv_tup us)).push (PySem.HandSPX.excO C hp.objs.size)).get? z = some (PySem.HandSPX.excO C hp.objs.size) := by subst ea; heap_get
  have J : Inv X pins σ (upd H1 z (exo z C none)) ⟨(hp.push (PySem.W.kdv_tup us)).push (PySem.HandSPX.excO C hp.objs.size), g, dr, tk, os⟩ :=
    I1.laid (t' := tk) (a := z) (o := exo z C none) (h' := (hp.push (PySem.W.kdv_tup us)).push (PySem.HandSPX.excO C hp.objs.size)) grow le (exo_ok mine)
  have rr : Vals (V.ref z :: (vs ++ [])) (Value.ref z :: (us ++ [])) := .cons rfl (r1.append .nil)
  have ln : (Value.ref z :: us ++ []).length = ps.length := by
    have y := rr.length
    rw [F1.len _ _ _ _ hq] at y
    exact y.symm
  have few : us.length ≤ sizeLine := by
    rw [← Paired.length r1, sizeLine_eq]
    omega
  subst ea
  have bb := hb _ (Value.ref (hp.objs.size + 1) :: us) J.kIn ln
  rw [List.cons_append] at bb
  refine wpAny_call (PySem.HandSPX.call_own F.excBase_ValueError (fun Y => PySem.HandSPX.refsVE_contains Y bm hbm) (I1.kIn _ _ hC) (PySem.W.looks_findIn I1.kIn iC) (fun self => PySem.W.bind_fn I1.kIn self tI) few
    (codeAny_mono (F1.run _ X.stack _ _ ⟨Value.ref (hp.objs.size + 1) :: us, []⟩ (Value.ref (hp.objs.size + 1) :: (us ++ [])) _ _ (fun _ _ _ => False) ((hr.mono hk).make C us []) (J.env0.make C us []) bb rr hq) fun y s' hy => ?_))
  match y, hy with
  | .error er, hy => exact (passL pins σ _ _ er s' J hy)
  | .ok (.ret u), hy =>
    obtain ⟨v, H2, os2, bare2, un2, hok2, rv, ev, d, fs, ea2, ed, hd1, q2⟩ := hy
    subst ev
    obtain ⟨h2, g2, d2, t2, os'⟩ := s'
    obtain ⟨t0, G, J2, kG, ge, hoe, na⟩ := mk_end0 (d2 := d2) (t2 := t2) I1 le grow un2 hok2 os2 bare2 ea2 ed hd1
    exact ⟨rv, hp.objs.size + 1, _, _, ⟨G, g2, d2, t2, os'⟩, _, .ref C, some d, rfl, J2, kG, ge, hoe, ⟨rfl, rfl, fun us' e' => by cases e'; rfl⟩, rfl, rfl, na, rfl, bare2, raises_own ox.exC ox.tyC, q2⟩
  | .ok .next, hy => exact False.elim hy
  | .ok .brk, hy => exact False.elim hy
  | .ok .cont, hy => exact False.elim hy
theorem ps_raise1N {f : Str} {te : TE} {pos2 : Pos} (hc : X.calm = true) (tk : L2N.Takes X W) (c : Mke X.prog X.w X.K X.mg X.base k x C ps (spI1 C f)) (hr : Room j X.A) (hk : k + 1 ≤ j) (hg : Gl X x) (he : PE X e te) (hdb : (x == ("__debug__" : Str)) = false := by decide)
    (hs : starEach [e] X.env = [(false, eval e X.env)] := by rfl) (hpl : (backTo pos (starEach ([] : List Expr) X.env)).any (·.1) = false := by rfl) : PS X (.Raise (some (.Call (.Name x p) [e] [] pos)) none pos2) (tR1 C f W te) := by
  refine ps_weak (L2N.ps_raise hc tk (pmk_errN c hr hk hg (pa_cons (pe_up he) pa_nil hs) hdb hs hpl)) fun D σ H h => ⟨_, fun v H1 z => ?_, h⟩
  refine ⟨Nat.le_of_ble_eq_true rfl, fun a ha => ⟨a, v, rfl, upd_same, fun dx n ne => ?_⟩⟩
  rw [upd_ne ne] at n
  refine ⟨rfl, dx, [(f, v)], upd_same, ?_, n, ?_⟩
  · rw [upd_ne ne, upd_same]
  · rw [back1 ha ne]
    exact z dx n
/-! ### an own error made while another one is handled, and raised from None -/
structure MkeH (P : Program) (w : World) (K : PySem.W.Frag) (mg : Str → Option Value) (base : Heap) (k : Nat) (x : Str) (C : Addr) (ps : List Str) (sp : Sp) : Prop where
  gC : mg x = some (.ref C)
  ox : OexC K C
  ex : ∃ f fd, PySem.W.findIn K (.ref C) "__init__" = some (some (.ref f)) ∧ PySem.W.typeIn K (.ref f) = some (.type "function") ∧ L2H.FnH P w K mg base (L2.CX P w) k f fd ps sp ∧ Binds K fd ps []
theorem ps_raise1H {f : Str} {te : TE} {pos2 cpos : Pos} {jj : Nat} (hc : L2H.HotC X) (tk : L2.Takes X W) (c : MkeH X.prog X.w X.K X.mg X.base k x C ps (spI1 C f)) (hr : L2H.RoomH (k + 1) X.A) (hg : Gl X x) (he : PE X e te) (hdb : (x == ("__debug__" : Str)) = false := by decide)
    (hs : starEach [e] X.env = [(false, eval e X.env)] := by rfl) (hpl : (backTo pos (starEach ([] : List Expr) X.env)).any (·.1) = false := by rfl) : PS X (.Raise (some (.Call (.Name x p) [e] [] pos)) (some (.Constant .none jj cpos)) pos2) (tR1 C f W te) := by
  obtain ⟨fI, fd, iC, tI, F1, hb⟩ := c.ex
  refine ps_weak (L2H.ps_raiseHN hc tk (L2H.pmk5_oexH c.ox iC tI F1 hr hc hb passL hg c.gC (pa_cons (pe_up he) pa_nil hs) hdb hs hpl)) fun D σ H h => ⟨_, fun v H1 z => ?_, h⟩
  refine ⟨Nat.le_of_ble_eq_true rfl, fun a ha => ⟨a, v, rfl, upd_same, fun dx n ne => ?_⟩⟩
  rw [upd_ne ne] at n
  refine ⟨rfl, dx, [(f, v)], upd_same, ?_, n, ?_⟩
  · rw [upd_ne ne, upd_same]
  · rw [back1 ha ne]
    exact z dx n
end
end Ew

set_option Elab.async false
set_option linter.all false
set_option maxRecDepth 100000
set_option maxHeartbeats 4000000
namespace K52
open PySem PySem.Spec PyProof.Rows L2 Ew
def top (i : Nat) : Stmt := PySem.Challenge.pw_ellwarden_k52_card_text.main.body.getD i (.Pass ⟨0, 0, 0, 0⟩)
abbrev s__wall : Stmt := (top 0)
abbrev N__wall : List Str := ["k"]
abbrev P__wall : List Str := ["k"]
theorem sc__wall : FnScope N__wall P__wall (defScope s__wall) := ⟨rfl, rfl, rfl, by decide +kernel, rfl, by decide +kernel, by decide +kernel⟩
abbrev s_is_integer : Stmt := (top 2)
abbrev N_is_integer : List Str := ["thing"]
abbrev P_is_integer : List Str := ["thing"]
theorem sc_is_integer : FnScope N_is_integer P_is_integer (defScope s_is_integer) := ⟨rfl, rfl, rfl, by decide +kernel, rfl, by decide +kernel, by decide +kernel⟩
abbrev s_is_row : Stmt := (top 3)
abbrev N_is_row : List Str := ["thing"]
abbrev P_is_row : List Str := ["thing"]
theorem sc_is_row : FnScope N_is_row P_is_row (defScope s_is_row) := ⟨rfl, rfl, rfl, by decide +kernel, rfl, by decide +kernel, by decide +kernel⟩
abbrev s_is_tuple_of : Stmt := (top 4)
abbrev N_is_tuple_of : List Str := ["thing", "many"]
abbrev P_is_tuple_of : List Str := ["thing", "many"]
theorem sc_is_tuple_of : FnScope N_is_tuple_of P_is_tuple_of (defScope s_is_tuple_of) := ⟨rfl, rfl, rfl, by decide +kernel, rfl, by decide +kernel, by decide +kernel⟩
abbrev s_BadLineD_initD : Stmt := inClass (top 7) 0
abbrev N_BadLineD_initD : List Str := ["self", "line", "word"]
abbrev P_BadLineD_initD : List Str := ["self", "line", "word"]
theorem sc_BadLineD_initD : FnScope N_BadLineD_initD P_BadLineD_initD (defScope s_BadLineD_initD) := ⟨rfl, rfl, rfl, by decide +kernel, rfl, by decide +kernel, by decide +kernel⟩
abbrev s_BadSpotD_initD : Stmt := inClass (top 8) 0
abbrev N_BadSpotD_initD : List Str := ["self", "place"]
abbrev P_BadSpotD_initD : List Str := ["self", "place"]
theorem sc_BadSpotD_initD : FnScope N_BadSpotD_initD P_BadSpotD_initD (defScope s_BadSpotD_initD) := ⟨rfl, rfl, rfl, by decide +kernel, rfl, by decide +kernel, by decide +kernel⟩
abbrev s_NoSpotD_initD : Stmt := inClass (top 9) 0
abbrev N_NoSpotD_initD : List Str := ["self", "spot"]
abbrev P_NoSpotD_initD : List Str := ["self", "spot"]
theorem sc_NoSpotD_initD : FnScope N_NoSpotD_initD P_NoSpotD_initD (defScope s_NoSpotD_initD) := ⟨rfl, rfl, rfl, by decide +kernel, rfl, by decide +kernel, by decide +kernel⟩
abbrev s_ClashD_initD : Stmt := inClass (top 10) 0
abbrev N_ClashD_initD : List Str := ["self", "ring"]
abbrev P_ClashD_initD : List Str := ["self", "ring"]
theorem sc_ClashD_initD : FnScope N_ClashD_initD P_ClashD_initD (defScope s_ClashD_initD) := ⟨rfl, rfl, rfl, by decide +kernel, rfl, by decide +kernel, by decide +kernel⟩
abbrev s_BadCardD_initD : Stmt := inClass (top 11) 0
abbrev N_BadCardD_initD : List Str := ["self", "place"]
abbrev P_BadCardD_initD : List Str := ["self", "place"]
theorem sc_BadCardD_initD : FnScope N_BadCardD_initD P_BadCardD_initD (defScope s_BadCardD_initD) := ⟨rfl, rfl, rfl, by decide +kernel, rfl, by decide +kernel, by decide +kernel⟩
abbrev s_ways_from : Stmt := (top 13)
abbrev N_ways_from : List Str := ["many", "arrows", "ways", "number", "arrow", "_"]
abbrev P_ways_from : List Str := ["many", "arrows"]
theorem sc_ways_from : FnScope N_ways_from P_ways_from (defScope s_ways_from) := ⟨rfl, rfl, rfl, by decide +kernel, rfl, by decide +kernel, by decide +kernel⟩
abbrev s_heights_and_ring : Stmt := (top 14)
abbrev N_heights_and_ring : List Str := ["arrows", "ways", "known", "last", "heights", "active", "lowered", "place", "number", "goal", "height", "ring"]
abbrev P_heights_and_ring : List Str := ["arrows", "ways", "known"]
theorem sc_heights_and_ring : FnScope N_heights_and_ring P_heights_and_ring (defScope s_heights_and_ring) := ⟨rfl, rfl, rfl, by decide +kernel, rfl, by decide +kernel, by decide +kernel⟩
abbrev s__ring_of : Stmt := (top 15)
abbrev N__ring_of : List Str := ["arrows", "last", "walks", "walk", "at"]
abbrev P__ring_of : List Str := ["arrows", "last"]
theorem sc__ring_of : FnScope N__ring_of P__ring_of (defScope s__ring_of) := ⟨rfl, rfl, rfl, by decide +kernel, rfl, by decide +kernel, by decide +kernel⟩
abbrev s__followed_back : Stmt := (top 16)
abbrev N__followed_back : List Str := ["arrows", "last", "start", "goal", "row", "at"]
abbrev P__followed_back : List Str := ["arrows", "last", "start", "goal"]
theorem sc__followed_back : FnScope N__followed_back P__followed_back (defScope s__followed_back) := ⟨rfl, rfl, rfl, by decide +kernel, rfl, by decide +kernel, by decide +kernel⟩
abbrev s_is_whole : Stmt := (top 19)
abbrev N_is_whole : List Str := ["text", "longest"]
abbrev P_is_whole : List Str := ["text", "longest"]
theorem sc_is_whole : FnScope N_is_whole P_is_whole (defScope s_is_whole) := ⟨rfl, rfl, rfl, by decide +kernel, rfl, by decide +kernel, by decide +kernel⟩
abbrev s__is_digits : Stmt := (top 20)
abbrev N__is_digits : List Str := ["text", "longest", "sign"]
abbrev P__is_digits : List Str := ["text", "longest"]
theorem sc__is_digits : FnScope N__is_digits P__is_digits (defScope s__is_digits) := ⟨rfl, rfl, rfl, by decide +kernel, rfl, by decide +kernel, by decide +kernel⟩
abbrev s_is_spot : Stmt := (top 23)
abbrev N_is_spot : List Str := ["thing", "name", "stretch", "day"]
abbrev P_is_spot : List Str := ["thing"]
theorem sc_is_spot : FnScope N_is_spot P_is_spot (defScope s_is_spot) := ⟨rfl, rfl, rfl, by decide +kernel, rfl, by decide +kernel, by decide +kernel⟩
abbrev s_arrows_of : Stmt := (top 25)
abbrev N_arrows_of : List Str := ["links", "places", "a", "b", "bound", "_"]
abbrev P_arrows_of : List Str := ["links", "places"]
theorem sc_arrows_of : FnScope N_arrows_of P_arrows_of (defScope s_arrows_of) := ⟨rfl, rfl, rfl, by decide +kernel, rfl, by decide +kernel, by decide +kernel⟩
abbrev s_places_of : Stmt := (top 26)
abbrev N_places_of : List Str := ["spots", "places", "place", "spot"]
abbrev P_places_of : List Str := ["spots"]
theorem sc_places_of : FnScope N_places_of P_places_of (defScope s_places_of) := ⟨rfl, rfl, rfl, by decide +kernel, rfl, by decide +kernel, by decide +kernel⟩
abbrev s_is_name : Stmt := (top 31)
abbrev N_is_name : List Str := ["thing", "letter"]
abbrev P_is_name : List Str := ["thing"]
theorem sc_is_name : FnScope N_is_name P_is_name (defScope s_is_name) := ⟨rfl, rfl, rfl, by decide +kernel, rfl, by decide +kernel, by decide +kernel⟩
abbrev s_is_closed : Stmt := (top 33)
abbrev N_is_closed : List Str := ["table", "row", "bound", "further", "far", "near"]
abbrev P_is_closed : List Str := ["table"]
theorem sc_is_closed : FnScope N_is_closed P_is_closed (defScope s_is_closed) := ⟨rfl, rfl, rfl, by decide +kernel, rfl, by decide +kernel, by decide +kernel⟩
abbrev s_joined_tables : Stmt := (top 34)
abbrev N_joined_tables : List Str := ["first", "second", "places", "table", "middle", "further", "row", "place"]
abbrev P_joined_tables : List Str := ["first", "second", "places"]
theorem sc_joined_tables : FnScope N_joined_tables P_joined_tables (defScope s_joined_tables) := ⟨rfl, rfl, rfl, by decide +kernel, rfl, by decide +kernel, by decide +kernel⟩
abbrev s__by_way : Stmt := (top 35)
abbrev N__by_way : List Str := ["row", "step", "further", "bound", "far"]
abbrev P__by_way : List Str := ["row", "step", "further"]
theorem sc__by_way : FnScope N__by_way P__by_way (defScope s__by_way) := ⟨rfl, rfl, rfl, by decide +kernel, rfl, by decide +kernel, by decide +kernel⟩
abbrev s__side_by_side : Stmt := (top 36)
abbrev N__side_by_side : List Str := ["first", "second", "places", "many", "new", "away", "back", "table", "start", "row", "at", "place", "step", "far"]
abbrev P__side_by_side : List Str := ["first", "second", "places"]
theorem sc__side_by_side : FnScope N__side_by_side P__side_by_side (defScope s__side_by_side) := ⟨rfl, rfl, rfl, by decide +kernel, rfl, by decide +kernel, by decide +kernel⟩
abbrev s__with_least : Stmt := (top 37)
abbrev N__with_least : List Str := ["row", "bounds", "places", "found", "place", "bound"]
abbrev P__with_least : List Str := ["row", "bounds", "places"]
theorem sc__with_least : FnScope N__with_least P__with_least (defScope s__with_least) := ⟨rfl, rfl, rfl, by decide +kernel, rfl, by decide +kernel, by decide +kernel⟩
abbrev s__joints : Stmt := (top 38)
abbrev N__joints : List Str := ["first", "second", "places", "both", "ends", "start", "row", "goal", "bound", "place"]
abbrev P__joints : List Str := ["first", "second", "places"]
theorem sc__joints : FnScope N__joints P__joints (defScope s__joints) := ⟨rfl, rfl, rfl, by decide +kernel, rfl, by decide +kernel, by decide +kernel⟩
abbrev s_CardD_initD : Stmt := inClass (top 41) 0
abbrev N_CardD_initD : List Str := ["self", "spots", "rows", "bad", "row"]
abbrev P_CardD_initD : List Str := ["self", "spots", "rows"]
theorem sc_CardD_initD : FnScope N_CardD_initD P_CardD_initD (defScope s_CardD_initD) := ⟨rfl, rfl, rfl, by decide +kernel, rfl, by decide +kernel, by decide +kernel⟩
abbrev s_CardD_getitemD : Stmt := inClass (top 41) 1
abbrev N_CardD_getitemD : List Str := ["self", "at", "a", "b"]
abbrev P_CardD_getitemD : List Str := ["self", "at"]
theorem sc_CardD_getitemD : FnScope N_CardD_getitemD P_CardD_getitemD (defScope s_CardD_getitemD) := ⟨rfl, rfl, rfl, by decide +kernel, rfl, by decide +kernel, by decide +kernel⟩
abbrev s_CardD_lenD : Stmt := inClass (top 41) 2
abbrev N_CardD_lenD : List Str := ["self"]
abbrev P_CardD_lenD : List Str := ["self"]
theorem sc_CardD_lenD : FnScope N_CardD_lenD P_CardD_lenD (defScope s_CardD_lenD) := ⟨rfl, rfl, rfl, by decide +kernel, rfl, by decide +kernel, by decide +kernel⟩
abbrev s_CardD_iterD : Stmt := inClass (top 41) 3
abbrev N_CardD_iterD : List Str := ["self"]
abbrev P_CardD_iterD : List Str := ["self"]
theorem sc_CardD_iterD : FnScope N_CardD_iterD P_CardD_iterD (defScope s_CardD_iterD) := ⟨rfl, rfl, rfl, by decide +kernel, rfl, by decide +kernel, by decide +kernel⟩
abbrev s_CardD_containsD : Stmt := inClass (top 41) 4
abbrev N_CardD_containsD : List Str := ["self", "x"]
abbrev P_CardD_containsD : List Str := ["self", "x"]
theorem sc_CardD_containsD : FnScope N_CardD_containsD P_CardD_containsD (defScope s_CardD_containsD) := ⟨rfl, rfl, rfl, by decide +kernel, rfl, by decide +kernel, by decide +kernel⟩
abbrev s_CardD_eqD : Stmt := inClass (top 41) 5
abbrev N_CardD_eqD : List Str := ["self", "other"]
abbrev P_CardD_eqD : List Str := ["self", "other"]
theorem sc_CardD_eqD : FnScope N_CardD_eqD P_CardD_eqD (defScope s_CardD_eqD) := ⟨rfl, rfl, rfl, by decide +kernel, rfl, by decide +kernel, by decide +kernel⟩
abbrev s_CardD_andD : Stmt := inClass (top 41) 6
abbrev N_CardD_andD : List Str := ["self", "other", "spots", "places", "rows", "spot"]
abbrev P_CardD_andD : List Str := ["self", "other"]
theorem sc_CardD_andD : FnScope N_CardD_andD P_CardD_andD (defScope s_CardD_andD) := ⟨rfl, rfl, rfl, by decide +kernel, rfl, by decide +kernel, by decide +kernel⟩
abbrev s_Card_cut : Stmt := inClass (top 41) 7
abbrev N_Card_cut : List Str := ["self", "spots"]
abbrev P_Card_cut : List Str := ["self", "spots"]
theorem sc_Card_cut : FnScope N_Card_cut P_Card_cut (defScope s_Card_cut) := ⟨rfl, rfl, rfl, by decide +kernel, rfl, by decide +kernel, by decide +kernel⟩
abbrev s_Card_entered : Stmt := inClass (top 41) 8
abbrev N_Card_entered : List Str := ["self", "a", "b", "bound"]
abbrev P_Card_entered : List Str := ["self", "a", "b", "bound"]
theorem sc_Card_entered : FnScope N_Card_entered P_Card_entered (defScope s_Card_entered) := ⟨rfl, rfl, rfl, by decide +kernel, rfl, by decide +kernel, by decide +kernel⟩
abbrev s_Card_as_web : Stmt := inClass (top 41) 9
abbrev N_Card_as_web : List Str := ["self"]
abbrev P_Card_as_web : List Str := ["self"]
theorem sc_Card_as_web : FnScope N_Card_as_web P_Card_as_web (defScope s_Card_as_web) := ⟨rfl, rfl, rfl, by decide +kernel, rfl, by decide +kernel, by decide +kernel⟩
abbrev s_Card__place : Stmt := inClass (top 41) 10
abbrev N_Card__place : List Str := ["self", "spot"]
abbrev P_Card__place : List Str := ["self", "spot"]
theorem sc_Card__place : FnScope N_Card__place P_Card__place (defScope s_Card__place) := ⟨rfl, rfl, rfl, by decide +kernel, rfl, by decide +kernel, by decide +kernel⟩
abbrev s_card_links : Stmt := (top 42)
abbrev N_card_links : List Str := ["card", "why", "links", "a", "row", "b", "bound"]
abbrev P_card_links : List Str := ["card", "why"]
theorem sc_card_links : FnScope N_card_links P_card_links (defScope s_card_links) := ⟨rfl, rfl, rfl, by decide +kernel, rfl, by decide +kernel, by decide +kernel⟩
abbrev s__trusted : Stmt := (top 43)
abbrev N__trusted : List Str := ["spots", "rows", "made", "row"]
abbrev P__trusted : List Str := ["spots", "rows"]
theorem sc__trusted : FnScope N__trusted P__trusted (defScope s__trusted) := ⟨rfl, rfl, rfl, by decide +kernel, rfl, by decide +kernel, by decide +kernel⟩
abbrev s__judge_rows : Stmt := (top 44)
abbrev N__judge_rows : List Str := ["rows", "many", "told", "place", "row", "bound"]
abbrev P__judge_rows : List Str := ["rows", "many"]
theorem sc__judge_rows : FnScope N__judge_rows P__judge_rows (defScope s__judge_rows) := ⟨rfl, rfl, rfl, by decide +kernel, rfl, by decide +kernel, by decide +kernel⟩
abbrev s__clash_ring : Stmt := (top 45)
abbrev N__clash_ring : List Str := ["links", "places", "arrows", "_", "numbers", "number"]
abbrev P__clash_ring : List Str := ["links", "places"]
theorem sc__clash_ring : FnScope N__clash_ring P__clash_ring (defScope s__clash_ring) := ⟨rfl, rfl, rfl, by decide +kernel, rfl, by decide +kernel, by decide +kernel⟩
abbrev s_ReaderD_initD : Stmt := inClass (top 49) 0
abbrev N_ReaderD_initD : List Str := ["self", "lines", "line"]
abbrev P_ReaderD_initD : List Str := ["self", "lines"]
theorem sc_ReaderD_initD : FnScope N_ReaderD_initD P_ReaderD_initD (defScope s_ReaderD_initD) := ⟨rfl, rfl, rfl, by decide +kernel, rfl, by decide +kernel, by decide +kernel⟩
abbrev s_Reader_head : Stmt := inClass (top 49) 1
abbrev N_Reader_head : List Str := ["self"]
abbrev P_Reader_head : List Str := ["self"]
theorem sc_Reader_head : FnScope N_Reader_head P_Reader_head (defScope s_Reader_head) := ⟨rfl, rfl, rfl, by decide +kernel, rfl, by decide +kernel, by decide +kernel⟩
abbrev s_Reader_peek : Stmt := inClass (top 49) 2
abbrev N_Reader_peek : List Str := ["self", "row"]
abbrev P_Reader_peek : List Str := ["self"]
theorem sc_Reader_peek : FnScope N_Reader_peek P_Reader_peek (defScope s_Reader_peek) := ⟨rfl, rfl, rfl, by decide +kernel, rfl, by decide +kernel, by decide +kernel⟩
abbrev s_Reader_take : Stmt := inClass (top 49) 3
abbrev N_Reader_take : List Str := ["self", "word"]
abbrev P_Reader_take : List Str := ["self"]
theorem sc_Reader_take : FnScope N_Reader_take P_Reader_take (defScope s_Reader_take) := ⟨rfl, rfl, rfl, by decide +kernel, rfl, by decide +kernel, by decide +kernel⟩
abbrev s_Reader_refuse : Stmt := inClass (top 49) 4
abbrev N_Reader_refuse : List Str := ["self"]
abbrev P_Reader_refuse : List Str := ["self"]
theorem sc_Reader_refuse : FnScope N_Reader_refuse P_Reader_refuse (defScope s_Reader_refuse) := ⟨rfl, rfl, rfl, by decide +kernel, rfl, by decide +kernel, by decide +kernel⟩
abbrev s_Reader_take_word : Stmt := inClass (top 49) 5
abbrev N_Reader_take_word : List Str := ["self", "words"]
abbrev P_Reader_take_word : List Str := ["self", "words"]
theorem sc_Reader_take_word : FnScope N_Reader_take_word P_Reader_take_word (defScope s_Reader_take_word) := ⟨rfl, rfl, rfl, by decide +kernel, rfl, by decide +kernel, by decide +kernel⟩
abbrev s_Reader_take_name : Stmt := inClass (top 49) 6
abbrev N_Reader_take_name : List Str := ["self", "words"]
abbrev P_Reader_take_name : List Str := ["self", "words"]
theorem sc_Reader_take_name : FnScope N_Reader_take_name P_Reader_take_name (defScope s_Reader_take_name) := ⟨rfl, rfl, rfl, by decide +kernel, rfl, by decide +kernel, by decide +kernel⟩
abbrev s_Reader_take_text : Stmt := inClass (top 49) 7
abbrev N_Reader_take_text : List Str := ["self"]
abbrev P_Reader_take_text : List Str := ["self"]
theorem sc_Reader_take_text : FnScope N_Reader_take_text P_Reader_take_text (defScope s_Reader_take_text) := ⟨rfl, rfl, rfl, by decide +kernel, rfl, by decide +kernel, by decide +kernel⟩
abbrev s_Reader_take_integer : Stmt := inClass (top 49) 8
abbrev N_Reader_take_integer : List Str := ["self", "word"]
abbrev P_Reader_take_integer : List Str := ["self"]
theorem sc_Reader_take_integer : FnScope N_Reader_take_integer P_Reader_take_integer (defScope s_Reader_take_integer) := ⟨rfl, rfl, rfl, by decide +kernel, rfl, by decide +kernel, by decide +kernel⟩
abbrev s_Reader_take_number : Stmt := inClass (top 49) 9
abbrev N_Reader_take_number : List Str := ["self"]
abbrev P_Reader_take_number : List Str := ["self"]
theorem sc_Reader_take_number : FnScope N_Reader_take_number P_Reader_take_number (defScope s_Reader_take_number) := ⟨rfl, rfl, rfl, by decide +kernel, rfl, by decide +kernel, by decide +kernel⟩
abbrev s_Reader_has_ratio : Stmt := inClass (top 49) 10
abbrev N_Reader_has_ratio : List Str := ["self"]
abbrev P_Reader_has_ratio : List Str := ["self"]
theorem sc_Reader_has_ratio : FnScope N_Reader_has_ratio P_Reader_has_ratio (defScope s_Reader_has_ratio) := ⟨rfl, rfl, rfl, by decide +kernel, rfl, by decide +kernel, by decide +kernel⟩
abbrev s_Reader_take_ratio : Stmt := inClass (top 49) 11
abbrev N_Reader_take_ratio : List Str := ["self"]
abbrev P_Reader_take_ratio : List Str := ["self"]
theorem sc_Reader_take_ratio : FnScope N_Reader_take_ratio P_Reader_take_ratio (defScope s_Reader_take_ratio) := ⟨rfl, rfl, rfl, by decide +kernel, rfl, by decide +kernel, by decide +kernel⟩
abbrev s_Reader_take_dimension : Stmt := inClass (top 49) 12
abbrev N_Reader_take_dimension : List Str := ["self", "bases"]
abbrev P_Reader_take_dimension : List Str := ["self", "bases"]
theorem sc_Reader_take_dimension : FnScope N_Reader_take_dimension P_Reader_take_dimension (defScope s_Reader_take_dimension) := ⟨rfl, rfl, rfl, by decide +kernel, rfl, by decide +kernel, by decide +kernel⟩
abbrev s_Reader_end_line : Stmt := inClass (top 49) 13
abbrev N_Reader_end_line : List Str := ["self"]
abbrev P_Reader_end_line : List Str := ["self"]
theorem sc_Reader_end_line : FnScope N_Reader_end_line P_Reader_end_line (defScope s_Reader_end_line) := ⟨rfl, rfl, rfl, by decide +kernel, rfl, by decide +kernel, by decide +kernel⟩
abbrev s_Reader_end_lines : Stmt := inClass (top 49) 14
abbrev N_Reader_end_lines : List Str := ["self"]
abbrev P_Reader_end_lines : List Str := ["self"]
theorem sc_Reader_end_lines : FnScope N_Reader_end_lines P_Reader_end_lines (defScope s_Reader_end_lines) := ⟨rfl, rfl, rfl, by decide +kernel, rfl, by decide +kernel, by decide +kernel⟩
abbrev s_write_card : Stmt := (top 51)
abbrev N_write_card : List Str := ["card", "lines", "name", "stretch", "day", "row", "bound"]
abbrev P_write_card : List Str := ["card"]
theorem sc_write_card : FnScope N_write_card P_write_card (defScope s_write_card) := ⟨rfl, rfl, rfl, by decide +kernel, rfl, by decide +kernel, by decide +kernel⟩
abbrev s_read_card : Stmt := (top 52)
abbrev N_read_card : List Str := ["lines", "reader", "many", "spots", "rows"]
abbrev P_read_card : List Str := ["lines"]
theorem sc_read_card : FnScope N_read_card P_read_card (defScope s_read_card) := ⟨rfl, rfl, rfl, by decide +kernel, rfl, by decide +kernel, by decide +kernel⟩
abbrev s__take_spot : Stmt := (top 53)
abbrev N__take_spot : List Str := ["reader", "name", "stretch", "day"]
abbrev P__take_spot : List Str := ["reader"]
theorem sc__take_spot : FnScope N__take_spot P__take_spot (defScope s__take_spot) := ⟨rfl, rfl, rfl, by decide +kernel, rfl, by decide +kernel, by decide +kernel⟩
abbrev s__take_row : Stmt := (top 54)
abbrev N__take_row : List Str := ["reader", "many", "bounds"]
abbrev P__take_row : List Str := ["reader", "many"]
theorem sc__take_row : FnScope N__take_row P__take_row (defScope s__take_row) := ⟨rfl, rfl, rfl, by decide +kernel, rfl, by decide +kernel, by decide +kernel⟩
abbrev s__law_bag_of : Stmt := (top 56)
abbrev N__law_bag_of : List Str := ["_law_script", "_law_mixed", "_law_cell"]
abbrev P__law_bag_of : List Str := ["_law_script"]
theorem sc__law_bag_of : FnScope N__law_bag_of P__law_bag_of (defScope s__law_bag_of) := ⟨rfl, rfl, rfl, by decide +kernel, rfl, by decide +kernel, by decide +kernel⟩
abbrev s__law_pick : Stmt := (top 57)
abbrev N__law_pick : List Str := ["_law_bag", "_law_many", "_law_number", "_law_cell"]
abbrev P__law_pick : List Str := ["_law_bag", "_law_many"]
theorem sc__law_pick : FnScope N__law_pick P__law_pick (defScope s__law_pick) := ⟨rfl, rfl, rfl, by decide +kernel, rfl, by decide +kernel, by decide +kernel⟩
abbrev s__law_choice : Stmt := (top 58)
abbrev N__law_choice : List Str := ["_law_bag", "_law_things"]
abbrev P__law_choice : List Str := ["_law_bag", "_law_things"]
theorem sc__law_choice : FnScope N__law_choice P__law_choice (defScope s__law_choice) := ⟨rfl, rfl, rfl, by decide +kernel, rfl, by decide +kernel, by decide +kernel⟩
abbrev s__law_one_in : Stmt := (top 59)
abbrev N__law_one_in : List Str := ["_law_bag", "_law_many"]
abbrev P__law_one_in : List Str := ["_law_bag", "_law_many"]
theorem sc__law_one_in : FnScope N__law_one_in P__law_one_in (defScope s__law_one_in) := ⟨rfl, rfl, rfl, by decide +kernel, rfl, by decide +kernel, by decide +kernel⟩
abbrev s__law_integer : Stmt := (top 60)
abbrev N__law_integer : List Str := ["_law_thing"]
abbrev P__law_integer : List Str := ["_law_thing"]
theorem sc__law_integer : FnScope N__law_integer P__law_integer (defScope s__law_integer) := ⟨rfl, rfl, rfl, by decide +kernel, rfl, by decide +kernel, by decide +kernel⟩
abbrev s__law_letters_of : Stmt := (top 61)
abbrev N__law_letters_of : List Str := ["_law_bag", "_law_many", "_law_k"]
abbrev P__law_letters_of : List Str := ["_law_bag", "_law_many"]
theorem sc__law_letters_of : FnScope N__law_letters_of P__law_letters_of (defScope s__law_letters_of) := ⟨rfl, rfl, rfl, by decide +kernel, rfl, by decide +kernel, by decide +kernel⟩
abbrev s__law_words_of : Stmt := (top 62)
abbrev N__law_words_of : List Str := ["_law_told"]
abbrev P__law_words_of : List Str := []
theorem sc__law_words_of : FnScope N__law_words_of P__law_words_of (defScope s__law_words_of) := ⟨rfl, rfl, rfl, by decide +kernel, rfl, by decide +kernel, by decide +kernel⟩
abbrev s__law_names_of : Stmt := (top 63)
abbrev N__law_names_of : List Str := ["_law_bag", "_law_many", "_law_taken", "_law_letters", "_law_k", "_law_drawn", "_law_name", "_law_step"]
abbrev P__law_names_of : List Str := ["_law_bag", "_law_many"]
theorem sc__law_names_of : FnScope N__law_names_of P__law_names_of (defScope s__law_names_of) := ⟨rfl, rfl, rfl, by decide +kernel, rfl, by decide +kernel, by decide +kernel⟩
abbrev s__law_ground : Stmt := (top 64)
abbrev N__law_ground : List Str := []
abbrev P__law_ground : List Str := []
theorem sc__law_ground : FnScope N__law_ground P__law_ground (defScope s__law_ground) := ⟨rfl, rfl, rfl, by decide +kernel, rfl, by decide +kernel, by decide +kernel⟩
abbrev s__law_some_spots : Stmt := (top 65)
abbrev N__law_some_spots : List Str := ["_law_bag", "_law_many", "_law_names", "_law_spots", "_law_k", "_law_name", "_law_spot"]
abbrev P__law_some_spots : List Str := ["_law_bag", "_law_many"]
theorem sc__law_some_spots : FnScope N__law_some_spots P__law_some_spots (defScope s__law_some_spots) := ⟨rfl, rfl, rfl, by decide +kernel, rfl, by decide +kernel, by decide +kernel⟩
abbrev s__law_closing : Stmt := (top 66)
abbrev N__law_closing : List Str := ["_law_rows", "_law_table", "_law_middle", "_law_through", "_law_a", "_law_row", "_law_step", "_law_b"]
abbrev P__law_closing : List Str := ["_law_rows"]
theorem sc__law_closing : FnScope N__law_closing P__law_closing (defScope s__law_closing) := ⟨rfl, rfl, rfl, by decide +kernel, rfl, by decide +kernel, by decide +kernel⟩
abbrev s__law_drawn_rows : Stmt := (top 67)
abbrev N__law_drawn_rows : List Str := ["_law_bag", "_law_many", "_law_scale", "_law_spread", "_law_values", "_law_rows", "_law_a", "_law_row", "_law_k", "_law_b"]
abbrev P__law_drawn_rows : List Str := ["_law_bag", "_law_many"]
theorem sc__law_drawn_rows : FnScope N__law_drawn_rows P__law_drawn_rows (defScope s__law_drawn_rows) := ⟨rfl, rfl, rfl, by decide +kernel, rfl, by decide +kernel, by decide +kernel⟩
abbrev s__law_lines_of : Stmt := (top 68)
abbrev N__law_lines_of : List Str := ["_law_spots", "_law_rows", "_law_lines", "_law_row", "_law_spot", "_law_one"]
abbrev P__law_lines_of : List Str := ["_law_spots", "_law_rows"]
theorem sc__law_lines_of : FnScope N__law_lines_of P__law_lines_of (defScope s__law_lines_of) := ⟨rfl, rfl, rfl, by decide +kernel, rfl, by decide +kernel, by decide +kernel⟩
abbrev s__law_whole : Stmt := (top 69)
abbrev N__law_whole : List Str := ["_law_word", "_law_figures", "_law_sign"]
abbrev P__law_whole : List Str := ["_law_word"]
theorem sc__law_whole : FnScope N__law_whole P__law_whole (defScope s__law_whole) := ⟨rfl, rfl, rfl, by decide +kernel, rfl, by decide +kernel, by decide +kernel⟩
abbrev s__law_is_thing : Stmt := (top 70)
abbrev N__law_is_thing : List Str := ["_law_word", "_law_sign"]
abbrev P__law_is_thing : List Str := ["_law_word"]
theorem sc__law_is_thing : FnScope N__law_is_thing P__law_is_thing (defScope s__law_is_thing) := ⟨rfl, rfl, rfl, by decide +kernel, rfl, by decide +kernel, by decide +kernel⟩
abbrev s__law_fault_of : Stmt := (top 71)
abbrev N__law_fault_of : List Str := ["_law_words", "_law_head", "_law_shape", "_law_place", "_law_word"]
abbrev P__law_fault_of : List Str := ["_law_words", "_law_head", "_law_shape"]
theorem sc__law_fault_of : FnScope N__law_fault_of P__law_fault_of (defScope s__law_fault_of) := ⟨rfl, rfl, rfl, by decide +kernel, rfl, by decide +kernel, by decide +kernel⟩
abbrev s__law_read : Stmt := (top 72)
abbrev N__law_read : List Str := ["_law_lines", "_law_left", "_law_due", "_law_spots", "_law_rows", "_law_step", "_law_number", "_law_words", "_law_fault", "_law_many", "_law_k", "_law_word"]
abbrev P__law_read : List Str := ["_law_lines"]
theorem sc__law_read : FnScope N__law_read P__law_read (defScope s__law_read) := ⟨rfl, rfl, rfl, by decide +kernel, rfl, by decide +kernel, by decide +kernel⟩
abbrev s__law_place_of : Stmt := (top 73)
abbrev N__law_place_of : List Str := ["_law_spots", "_law_rows", "_law_place", "_law_a", "_law_b", "_law_c"]
abbrev P__law_place_of : List Str := ["_law_spots", "_law_rows"]
theorem sc__law_place_of : FnScope N__law_place_of P__law_place_of (defScope s__law_place_of) := ⟨rfl, rfl, rfl, by decide +kernel, rfl, by decide +kernel, by decide +kernel⟩
abbrev s__law_due_of : Stmt := (top 74)
abbrev N__law_due_of : List Str := ["_law_lines", "_law_told", "_law_place"]
abbrev P__law_due_of : List Str := ["_law_lines"]
theorem sc__law_due_of : FnScope N__law_due_of P__law_due_of (defScope s__law_due_of) := ⟨rfl, rfl, rfl, by decide +kernel, rfl, by decide +kernel, by decide +kernel⟩
abbrev s__law_answer_of : Stmt := (top 75)
abbrev N__law_answer_of : List Str := ["_law_lines", "_law_card", "e", "_law_row"]
abbrev P__law_answer_of : List Str := ["_law_lines"]
theorem sc__law_answer_of : FnScope N__law_answer_of P__law_answer_of (defScope s__law_answer_of) := ⟨rfl, rfl, rfl, by decide +kernel, rfl, by decide +kernel, by decide +kernel⟩
abbrev s__law_odd_word : Stmt := (top 76)
abbrev N__law_odd_word : List Str := ["_law_bag", "_law_odd"]
abbrev P__law_odd_word : List Str := ["_law_bag"]
theorem sc__law_odd_word : FnScope N__law_odd_word P__law_odd_word (defScope s__law_odd_word) := ⟨rfl, rfl, rfl, by decide +kernel, rfl, by decide +kernel, by decide +kernel⟩
abbrev s__law_spoil_words : Stmt := (top 77)
abbrev N__law_spoil_words : List Str := ["_law_bag", "_law_line", "_law_words", "_law_at", "_law_way"]
abbrev P__law_spoil_words : List Str := ["_law_bag", "_law_line"]
theorem sc__law_spoil_words : FnScope N__law_spoil_words P__law_spoil_words (defScope s__law_spoil_words) := ⟨rfl, rfl, rfl, by decide +kernel, rfl, by decide +kernel, by decide +kernel⟩
abbrev s__law_spoil_number : Stmt := (top 78)
abbrev N__law_spoil_number : List Str := ["_law_bag", "_law_line", "_law_words", "_law_at", "_law_value"]
abbrev P__law_spoil_number : List Str := ["_law_bag", "_law_line"]
theorem sc__law_spoil_number : FnScope N__law_spoil_number P__law_spoil_number (defScope s__law_spoil_number) := ⟨rfl, rfl, rfl, by decide +kernel, rfl, by decide +kernel, by decide +kernel⟩
abbrev s__law_spoil_lines : Stmt := (top 79)
abbrev N__law_spoil_lines : List Str := ["_law_bag", "_law_lines", "_law_way", "_law_at", "_law_other", "_law_new"]
abbrev P__law_spoil_lines : List Str := ["_law_bag", "_law_lines"]
theorem sc__law_spoil_lines : FnScope N__law_spoil_lines P__law_spoil_lines (defScope s__law_spoil_lines) := ⟨rfl, rfl, rfl, by decide +kernel, rfl, by decide +kernel, by decide +kernel⟩
abbrev s__law_with_empty : Stmt := (top 80)
abbrev N__law_with_empty : List Str := ["_law_bag", "_law_lines", "_law_new", "_law_line"]
abbrev P__law_with_empty : List Str := ["_law_bag", "_law_lines"]
theorem sc__law_with_empty : FnScope N__law_with_empty P__law_with_empty (defScope s__law_with_empty) := ⟨rfl, rfl, rfl, by decide +kernel, rfl, by decide +kernel, by decide +kernel⟩
abbrev s__law_same : Stmt := (top 81)
abbrev N__law_same : List Str := ["_law_answer", "_law_due", "_law_k"]
abbrev P__law_same : List Str := ["_law_answer", "_law_due"]
theorem sc__law_same : FnScope N__law_same P__law_same (defScope s__law_same) := ⟨rfl, rfl, rfl, by decide +kernel, rfl, by decide +kernel, by decide +kernel⟩
abbrev s_law : Stmt := (top 82)
abbrev N_law : List Str := ["_law_script", "_law_bag", "_law_many", "_law_spots", "_law_rows", "_law_card", "_law_lines", "_law_told", "_law_handed", "_law_turn", "_law_spoilt", "_law_step", "_law_kept", "_law_one"]
abbrev P_law : List Str := ["_law_script"]
theorem sc_law : FnScope N_law P_law (defScope s_law) := ⟨rfl, rfl, rfl, by decide +kernel, rfl, by decide +kernel, by decide +kernel⟩
structure Ad where
  Card : Addr
  BadSpot : Addr
  NoSpot : Addr
  Clash : Addr
  BadCard : Addr
  EllError : Addr
  BadLine : Addr
  Reader : Addr
  aG : Addr
  aY : Addr
  aW : Addr
  tD : Tok
  tN : Tok
  tM : Tok
  tI : Tok
  tA : Tok
/-- an error's own __init__ -/
structure IniAt (K : PySem.W.Frag) (C : Addr) (q : Str) (st : Stmt) (ps : List Str) : Prop where
  ex : ∃ f fd, PySem.W.findIn K (.ref C) "__init__" = some (some (.ref f)) ∧ PySem.W.typeIn K (.ref f) = some (.type "function") ∧ Fun K "__init__" q st f fd ∧ Binds K fd ps []
/-- a method that stands for a sign -/
structure OwAt (K : PySem.W.Frag) (C : Addr) (m q : Str) (st : Stmt) (ps : List Str) : Prop where
  ex : ∃ f fd, OpM K C m f ∧ PySem.W.fnIn K f = true ∧ Fun K m q st f fd ∧ Binds K fd ps []
/-- what the top has written -/
structure Txt (K : PySem.W.Frag) (mg : Str → Option Value) (a : Ad) : Prop where
  n_isinstance : mg "isinstance" = none
  n_int : mg "int" = none
  n_bool : mg "bool" = none
  n_tuple : mg "tuple" = none
  n_str : mg "str" = none
  n_list : mg "list" = none
  n_len : mg "len" = none
  n_any : mg "any" = none
  n_all : mg "all" = none
  n_range : mg "range" = none
  n_enumerate : mg "enumerate" = none
  n_zip : mg "zip" = none
  n_min : mg "min" = none
  n_ValueError : mg "ValueError" = none
  n_abs : mg "abs" = none
  n_iter : mg "iter" = none
  k_DIGITS_ratios : mg "DIGITS_ratios" = some (.str "0123456789" a.tD)
  k_LETTERS : mg "LETTERS" = some (.str "abcdefghijklmnopqrstuvwxyz" a.tA)
  k_LONGEST_names : mg "LONGEST_names" = some (.int 12 a.tN)
  k_LONGEST_lines : mg "LONGEST_lines" = some (.int 300 a.tM)
  k_DIGITS_lines : mg "DIGITS_lines" = some (.int 30 a.tI)
  k_WORDS : mg "WORDS" = some (.ref a.aW)
  t_WORDS : ∀ H, SqT K H a.aW ((["days", "base", "unit", "device", "feature", "role", "job", "procedure", "takes", "uses", "read", "by", "let", "be", "tell", "in", "judge", "good", "bad", "choose", "passed", "failed", "open", "repeat", "leave", "call", "stop", "end", "size", "offset", "news", "cert", "stand", "jolt", "edition", "strike", "told", "within", "sum", "product", "quotient", "card", "spot", "row", "ground", "nobody"] : List String).map fun x => V.str (Str.ofString x))
  k_GROUND : mg "GROUND" = some (.ref a.aG)
  t_GROUND : ∀ H, SqT K H a.aG [.str "ground", .int 0, .int 0]
  k_WHY : mg "WHY" = some (.ref a.aY)
  t_WHY : ∀ H, SqT K H a.aY [.str "card"]
  ox_BadSpot : OexC K a.BadSpot
  g_BadSpot : mg "BadSpot" = some (.ref a.BadSpot)
  no_BadSpot_place : PySem.W.findIn K (.ref a.BadSpot) "place" = some none
  i_BadSpot : IniAt K a.BadSpot "BadSpot.__init__" s_BadSpotD_initD P_BadSpotD_initD
  e_BadSpot : ErrC K a.BadSpot
  xf_BadSpot : XfC K a.BadSpot
  ox_NoSpot : OexC K a.NoSpot
  g_NoSpot : mg "NoSpot" = some (.ref a.NoSpot)
  no_NoSpot_spot : PySem.W.findIn K (.ref a.NoSpot) "spot" = some none
  i_NoSpot : IniAt K a.NoSpot "NoSpot.__init__" s_NoSpotD_initD P_NoSpotD_initD
  e_NoSpot : ErrC K a.NoSpot
  xf_NoSpot : XfC K a.NoSpot
  ox_Clash : OexC K a.Clash
  g_Clash : mg "Clash" = some (.ref a.Clash)
  no_Clash_ring : PySem.W.findIn K (.ref a.Clash) "ring" = some none
  i_Clash : IniAt K a.Clash "Clash.__init__" s_ClashD_initD P_ClashD_initD
  e_Clash : ErrC K a.Clash
  xf_Clash : XfC K a.Clash
  ox_BadCard : OexC K a.BadCard
  g_BadCard : mg "BadCard" = some (.ref a.BadCard)
  no_BadCard_place : PySem.W.findIn K (.ref a.BadCard) "place" = some none
  i_BadCard : IniAt K a.BadCard "BadCard.__init__" s_BadCardD_initD P_BadCardD_initD
  e_BadCard : ErrC K a.BadCard
  xf_BadCard : XfC K a.BadCard
  ox_BadLine : OexC K a.BadLine
  g_BadLine : mg "BadLine" = some (.ref a.BadLine)
  no_BadLine_line : PySem.W.findIn K (.ref a.BadLine) "line" = some none
  no_BadLine_word : PySem.W.findIn K (.ref a.BadLine) "word" = some none
  i_BadLine : IniAt K a.BadLine "BadLine.__init__" s_BadLineD_initD P_BadLineD_initD
  e_BadLine : ErrC K a.BadLine
  xf_BadLine : XfC K a.BadLine
  kv_BadLine : PySem.W.kitOne K (.ref a.BadLine) (.type "ValueError") = some true
  ke_BadLine : PySem.W.kitOne K (.ref a.BadLine) (.ref a.EllError) = some true
  kc_BadLine : PySem.W.kitOne K (.ref a.BadLine) (.ref a.BadCard) = some false
  em_BadLine : PySem.W.exmOne K (.ref a.BadLine) (.ref a.BadLine) = some true
  em_BadSpot : PySem.W.exmOne K (.ref a.BadSpot) (.ref a.BadSpot) = some true
  en_BadCard : PySem.W.exmOne K (.ref a.BadCard) (.ref a.BadLine) = some false
  g_Reader : mg "Reader" = some (.ref a.Reader)
  cl : Cls K a.Reader
  rR : NoAttr K a.Reader "_rows"
  rL : NoAttr K a.Reader "_line"
  rW : NoAttr K a.Reader "_word"
  i_Reader : MkAt K a.Reader "Reader.__init__" s_ReaderD_initD P_ReaderD_initD
  m_head : MthAt K a.Reader "head" "Reader.head" s_Reader_head P_Reader_head
  m_peek : MthAt K a.Reader "peek" "Reader.peek" s_Reader_peek P_Reader_peek
  m_take : MthAt K a.Reader "take" "Reader.take" s_Reader_take P_Reader_take
  m_refuse : MthAt K a.Reader "refuse" "Reader.refuse" s_Reader_refuse P_Reader_refuse
  m_take_integer : MthAt K a.Reader "take_integer" "Reader.take_integer" s_Reader_take_integer P_Reader_take_integer
  m_take_number : MthAt K a.Reader "take_number" "Reader.take_number" s_Reader_take_number P_Reader_take_number
  m_end_line : MthAt K a.Reader "end_line" "Reader.end_line" s_Reader_end_line P_Reader_end_line
  m_end_lines : MthAt K a.Reader "end_lines" "Reader.end_lines" s_Reader_end_lines P_Reader_end_lines
  m_take_word : StarAt K a.Reader "take_word" "Reader.take_word" s_Reader_take_word ["self"] "words"
  m_take_name : StarAt K a.Reader "take_name" "Reader.take_name" s_Reader_take_name ["self"] "words"
  kv_BadCard : PySem.W.kitOne K (.ref a.BadCard) (.type "ValueError") = some true
  ke_BadCard : PySem.W.kitOne K (.ref a.BadCard) (.ref a.EllError) = some true
  em_BadCard : PySem.W.exmOne K (.ref a.BadCard) (.ref a.BadCard) = some true
  g_EllError : mg "EllError" = some (.ref a.EllError)
  g_Card : mg "Card" = some (.ref a.Card)
  ki : KiC K a.Card
  nS : NoAttr K a.Card "spots"
  nP : NoAttr K a.Card "_places"
  nR : NoAttr K a.Card "rows"
  sf : PySem.W.selfFirst K a.Card = true
  nf : NoFirst K a.Card
  no : ∀ T ∈ (["NoneType", "bool", "int", "str", "list", "tuple"] : List String), PySem.W.kitOne K (.type T) (.ref a.Card) = some false
  i_Card : MkAt K a.Card "Card.__init__" s_CardD_initD P_CardD_initD
  o_getitem : OwAt K a.Card "__getitem__" "Card.__getitem__" s_CardD_getitemD P_CardD_getitemD
  o_len : OwAt K a.Card "__len__" "Card.__len__" s_CardD_lenD P_CardD_lenD
  o_contains : OwAt K a.Card "__contains__" "Card.__contains__" s_CardD_containsD P_CardD_containsD
  o_eq : OwAt K a.Card "__eq__" "Card.__eq__" s_CardD_eqD P_CardD_eqD
  m__place : MthAt K a.Card "_place" "Card._place" s_Card__place P_Card__place
  d__wall : DefAt K mg "_wall" s__wall P__wall
  d_is_integer : DefAt K mg "is_integer" s_is_integer P_is_integer
  d_is_row : DefAt K mg "is_row" s_is_row P_is_row
  d_is_tuple_of : DefAt K mg "is_tuple_of" s_is_tuple_of P_is_tuple_of
  d_ways_from : DefAt K mg "ways_from" s_ways_from P_ways_from
  d__ring_of : DefAt K mg "_ring_of" s__ring_of P__ring_of
  d__followed_back : DefAt K mg "_followed_back" s__followed_back P__followed_back
  d_is_whole : DefAt K mg "is_whole" s_is_whole P_is_whole
  d__is_digits : DefAt K mg "_is_digits" s__is_digits P__is_digits
  d_is_spot : DefAt K mg "is_spot" s_is_spot P_is_spot
  d_arrows_of : DefAt K mg "arrows_of" s_arrows_of P_arrows_of
  d_places_of : DefAt K mg "places_of" s_places_of P_places_of
  d_is_name : DefAt K mg "is_name" s_is_name P_is_name
  d_is_closed : DefAt K mg "is_closed" s_is_closed P_is_closed
  d_joined_tables : DefAt K mg "joined_tables" s_joined_tables P_joined_tables
  d__by_way : DefAt K mg "_by_way" s__by_way P__by_way
  d__side_by_side : DefAt K mg "_side_by_side" s__side_by_side P__side_by_side
  d__with_least : DefAt K mg "_with_least" s__with_least P__with_least
  d__joints : DefAt K mg "_joints" s__joints P__joints
  d_card_links : DefAt K mg "card_links" s_card_links P_card_links
  d__trusted : DefAt K mg "_trusted" s__trusted P__trusted
  d__judge_rows : DefAt K mg "_judge_rows" s__judge_rows P__judge_rows
  d__clash_ring : DefAt K mg "_clash_ring" s__clash_ring P__clash_ring
  d_write_card : DefAt K mg "write_card" s_write_card P_write_card
  d_read_card : DefAt K mg "read_card" s_read_card P_read_card
  d__take_spot : DefAt K mg "_take_spot" s__take_spot P__take_spot
  d__take_row : DefAt K mg "_take_row" s__take_row P__take_row
  d__law_bag_of : DefAt K mg "_law_bag_of" s__law_bag_of P__law_bag_of
  d__law_pick : DefAt K mg "_law_pick" s__law_pick P__law_pick
  d__law_choice : DefAt K mg "_law_choice" s__law_choice P__law_choice
  d__law_one_in : DefAt K mg "_law_one_in" s__law_one_in P__law_one_in
  d__law_integer : DefAt K mg "_law_integer" s__law_integer P__law_integer
  d__law_letters_of : DefAt K mg "_law_letters_of" s__law_letters_of P__law_letters_of
  d__law_words_of : DefAt K mg "_law_words_of" s__law_words_of P__law_words_of
  d__law_names_of : DefAt K mg "_law_names_of" s__law_names_of P__law_names_of
  d__law_ground : DefAt K mg "_law_ground" s__law_ground P__law_ground
  d__law_some_spots : DefAt K mg "_law_some_spots" s__law_some_spots P__law_some_spots
  d__law_closing : DefAt K mg "_law_closing" s__law_closing P__law_closing
  d__law_drawn_rows : DefAt K mg "_law_drawn_rows" s__law_drawn_rows P__law_drawn_rows
  d__law_lines_of : DefAt K mg "_law_lines_of" s__law_lines_of P__law_lines_of
  d__law_whole : DefAt K mg "_law_whole" s__law_whole P__law_whole
  d__law_is_thing : DefAt K mg "_law_is_thing" s__law_is_thing P__law_is_thing
  d__law_fault_of : DefAt K mg "_law_fault_of" s__law_fault_of P__law_fault_of
  d__law_read : DefAt K mg "_law_read" s__law_read P__law_read
  d__law_place_of : DefAt K mg "_law_place_of" s__law_place_of P__law_place_of
  d__law_due_of : DefAt K mg "_law_due_of" s__law_due_of P__law_due_of
  d__law_answer_of : DefAt K mg "_law_answer_of" s__law_answer_of P__law_answer_of
  d__law_odd_word : DefAt K mg "_law_odd_word" s__law_odd_word P__law_odd_word
  d__law_spoil_words : DefAt K mg "_law_spoil_words" s__law_spoil_words P__law_spoil_words
  d__law_spoil_number : DefAt K mg "_law_spoil_number" s__law_spoil_number P__law_spoil_number
  d__law_spoil_lines : DefAt K mg "_law_spoil_lines" s__law_spoil_lines P__law_spoil_lines
  d__law_with_empty : DefAt K mg "_law_with_empty" s__law_with_empty P__law_with_empty
  d__law_same : DefAt K mg "_law_same" s__law_same P__law_same
  d_law : DefAt K mg "law" s_law P_law
section
variable {P : Program} {w : World} {K : PySem.W.Frag} {mg : Str → Option Value} {base : Heap} {a : Ad}
/-! ### checks -/
/-- not an integer: a bool, or a thing of a type that is none of int's -/
def NoI (K : PySem.W.Frag) (H : Hp) (v : V) : Prop := (∃ b, v = .bl b) ∨ ∃ t, TyX K H v t ∧ PySem.W.kitOne K t (.type "int") = some false
def sp_is_integer (K : PySem.W.Frag) : Sp := fun vs H Q _ => ∃ v, vs = [v] ∧ ((∃ i, v = .int i ∧ Q (.bl true) H) ∨ (NoI K H v ∧ Q (.bl false) H))
theorem c_is_integer (T : Txt K mg a) : Cl P w K mg base 1 "is_integer" P_is_integer (sp_is_integer K) [] :=
  T.d_is_integer.cl sc_is_integer (fun vs H Q E h => by obtain ⟨i, rfl, _⟩ := h; rfl) fun f cdv A outer s H vs Q E hr h => by
    obtain ⟨v, rfl, h⟩ := h
    refine ⟨_, ((pss_one (ps_ret (pe_and (pe_callB call_isi (by rfl) T.n_isinstance (by decide +kernel) (pa_cons (pv 0) (pa_cons (pe_bltn (v := .ty "int") (by rfl) T.n_int (by decide +kernel) rfl) pa_nil))) (pe_one (pe_not (pe_callB call_isi (by rfl) T.n_isinstance (by decide +kernel) (pa_cons (pv 0) (pa_cons (pe_bltn (v := .ty "bool") (by rfl) T.n_bool (by decide +kernel) rfl) pa_nil))))))))), ?_⟩
    rcases h with ⟨i, rfl, k⟩ | ⟨⟨b, rfl⟩ | ⟨t, ht, hk⟩, k⟩
    · refine ⟨_, rfl, _, _, _, _, true, rfl, .ty _, .base (.int _), kit_ty (by decide +kernel), true, rfl, iteT ?_⟩
      exact ⟨_, rfl, _, _, _, _, false, rfl, .ty _, .base (.int _), kit_ty (by decide +kernel), false, rfl, k⟩
    · refine ⟨_, rfl, _, _, _, _, true, rfl, .ty _, .base (.bl _), kit_ty (by decide +kernel), true, rfl, iteT ?_⟩
      exact ⟨_, rfl, _, _, _, _, true, rfl, .ty _, .base (.bl _), kit_ty (by decide +kernel), true, rfl, k⟩
    · exact ⟨_, rfl, _, _, _, _, false, rfl, .ty _, ht, hk, false, rfl, iteF k⟩
def sp_is_tuple_of (K : PySem.W.Frag) : Sp := fun vs H Q _ => ∃ (v : V) (m : Int), vs = [v, .int m] ∧
  ((∃ p xs, v = .ref p ∧ SqT K H p xs ∧ Q (.bl (decide (V.int xs.length = V.int m))) H) ∨ ∃ t, TyX K H v t ∧ PySem.W.kitOne K t (.type "tuple") = some false ∧ Q (.bl false) H)
theorem c_is_tuple_of (T : Txt K mg a) : Cl P w K mg base 1 "is_tuple_of" P_is_tuple_of (sp_is_tuple_of K) [] :=
  T.d_is_tuple_of.cl sc_is_tuple_of (fun vs H Q E h => by obtain ⟨i, lo, rfl, _⟩ := h; rfl) fun f cdv A outer s H vs Q E hr h => by
    obtain ⟨v, m, rfl, h⟩ := h
    refine ⟨_, ((pss_one (ps_ret (pe_and (pe_callB call_isi (by rfl) T.n_isinstance (by decide +kernel) (pa_cons (pv 0) (pa_cons (pe_bltn (v := .ty "tuple") (by rfl) T.n_tuple (by decide +kernel) rfl) pa_nil))) (pe_one (pe_cmpR op_eq (pe_callB call_len_seq (by rfl) T.n_len (by decide +kernel) (pa_cons (pv 0) pa_nil)) (pv 1) (nomark _))))))), ?_⟩
    rcases h with ⟨p, xs, rfl, hx, k⟩ | ⟨t, ht, hk, k⟩
    · refine ⟨_, rfl, _, _, _, _, true, rfl, .ty _, ty_sqT hx, kit_ty (by decide +kernel), true, rfl, iteT ?_⟩
      exact ⟨_, rfl, _, _, rfl, .inr hx, _, rfl, rfl, k⟩
    · exact ⟨_, rfl, _, _, _, _, false, rfl, .ty _, ht, hk, false, rfl, iteF k⟩
def sp_is_row (K : PySem.W.Frag) : Sp := fun vs H Q _ => ∃ (F : Hp) (p : Addr) (xs : List V), vs = [.ref p] ∧ (SqL K F p xs ∨ SqT K F p xs) ∧ Pu F H Q fun _ v => v = .bl true
theorem c_is_row (T : Txt K mg a) : Cl P w K mg base 1 "is_row" P_is_row (sp_is_row K) [] :=
  T.d_is_row.cl sc_is_row (fun vs H Q E h => by obtain ⟨F, p, xs, rfl, _⟩ := h; rfl) fun f cdv A outer s H vs Q E hr h => by
    obtain ⟨F, p, xs, rfl, hx, hf, k⟩ := h
    refine ⟨_, ((pss_one (ps_ret (pe_callB call_isiT (by rfl) T.n_isinstance (by decide +kernel) (pa_cons (pv 0) (pa_cons (pe_tup (pa_cons (pe_bltn (v := .ty "list") (by rfl) T.n_list (by decide +kernel) rfl) (pa_cons (pe_bltn (v := .ty "tuple") (by rfl) T.n_tuple (by decide +kernel) rfl) pa_nil))) pa_nil)))))), ?_⟩
    refine ⟨_, rfl, by show 2 ≤ sizeLine; decide, fun q hq => ?_⟩
    have fin : ∀ t, TyX K (upd H q (.tup [.ty "list", .ty "tuple"])) (.ref p) t → PySem.W.kitAny K t [.type "list", .type "tuple"] = some true → rIsiT K [.ref p, .ref q] (upd H q (.tup [.ty "list", .ty "tuple"])) Q := fun t ty hk =>
      ⟨_, q, _, t, _, true, rfl, upd_same, .cons (.ty _) (.cons (.ty _) .nil), ty, hk, k _ _ _ (stp_new hf hq) rfl⟩
    rcases hx with hx | hx
    · exact fin _ (ty_sqL (upL (same_new hq) (upL hf hx))) (kitAny_cons (b := true) (kit_ty (by decide +kernel)) (fun z => nomatch z) fun _ => rfl)
    · exact fin _ (ty_sqT (upT (same_new hq) (upT hf hx))) (kitAny_cons (b := false) (kit_ty (by decide +kernel)) (fun _ => kitAny_cons (b := true) (kit_ty (by decide +kernel)) (fun z => nomatch z) fun _ => rfl) fun z => nomatch z)
theorem map_of {α : Type} {xs : List α} {f : α → V} : ∀ {ys : List V}, ys.length = xs.length → (∀ (j : Nat) y, ys[j]? = some y → ∃ x, xs[j]? = some x ∧ y = f x) → ys = xs.map f := by
  induction xs with
  | nil => intro ys h _; simpa using h
  | cons x xs ih =>
    intro ys h q
    cases ys with
    | nil => simp at h
    | cons y ys =>
      obtain ⟨x', hx, hy⟩ := q 0 y rfl
      cases hx
      rw [hy, List.map_cons, ih (by simpa using h) fun j z hz => q (j + 1) z hz]
theorem x_BadSpot (T : Txt K mg a) : Mke P w K mg base 1 "BadSpot" a.BadSpot P_BadSpotD_initD (spI1 a.BadSpot "place") := by
  obtain ⟨f, fd, hi, ht, F, b⟩ := T.i_BadSpot.ex
  refine ⟨T.g_BadSpot, T.ox_BadSpot, f, fd, hi, ht, fun_ok F sc_BadSpotD_initD (fun vs H Q E h => by obtain ⟨x, v, rfl, _⟩ := h; rfl) fun f cdv A outer s H vs Q E hr h => ?_, b⟩
  obtain ⟨x, v, rfl, hx, k⟩ := h
  exact ⟨_, ((pss_one (ps_ost (pv 0) (pv 1)))), _, rfl, _, rfl, x, a.BadSpot, rfl, T.ox_BadSpot, T.no_BadSpot_place, .inl ⟨hx, fun dx n ne => k dx n ne⟩⟩
theorem x_NoSpot (T : Txt K mg a) : Mke P w K mg base 1 "NoSpot" a.NoSpot P_NoSpotD_initD (spI1 a.NoSpot "spot") := by
  obtain ⟨f, fd, hi, ht, F, b⟩ := T.i_NoSpot.ex
  refine ⟨T.g_NoSpot, T.ox_NoSpot, f, fd, hi, ht, fun_ok F sc_NoSpotD_initD (fun vs H Q E h => by obtain ⟨x, v, rfl, _⟩ := h; rfl) fun f cdv A outer s H vs Q E hr h => ?_, b⟩
  obtain ⟨x, v, rfl, hx, k⟩ := h
  exact ⟨_, ((pss_one (ps_ost (pv 0) (pv 1)))), _, rfl, _, rfl, x, a.NoSpot, rfl, T.ox_NoSpot, T.no_NoSpot_spot, .inl ⟨hx, fun dx n ne => k dx n ne⟩⟩
theorem x_Clash (T : Txt K mg a) : Mke P w K mg base 1 "Clash" a.Clash P_ClashD_initD (spI1 a.Clash "ring") := by
  obtain ⟨f, fd, hi, ht, F, b⟩ := T.i_Clash.ex
  refine ⟨T.g_Clash, T.ox_Clash, f, fd, hi, ht, fun_ok F sc_ClashD_initD (fun vs H Q E h => by obtain ⟨x, v, rfl, _⟩ := h; rfl) fun f cdv A outer s H vs Q E hr h => ?_, b⟩
  obtain ⟨x, v, rfl, hx, k⟩ := h
  exact ⟨_, ((pss_one (ps_ost (pv 0) (pv 1)))), _, rfl, _, rfl, x, a.Clash, rfl, T.ox_Clash, T.no_Clash_ring, .inl ⟨hx, fun dx n ne => k dx n ne⟩⟩
theorem x_BadCard (T : Txt K mg a) : Mke P w K mg base 1 "BadCard" a.BadCard P_BadCardD_initD (spI1 a.BadCard "place") := by
  obtain ⟨f, fd, hi, ht, F, b⟩ := T.i_BadCard.ex
  refine ⟨T.g_BadCard, T.ox_BadCard, f, fd, hi, ht, fun_ok F sc_BadCardD_initD (fun vs H Q E h => by obtain ⟨x, v, rfl, _⟩ := h; rfl) fun f cdv A outer s H vs Q E hr h => ?_, b⟩
  obtain ⟨x, v, rfl, hx, k⟩ := h
  exact ⟨_, ((pss_one (ps_ost (pv 0) (pv 1)))), _, rfl, _, rfl, x, a.BadCard, rfl, T.ox_BadCard, T.no_BadCard_place, .inl ⟨hx, fun dx n ne => k dx n ne⟩⟩
theorem x_BadLine (T : Txt K mg a) : Mke P w K mg base 1 "BadLine" a.BadLine P_BadLineD_initD (spI2 a.BadLine "line" "word") := by
  obtain ⟨f, fd, hi, ht, F, b⟩ := T.i_BadLine.ex
  refine ⟨T.g_BadLine, T.ox_BadLine, f, fd, hi, ht, fun_ok F sc_BadLineD_initD (fun vs H Q E h => by obtain ⟨x, u, v, rfl, _⟩ := h; rfl) fun f cdv A outer s H vs Q E hr h => ?_, b⟩
  obtain ⟨x, u, v, rfl, hx, k⟩ := h
  exact ⟨_, ((pss_cons (ps_ost (pv 0) (pv 1))
 (pss_one (ps_ost (pv 0) (pv 2))))), _, rfl, _, rfl, x, a.BadLine, rfl, T.ox_BadLine, T.no_BadLine_line, .inl ⟨hx, fun dx n ne =>
    ⟨_, rfl, _, rfl, x, a.BadLine, rfl, T.ox_BadLine, T.no_BadLine_word, .inr ⟨dx, _, upd_same, by rw [upd_ne ne, upd_same], Nat.le_of_ble_eq_true rfl, k dx n ne⟩⟩⟩⟩
/-- BadCard made while another error is handled -/
theorem h_BadCard (T : Txt K mg a) : MkeH P w K mg base 1 "BadCard" a.BadCard P_BadCardD_initD (spI1 a.BadCard "place") := by
  obtain ⟨f, fd, hi, ht, F, b⟩ := T.i_BadCard.ex
  refine ⟨T.g_BadCard, T.ox_BadCard, f, fd, hi, ht, okH F sc_BadCardD_initD (fun vs H Q E h => by obtain ⟨x, v, rfl, _⟩ := h; rfl) fun cdv A outer s H vs Q E p hr h => ?_, b⟩
  obtain ⟨x, v, rfl, hx, k⟩ := h
  exact ⟨_, ((pss_one (ps_ost (pv 0) (pv 1)))), _, rfl, _, rfl, x, a.BadCard, rfl, T.ox_BadCard, T.no_BadCard_place, .inl ⟨hx, fun dx n ne => k dx n ne⟩⟩
end
end K52

set_option Elab.async false
set_option linter.all false
set_option maxRecDepth 100000
set_option maxHeartbeats 4000000
namespace K52
open PySem PySem.Spec PyProof.Rows L2 Ew
/-! ### the law's bag -/
theorem _root_.Ew.Stm.touch {m : Addr → Prop} {F H F' H' : Hp} {p : Addr} {o : HO} (a : Stm m F H F' H') (hm : m p) (hf : F' p = none) : Stm m F H F' (upd H' p o) :=
  ⟨a.ff, fun b u e => by rw [upd_ne (ne_of_none e hf)]; exact a.fh b u e, fun x u n e => by rw [upd_ne (fun z => n (by rw [z]; exact hm))]; exact a.hh x u n e, a.nw⟩
def bk (la : Addr) (at_ rest mixed count : Int) : List (Key × V) := [(.inr "cells", .ref la), (.inr "at", .int at_), (.inr "rest", .int rest), (.inr "mixed", .int mixed), (.inr "count", .int count)]
def Bag (K : PySem.W.Frag) (b : Addr) (F H : Hp) : Prop := F b = none ∧ ∃ (la : Addr) (ns : List Int) (at_ rest mixed count : Int), 0 ≤ at_ ∧ ns.length ≤ 1000 ∧ SqL K F la (ns.map V.int) ∧ H b = some (.dK (bk la at_ rest mixed count))
theorem memB (K : PySem.W.Frag) (b : Addr) : Mem (fun x => x = b) (Bag K b) where
  there := fun ⟨_, _, _, _, _, _, _, _, _, _, h⟩ z => by rw [z, h]; exact fun q => nomatch q
  off := fun ⟨h, _⟩ z => by rw [z]; exact h
  put := fun ⟨h, la, ns, at_, rest, mixed, count, h1, h2, h3, h4⟩ n => ⟨h, la, ns, at_, rest, mixed, count, h1, h2, h3, by rw [upd_ne (fun z => n z.symm)]; exact h4⟩
  grow := fun ⟨h, la, ns, at_, rest, mixed, count, h1, h2, h3, h4⟩ e k => ⟨k _ rfl, la, ns, at_, rest, mixed, count, h1, h2, upL e h3, h4⟩
section
variable {H : Hp} {b la : Addr} {at_ rest mixed count n : Int}
theorem dg_c (h : H b = some (.dK (bk la at_ rest mixed count))) : DGet H b (.str "cells") (some (.ref la)) := .inl ⟨_, .inr "cells", .inl h, rfl, rfl⟩
theorem dg_a (h : H b = some (.dK (bk la at_ rest mixed count))) : DGet H b (.str "at") (some (.int at_)) := .inl ⟨_, .inr "at", .inl h, rfl, rfl⟩
theorem dg_r (h : H b = some (.dK (bk la at_ rest mixed count))) : DGet H b (.str "rest") (some (.int rest)) := .inl ⟨_, .inr "rest", .inl h, rfl, rfl⟩
theorem dg_m (h : H b = some (.dK (bk la at_ rest mixed count))) : DGet H b (.str "mixed") (some (.int mixed)) := .inl ⟨_, .inr "mixed", .inl h, rfl, rfl⟩
theorem dg_n (h : H b = some (.dK (bk la at_ rest mixed count))) : DGet H b (.str "count") (some (.int count)) := .inl ⟨_, .inr "count", .inl h, rfl, rfl⟩
theorem dp_a (h : H b = some (.dK (bk la at_ rest mixed count))) : DPut H b (.str "at") (.int n) (upd H b (.dK (bk la n rest mixed count))) := .inl ⟨_, .inr "at", h, rfl, Nat.lt_of_le_of_lt (by decide : 5 ≤ 1000) (by decide), rfl⟩
theorem dp_r (h : H b = some (.dK (bk la at_ rest mixed count))) : DPut H b (.str "rest") (.int n) (upd H b (.dK (bk la at_ n mixed count))) := .inl ⟨_, .inr "rest", h, rfl, Nat.lt_of_le_of_lt (by decide : 5 ≤ 1000) (by decide), rfl⟩
theorem dp_m (h : H b = some (.dK (bk la at_ rest mixed count))) : DPut H b (.str "mixed") (.int n) (upd H b (.dK (bk la at_ rest n count))) := .inl ⟨_, .inr "mixed", h, rfl, Nat.lt_of_le_of_lt (by decide : 5 ≤ 1000) (by decide), rfl⟩
theorem dp_n (h : H b = some (.dK (bk la at_ rest mixed count))) : DPut H b (.str "count") (.int n) (upd H b (.dK (bk la at_ rest mixed n))) := .inl ⟨_, .inr "count", h, rfl, Nat.lt_of_le_of_lt (by decide : 5 ≤ 1000) (by decide), rfl⟩
end
section
variable {P : Program} {w : World} {K : PySem.W.Frag} {mg : Str → Option Value} {base : Heap} {a : Ad}
theorem log_sz {j : Int} (h : Sz 8000 j) : j.natAbs.log2 < 9000 := h.log (by decide) (by decide)
theorem atI_int {α : Type} {xs : List α} {i : Int} {x : α} (h0 : 0 ≤ i) (h1 : i < xs.length) (h : xs[i.toNat]? = some x) : atI xs i = some x := by
  unfold atI
  unfold ixN
  rw [if_pos h0, if_pos h1]
  exact h
theorem seq_with {t u : TS} {D : Ends} {σ : L2.St} {H : Hp} (Pv : L2.St → Hp → Prop) (h1 : ∀ u', (∀ σ H, Pv σ H → u' D σ H) → tSeq t u' D σ H) (h2 : ∀ σ H, Pv σ H → u D σ H) : tSeq t u D σ H := h1 u h2
def sp__law_pick (K : PySem.W.Frag) : Sp := fun vs H Q _ => ∃ (F : Hp) (b : Addr) (many : Int), vs = [.ref b, .int many] ∧ Bag K b F H ∧ Same F H ∧ 0 < many ∧ Sz 8000 many ∧
  ∀ H' (i : Int), Stm (fun x => x = b) F H F H' → Bag K b F H' → 0 ≤ i → i < many → Q (.int i) H'
theorem c__law_pick (T : Txt K mg a) : Cl P w K mg base 1 "_law_pick" P__law_pick (sp__law_pick K) [] :=
  T.d__law_pick.cl sc__law_pick (fun vs H Q E h => by obtain ⟨F, b, many, rfl, _⟩ := h; rfl) fun f cdv A outer s H vs Q E hr h => by
    obtain ⟨F, b, many, rfl, ⟨fb, la, ns, at_, rest, mixed, count, h0, hn, hl, hb⟩, hf, hm, hz, k⟩ := h
    have hz := log_sz hz
    have ok : ∀ (x : Int), 0 ≤ x % many ∧ x % many < many := fun x => ⟨Int.emod_nonneg _ (by omega), Int.emod_lt_of_pos _ hm⟩
    refine ⟨_, ((pss_cons (ps_dput (hu_of hr) (pv 0) pe_str (pe_op op_add (pe_dget (hu_of hr) (pv 0) pe_str (fun _ _ => rfl)) pe_int) rfl)
 (pss_cons (ps_if (pt_cmpR op_gt (pe_dget (hu_of hr) (pv 0) pe_str (fun _ _ => rfl)) pe_int (nomark _))
 (pss_cons (ps_set (i := 2) sc__law_pick.nd rfl (Or.inl rfl) (pe_dget (hu_of hr) (pv 0) pe_str (fun _ _ => rfl)))
 (pss_cons (ps_dput (hu_of hr) (pv 0) pe_str (pe_op op_fdivW (pv 2) (pv 1)) rfl)
 (pss_one (ps_ret (pe_op op_mod (pe_callTy call_int1 (by rfl) T.n_int (by decide +kernel) (pa_cons (pv 2) pa_nil)) (pv 1))))))
 pss_nil)
 (pss_cons (ps_set (i := 3) sc__law_pick.nd rfl (Or.inl rfl) pe_int)
 (pss_cons (ps_if (pt_cmpR op_lt (pe_dget (hu_of hr) (pv 0) pe_str (fun _ _ => rfl)) (pe_callB call_len_seq (by rfl) T.n_len (by decide +kernel) (pa_cons (pe_dget (hu_of hr) (pv 0) pe_str (fun _ _ => rfl)) pa_nil)) (nomark _))
 (pss_cons (ps_set (i := 3) sc__law_pick.nd rfl (Or.inl rfl) (pe_ix ix_list (pe_dget (hu_of hr) (pv 0) pe_str (fun _ _ => rfl)) (pe_dget (hu_of hr) (pv 0) pe_str (fun _ _ => rfl)) (fun _ _ => rfl)))
 (pss_cons (ps_dput (hu_of hr) (pv 0) pe_str (pe_op op_add (pe_dget (hu_of hr) (pv 0) pe_str (fun _ _ => rfl)) pe_int) rfl)
 (pss_one (ps_if (pt_cmpR op_ge (pv 3) (pe_op op_pow pe_int pe_int) (nomark _))
 (pss_cons (ps_dput (hu_of hr) (pv 0) pe_str (pe_op op_fdivW (pv 3) (pv 1)) rfl)
 (pss_one (ps_ret (pe_op op_mod (pe_callTy call_int1 (by rfl) T.n_int (by decide +kernel) (pa_cons (pv 3) pa_nil)) (pv 1)))))
 pss_nil))))
 pss_nil)
 (pss_cons (ps_set (i := 2) sc__law_pick.nd rfl (Or.inl rfl) (pe_op op_mod (pe_callTy call_int1 (by rfl) T.n_int (by decide +kernel) (pa_cons (pe_op op_add (pe_op op_add (pe_op op_mul (pv 3) pe_int) (pe_op op_mul (pe_dget (hu_of hr) (pv 0) pe_str (fun _ _ => rfl)) pe_int)) (pe_op op_mul (pe_dget (hu_of hr) (pv 0) pe_str (fun _ _ => rfl)) pe_int)) pa_nil)) pe_int))
 (pss_cons (ps_set (i := 2) sc__law_pick.nd rfl (Or.inl rfl) (pe_op op_mod (pe_callTy call_int1 (by rfl) T.n_int (by decide +kernel) (pa_cons (pe_op op_add (pe_op op_mul (pv 2) pe_int) pe_int) pa_nil)) pe_int))
 (pss_cons (ps_dput (hu_of hr) (pv 0) pe_str (pe_op op_mod (pe_callTy call_int1 (by rfl) T.n_int (by decide +kernel) (pa_cons (pv 2) pa_nil)) pe_int) rfl)
 (pss_one (ps_ret (pe_op op_mod (pe_callTy call_int1 (by rfl) T.n_int (by decide +kernel) (pa_cons (pe_op op_fdiv (pv 2) pe_int) pa_nil)) (pv 1)))))))))))), ?_⟩
    refine ⟨_, rfl, b, _, rfl, dg_n hb, _, _, rfl, rfl, _, rfl, b, _, rfl, dp_n hb, ?_⟩
    have s1 : Stm (fun x => x = b) F H F (upd H b (.dK (bk la at_ rest mixed (count + 1)))) := Stm.touch (Stm.refl hf) rfl fb
    generalize hH1 : upd H b (.dK (bk la at_ rest mixed (count + 1))) = H1 at s1
    have hb1 : H1 b = some (.dK (bk la at_ rest mixed (count + 1))) := by rw [← hH1]; exact upd_same
    refine ⟨_, rfl, b, _, rfl, dg_r hb1, _, _, rfl, rfl, _, rfl, ?_⟩
    refine ite2 (fun e => ?_) (fun e => ?_)
    · refine ⟨_, rfl, b, _, rfl, dg_r hb1, ?_⟩
      refine ⟨_, rfl, _, rfl, _, _, rfl, rfl, ⟨hm, hz⟩, _, rfl, b, _, rfl, dp_r hb1, ?_⟩
      refine ⟨_, rfl, .inl ⟨_, rfl, _, rfl, _, _, rfl, rfl, hm, ?_⟩⟩
      exact k _ _ (s1.touch rfl fb) ⟨fb, la, ns, at_, _, mixed, _, h0, hn, hl, upd_same⟩ (ok _).1 (ok _).2
    · refine seq_with (fun σ2 H2 => σ2 = L2.start N__law_pick [.ref b, .int many] ∧ H1 = H2) (fun u hu => hu _ _ ⟨rfl, rfl⟩) ?_
      rintro _ _ ⟨rfl, rfl⟩
      refine seq_with (fun σ2 H2 => σ2 = [some (.ref b), some (.int many), none, some (.int 0)] ∧ H1 = H2) (fun u hu => hu _ _ ⟨rfl, rfl⟩) ?_
      rintro _ _ ⟨rfl, rfl⟩
      refine seq_with (fun σ2 H2 => ∃ cell at2, σ2 = [some (.ref b), some (.int many), none, some (.int cell)] ∧ Stm (fun x => x = b) F H F H2 ∧ 0 ≤ at2 ∧ H2 b = some (.dK (bk la at2 rest mixed (count + 1)))) (fun u hu => ?_) ?_
      · refine ⟨_, rfl, b, _, rfl, dg_a hb1, _, rfl, b, _, rfl, dg_c hb1, la, _, rfl, .inl (upL s1.fh hl), _, _, rfl, rfl, _, rfl, ?_⟩
        refine ite2 (fun e2 => ?_) (fun e2 => ?_)
        · have lt : at_.toNat < ns.length := by
            have := of_decide_eq_true e2
            rw [List.length_map] at this
            omega
          refine ⟨_, rfl, b, _, rfl, dg_c hb1, _, rfl, b, _, rfl, dg_a hb1, la, _, _, .int ns[at_.toNat], rfl, rfl, upL s1.fh hl, ?_, ?_⟩
          · exact atI_int h0 (by rw [List.length_map]; omega) (by rw [List.getElem?_map, List.getElem?_eq_getElem lt]; rfl)
          refine ⟨_, rfl, b, _, rfl, dg_a hb1, _, _, rfl, rfl, _, rfl, b, _, rfl, dp_a hb1, ?_⟩
          have s2 := s1.touch (p := b) (o := .dK (bk la (at_ + 1) rest mixed (count + 1))) rfl fb
          generalize hH2 : upd _ b (.dK (bk la (at_ + 1) rest mixed (count + 1))) = H2 at s2
          have hb2 : H2 b = some (.dK (bk la (at_ + 1) rest mixed (count + 1))) := by rw [← hH2]; exact upd_same
          refine ⟨_, rfl, _, _, rfl, rfl, ⟨by decide, by decide, by decide⟩, _, _, rfl, rfl, _, rfl, ?_⟩
          refine ite2 (fun e => ?_) (fun e => ?_)
          · refine ⟨_, rfl, _, rfl, _, _, rfl, rfl, ⟨hm, hz⟩, _, rfl, b, _, rfl, dp_r hb2, ?_⟩
            refine ⟨_, rfl, .inl ⟨_, rfl, _, rfl, _, _, rfl, rfl, hm, ?_⟩⟩
            exact k _ _ (s2.touch rfl fb) ⟨fb, la, ns, _, _, mixed, _, by omega, hn, hl, upd_same⟩ (ok _).1 (ok _).2
          · exact hu _ _ ⟨_, _, rfl, s2, by omega, hb2⟩
        · exact hu _ _ ⟨_, _, rfl, s1, h0, hb1⟩
      · rintro _ H2 ⟨cell, at2, rfl, s2, h2, hb2⟩
        have cm : ∀ i j : Int, -(2 ^ 64) < j → j < 2 ^ 64 → CMul i j := fun i j h1 h2 => .inr ⟨h1, h2⟩
        refine ⟨_, rfl, _, _, rfl, rfl, cm _ _ (by decide) (by decide), _, rfl, b, _, rfl, dg_m hb2, _, _, rfl, rfl, cm _ _ (by decide) (by decide), _, _, rfl, rfl, _, rfl, b, _, rfl, dg_n hb2, _, _, rfl, rfl, cm _ _ (by decide) (by decide), _, _, rfl, rfl, .inl ⟨_, rfl, _, _, rfl, rfl, (by decide : (0 : Int) < 2147483647), ?_⟩⟩
        refine ⟨_, rfl, _, _, rfl, rfl, cm _ _ (by decide) (by decide), _, _, rfl, rfl, .inl ⟨_, rfl, _, _, rfl, rfl, (by decide : (0 : Int) < 2147483647), ?_⟩⟩
        refine ⟨_, rfl, .inl ⟨_, rfl, _, _, rfl, rfl, (by decide : (0 : Int) < 1000003), _, rfl, b, _, rfl, dp_m hb2, ?_⟩⟩
        refine ⟨_, rfl, _, _, rfl, rfl, ⟨by decide, by decide⟩, .inl ⟨_, rfl, _, rfl, _, _, rfl, rfl, hm, ?_⟩⟩
        exact k _ _ (s2.touch rfl fb) ⟨fb, la, ns, _, _, _, _, h2, hn, hl, upd_same⟩ (ok _).1 (ok _).2
end
end K52

set_option Elab.async false
set_option linter.all false
set_option maxRecDepth 100000
set_option maxHeartbeats 4000000
namespace K52
open PySem PySem.Spec PyProof.Rows L2 Ew
abbrev Sb (b : Addr) := Stm (fun x => x = b)
section
variable {P : Program} {w : World} {K : PySem.W.Frag} {mg : Str → Option Value} {base : Heap} {a : Ad}
/-- what a choice is made of -/
def Things (K : PySem.W.Frag) (F H : Hp) (b : Addr) (u : V) (xs : List V) : Prop := (∃ p, u = .ref p ∧ SqL K F p xs) ∨ (∃ p, u = .ref p ∧ p ≠ b ∧ H p = some (.lst xs)) ∨ (∃ z : Str, u = .str z ∧ z.length ≤ sizeLine ∧ xs = z.cps.toList.map fun c => V.str ⟨#[c]⟩) ∨ ∃ p, u = .ref p ∧ ∀ F' H', Sb b F H F' H' → SqT K H' p xs
theorem sz_len {n : Nat} (h : n ≤ 1000) : Sz 8000 (n : Int) := by
  unfold Sz
  have : (2 : Nat) ^ 10 ≤ 2 ^ 8000 := Nat.pow_le_pow_right (by decide) (by decide)
  have e : (2 : Nat) ^ 10 = 1024 := by decide
  omega
def sp__law_choice (K : PySem.W.Frag) : Sp := fun vs H Q _ => ∃ (F : Hp) (b : Addr) (u : V) (xs : List V), vs = [.ref b, u] ∧ Things K F H b u xs ∧ xs ≠ [] ∧ xs.length ≤ 1000 ∧ Bag K b F H ∧ Same F H ∧
  ∀ H' x (i : Nat), Sb b F H F H' → Bag K b F H' → xs[i]? = some x → Q x H'
theorem c__law_choice (T : Txt K mg a) : Cl P w K mg base 2 "_law_choice" P__law_choice (sp__law_choice K) [] :=
  T.d__law_choice.cl sc__law_choice (fun vs H Q E h => by obtain ⟨F, b, u, xs, rfl, _⟩ := h; rfl) fun f cdv A outer s H vs Q E hr h => by
    obtain ⟨F, b, u, xs, rfl, ht, h0, hl, hB, hf, k⟩ := h
    refine ⟨_, ((pss_one (ps_ret (pe_ix ix_seq (pv 1) (pe_f (c__law_pick T) (takes_of rfl rfl rfl rfl) hr (by decide) rfl (pa_cons (pv 0) (pa_cons (pe_callB (call_len_seq.or call_len_str) (by rfl) T.n_len (by decide +kernel) (pa_cons (pv 1) pa_nil)) pa_nil))) (fun _ _ => rfl))))), ?_⟩
    have l0 : 0 < xs.length := List.length_pos_iff.mpr h0
    have get : ∀ (i : Int) (h1 : 0 ≤ i) (h2 : i < (xs.length : Int)), atI xs i = some (xs[i.toNat]'((Int.toNat_lt h1).mpr h2)) := fun i h1 h2 => atI_int h1 h2 (List.getElem?_eq_getElem _)
    have fin : ∀ H' (i : Int) (h1 : 0 ≤ i) (h2 : i < (xs.length : Int)), Sb b F H F H' → Bag K b F H' → Q (xs[i.toNat]'((Int.toNat_lt h1).mpr h2)) H' := fun H' i h1 h2 s1 B1 => k H' _ i.toNat s1 B1 (List.getElem?_eq_getElem _)
    rcases ht with ⟨p, rfl, hp⟩ | ⟨p, rfl, nb, hp⟩ | ⟨z, rfl, hz, rfl⟩ | ⟨p, rfl, hp⟩
    · refine ⟨_, rfl, _, rfl, _, rfl, .inl ⟨p, xs, rfl, .inl (upL hf hp), F, b, _, rfl, hB, hf, by omega, sz_len hl, fun H' i s1 B1 h1 h2 => ?_⟩⟩
      exact .inl ⟨p, xs, i, _, rfl, rfl, upL s1.fh hp, get i h1 h2, fin H' i h1 h2 s1 B1⟩
    · refine ⟨_, rfl, _, rfl, _, rfl, .inl ⟨p, xs, rfl, .inl (SqL.of hp), F, b, _, rfl, hB, hf, by omega, sz_len hl, fun H' i s1 B1 h1 h2 => ?_⟩⟩
      exact .inl ⟨p, xs, i, _, rfl, rfl, SqL.of (s1.hh p _ nb hp), get i h1 h2, fin H' i h1 h2 s1 B1⟩
    · have zl : z.length = z.cps.size := rfl
      have xl : (z.cps.toList.map fun c => V.str ⟨#[c]⟩).length = z.cps.size := by rw [List.length_map, Array.length_toList]
      rw [xl] at l0 hl
      refine ⟨_, rfl, _, rfl, _, rfl, .inr ⟨z, rfl, hz, F, b, _, rfl, hB, hf, by rw [zl]; omega, sz_len (by rw [zl]; exact hl), fun H' i s1 B1 h1 h2 => ?_⟩⟩
      rw [zl] at h2
      have lt : i.toNat < z.cps.toList.length := by rw [Array.length_toList]; omega
      refine .inr (.inr ⟨z, i, z.cps.toList[i.toNat]'lt, rfl, rfl, hz, atI_int h1 (by rw [Array.length_toList]; exact h2) (List.getElem?_eq_getElem _), ?_⟩)
      have := fin H' i h1 (by rw [xl]; exact h2) s1 B1
      rw [List.getElem_map] at this
      exact this
    · refine ⟨_, rfl, _, rfl, _, rfl, .inl ⟨p, xs, rfl, .inr (hp F H (Stm.refl hf)), F, b, _, rfl, hB, hf, by omega, sz_len hl, fun H' i s1 B1 h1 h2 => ?_⟩⟩
      exact .inr (.inl ⟨p, xs, i, _, rfl, rfl, hp F H' s1, get i h1 h2, fin H' i h1 h2 s1 B1⟩)
theorem c__law_integer (T : Txt K mg a) : Cl P w K mg base 1 "_law_integer" P__law_integer (sp_is_integer K) [] :=
  T.d__law_integer.cl sc__law_integer (fun vs H Q E h => by obtain ⟨i, rfl, _⟩ := h; rfl) fun f cdv A outer s H vs Q E hr h => by
    obtain ⟨v, rfl, h⟩ := h
    refine ⟨_, ((pss_one (ps_ret (pe_and (pe_callB call_isi (by rfl) T.n_isinstance (by decide +kernel) (pa_cons (pv 0) (pa_cons (pe_bltn (v := .ty "int") (by rfl) T.n_int (by decide +kernel) rfl) pa_nil))) (pe_one (pe_not (pe_callB call_isi (by rfl) T.n_isinstance (by decide +kernel) (pa_cons (pv 0) (pa_cons (pe_bltn (v := .ty "bool") (by rfl) T.n_bool (by decide +kernel) rfl) pa_nil))))))))), ?_⟩
    rcases h with ⟨i, rfl, k⟩ | ⟨⟨b, rfl⟩ | ⟨t, ht, hk⟩, k⟩
    · refine ⟨_, rfl, _, _, _, _, true, rfl, .ty _, .base (.int _), kit_ty (by decide +kernel), true, rfl, iteT ?_⟩
      exact ⟨_, rfl, _, _, _, _, false, rfl, .ty _, .base (.int _), kit_ty (by decide +kernel), false, rfl, k⟩
    · refine ⟨_, rfl, _, _, _, _, true, rfl, .ty _, .base (.bl _), kit_ty (by decide +kernel), true, rfl, iteT ?_⟩
      exact ⟨_, rfl, _, _, _, _, true, rfl, .ty _, .base (.bl _), kit_ty (by decide +kernel), true, rfl, k⟩
    · exact ⟨_, rfl, _, _, _, _, false, rfl, .ty _, ht, hk, false, rfl, iteF k⟩
end
section
variable {K : PySem.W.Frag} {b p : Addr} {F H F' H' F2 H2 : Hp} {o : HO}
theorem newB (s : Sb b F H F' H') (B : Bag K b F' H') (hp : H' p = none) : Sb b F H (upd F' p o) (upd H' p o) ∧ Bag K b (upd F' p o) (upd H' p o) := by
  have nb : ¬ p = b := fun z => (memB K b).there B z hp
  have h0 : H p = none := s.fresh (fun x z => (memB K b).there B z) hp
  refine ⟨s.new hp h0, (memB K b).grow ((memB K b).put B nb) (same_new (s.fh.free hp)) fun x z => ?_⟩
  rw [upd_ne (fun q => nb (by rw [← q]; exact z))]
  exact (memB K b).off B z
theorem seqB (s : Sb b F H F' H') (B : Bag K b F' H') (s2 : Sb b F' H' F2 H2) : Sb b F H F2 H2 := s.then (memB K b) B s2
theorem pureB (s : Sb b F H F' H') (B : Bag K b F' H') (s2 : Stp F' H' F2 H2) : Sb b F H F2 H2 ∧ Bag K b F2 H2 := by
  refine ⟨seqB s B s2.any, ?_⟩
  obtain ⟨h, la, ns, at_, rest, mixed, count, h1, h2, h3, h4⟩ := B
  exact ⟨s2.nw b h (by rw [h4]; exact fun q => nomatch q), la, ns, at_, rest, mixed, count, h1, h2, upL s2.ff h3, s2.same b _ h4⟩
end
theorem sz_of {b : Nat} {n : Int} (k : Nat) (h : n.natAbs < 2 ^ k) (hk : k ≤ b) : Sz b n := Nat.lt_of_lt_of_le h (Nat.pow_le_pow_right (by decide) hk)
end K52

set_option Elab.async false
set_option linter.all false
set_option maxRecDepth 100000
set_option maxHeartbeats 4000000
namespace K52
open PySem PySem.Spec PyProof.Rows L2 Ew
open SX (S)
def wordL : List (List Nat) := (["days", "base", "unit", "device", "feature", "role", "job", "procedure", "takes", "uses", "read", "by", "let", "be", "tell", "in", "judge", "good", "bad", "choose", "passed", "failed", "open", "repeat", "leave", "call", "stop", "end", "size", "offset", "news", "cert", "stand", "jolt", "edition", "strike", "told", "within", "sum", "product", "quotient", "card", "spot", "row", "ground", "nobody"] : List String).map fun x => x.toList.map Char.toNat
theorem e32 : (" " : Str) = S [32] := by decide +kernel
theorem e0 : ("" : Str) = S [] := by decide +kernel
/-- a row of texts -/
def tsL (ns : List (List Nat)) : List V := ns.map fun l => V.str (S l)
theorem inV_ts (n : List Nat) (ns : List (List Nat)) : inV (.str (S n)) (tsL ns) = decide (n ∈ ns) := by
  unfold inV tsL
  rw [List.any_map]
  induction ns with
  | nil => rfl
  | cons m r ih =>
    rw [List.any_cons, ih]
    show (S m == S n || _) = _
    rw [SX.S_beq_eq]
    by_cases h : m = n
    · subst h; simp
    · have h' : ¬ n = m := fun z => h z.symm
      simp [h, h']
theorem flat_ts (ns : List (List Nat)) : (tsL ns).all flatV = true := by
  unfold tsL
  rw [List.all_map, List.all_eq_true]
  intro _ _
  rfl
theorem join_flat : ∀ l : List (List Nat), TL.joinL [] l = l.flatten
  | [] => rfl
  | [p] => by simp [TL.joinL]
  | p :: q :: r => by
    show p ++ ([] ++ TL.joinL [] (q :: r)) = _
    rw [join_flat (q :: r)]
    simp
def Lt (n : List Nat) : Prop := ∀ c ∈ n, 97 ≤ c ∧ c ≤ 122
/-! ### names drawn -/
structure Nm (n : List Nat) : Prop where
  lt : Lt n
  ne : n ≠ []
  le : n.length ≤ 12
  nw : n ∉ wordL
def Nams (ns : List (List Nat)) : Prop := ns.Nodup ∧ ∀ n ∈ ns, Nm n
def alt (d : List Nat) (k s : Nat) : List Nat := d.take 2 ++ List.replicate (s + 1) 122 ++ [97 + k] ++ [97]
def nth (d : List Nat) (k : Nat) : Nat → List Nat
  | 0 => d
  | s + 1 => alt d k s
def Al6 (n : List Nat) (k : Nat) : Prop := n.length ≤ 6 ∨ ∃ p, n = p ++ [97 + k] ++ [97]
structure Nm8 (n : List Nat) : Prop where
  lt : Lt n
  ne : n ≠ []
  le : n.length ≤ 8
theorem alt_len (d : List Nat) (k s : Nat) : (alt d k s).length = (d.take 2).length + (s + 3) := by
  unfold alt
  simp
theorem alt_lt {d : List Nat} (h : Lt d) {k : Nat} (hk : k < 26) (s : Nat) : Lt (alt d k s) := by
  unfold alt
  intro c hc
  simp only [List.mem_append, List.mem_singleton, List.mem_replicate] at hc
  rcases hc with ((hc | hc) | hc) | hc
  · exact h c (List.mem_of_mem_take hc)
  · omega
  · omega
  · omega
theorem alt_nw (d : List Nat) (k s : Nat) : alt d k s ∉ wordL := by
  have key : ∀ x ∈ wordL, x.getLast? ≠ some 97 := by decide +kernel
  intro h
  refine key _ h ?_
  unfold alt
  rw [List.getLast?_append]
  rfl
theorem nth_nm {d : List Nat} (h : Lt d) (h0 : d ≠ []) (h6 : d.length ≤ 6) {k : Nat} (hk : k < 26) {i : Nat} (hi : i ≤ 4) : Nm8 (nth d k i) ∧ Al6 (nth d k i) k := by
  cases i with
  | zero => exact ⟨⟨h, h0, by show d.length ≤ 8; omega⟩, .inl h6⟩
  | succ s =>
    have hl := alt_len d k s
    have : (d.take 2).length ≤ 2 := by rw [List.length_take]; omega
    refine ⟨⟨alt_lt h hk s, ?_, by show (alt d k s).length ≤ 8; omega⟩, .inr ⟨_, rfl⟩⟩
    intro z
    have z : alt d k s = [] := z
    rw [z] at hl
    simp at hl
/-- the fifth name is new -/
theorem fifth {d : List Nat} (h0 : d ≠ []) {k : Nat} {ns : List (List Nat)} (hn : ∀ (i : Nat) n, ns[i]? = some n → Al6 n i) (hk : ns.length = k) : nth d k 4 ∉ wordL ++ ns := by
  intro h
  rcases List.mem_append.mp h with h | h
  · exact alt_nw d k 3 h
  · obtain ⟨i, hi⟩ := List.getElem?_of_mem h
    have lt : i < ns.length := (List.getElem?_eq_some_iff.mp hi).1
    rcases hn i _ hi with q | ⟨p, q⟩
    · have q : (alt d k 3).length ≤ 6 := q
      rw [alt_len] at q
      have : 0 < d.length := List.length_pos_iff.mpr h0
      rw [List.length_take] at q
      omega
    · have q : alt d k 3 = p ++ [97 + i] ++ [97] := q
      unfold alt at q
      have q2 := List.append_inj' q rfl
      have q3 := List.append_inj' q2.1 rfl
      have := q3.2
      simp at this
      omega
theorem letter_at : ∀ n : Fin 26, atI ("abcdefghijklmnopqrstuvwxyz" : Str).cps.toList ((n.val : Nat) : Int) = some (97 + n.val) := by decide +kernel
theorem letter_i {i : Int} (h0 : 0 ≤ i) (h1 : i < 26) : atI ("abcdefghijklmnopqrstuvwxyz" : Str).cps.toList i = some (97 + i.toNat) := by
  have := letter_at ⟨i.toNat, by omega⟩
  have e : ((i.toNat : Nat) : Int) = i := by omega
  dsimp only at this
  rw [e] at this
  exact this
theorem cut_from (xs : List V) {i : Nat} (h : i ≤ xs.length) : cutV xs (some (i : Int)) none = xs.drop i := by
  have e1 : HT.sIx xs.length 0 (some (i : Int)) = i := by rw [HT.sIx_nat]; omega
  have e2 : HT.sIx xs.length xs.length none = xs.length := rfl
  unfold cutV
  rw [e1, e2]
  exact List.take_of_length_le (by rw [List.length_drop]; omega)
def wl : List Nat := TL.joinL [32] wordL
theorem words_txt : (("days base unit device feature role job procedure takes uses read by let be tell in judge good bad choose " : Str) ++ "passed failed open repeat leave call stop end size offset news cert stand jolt edition strike told ") ++ "within sum product quotient card spot row ground nobody" = S wl := by decide +kernel
theorem words_split : Txt.split (S wl) (S [32]) = wordL.map S := by
  rw [SX.split_S (by simp) (by simp)]
  unfold wl
  rw [SX.spl_join (by decide) (by decide +kernel)]
section
variable {P : Program} {w : World} {K : PySem.W.Frag} {mg : Str → Option Value} {base : Heap} {a : Ad}
def sp__law_words_of : Sp := fun vs H Q _ => vs = [] ∧ ∀ p, H p = none → Q (.ref p) (upd H p (.lst (tsL wordL)))
theorem c__law_words_of (T : Txt K mg a) : Cl P w K mg base 1 "_law_words_of" P__law_words_of sp__law_words_of [] :=
  T.d__law_words_of.cl sc__law_words_of (fun vs H Q E h => by obtain ⟨rfl, _⟩ := h; rfl) fun f cdv A outer s H vs Q E hr h => by
    obtain ⟨rfl, k⟩ := h
    refine ⟨_, ((pss_cons (ps_set (i := 0) sc__law_words_of.nd rfl (Or.inl rfl) pe_str)
 (pss_cons (ps_set (i := 0) sc__law_words_of.nd rfl (Or.inl rfl) (pe_op op_add_str (pv 0) pe_str))
 (pss_one (ps_ret (pe_m1 PySem.F.slot_str_split PySem.F.type_str_split mt_split (pe_op op_add_str (pv 0) pe_str) pe_str)))))), ?_⟩
    refine ⟨_, rfl, _, _, rfl, rfl, by decide +kernel, _, rfl, _, _, rfl, rfl, by decide +kernel, ⟨_, rfl⟩, _, _, rfl, rfl, by decide +kernel, by decide +kernel, fun p hp => ?_⟩
    rw [words_txt, e32, words_split, List.map_map]
    exact k p hp
def sp__law_letters_of (K : PySem.W.Frag) : Sp := fun vs H Q _ => ∃ (F : Hp) (b : Addr) (many : Int), vs = [.ref b, .int many] ∧ Bag K b F H ∧ Same F H ∧ 0 ≤ many ∧ many ≤ 100 ∧
  ∀ F' H' L, Sb b F H F' H' → Bag K b F' H' → L.length = many.toNat → Lt L → Q (.str (S L)) H'
theorem txts_of : ∀ {ys : List V}, (∀ (j : Nat) y, ys[j]? = some y → ∃ c : Nat, y = V.str (S [c]) ∧ 97 ≤ c ∧ c ≤ 122) → ∃ L : List Nat, ys = (L.map fun c => S [c]).map V.str ∧ Lt L
  | [], _ => ⟨[], rfl, fun c h => by cases h⟩
  | y :: ys, h => by
    obtain ⟨c, rfl, h1⟩ := h 0 y rfl
    obtain ⟨L, rfl, h2⟩ := txts_of fun j z hz => h (j + 1) z hz
    exact ⟨c :: L, rfl, fun x hx => by rcases List.mem_cons.mp hx with rfl | hx; exact h1; exact h2 x hx⟩
theorem join_ones (L : List Nat) : Txt.join "" (L.map fun c => S [c]) = S L := by
  have : (L.map fun c => S [c]) = (L.map fun c => [c]).map S := by rw [List.map_map]; rfl
  rw [this, e0, SX.join_S, join_flat]
  congr 1
  induction L with
  | nil => rfl
  | cons c r ih => simp [ih]
theorem c__law_letters_of (T : Txt K mg a) : Cl P w K mg base 2 "_law_letters_of" P__law_letters_of (sp__law_letters_of K) [] :=
  T.d__law_letters_of.cl sc__law_letters_of (fun vs H Q E h => by obtain ⟨F, b, m, rfl, _⟩ := h; rfl) fun f cdv A outer s H vs Q E hr h => by
    obtain ⟨F, b, many, rfl, hB, hf, m0, m1, k⟩ := h
    refine ⟨_, ((pss_one (ps_ret (pe_m1 PySem.F.slot_str_join PySem.F.type_str_join mt_join pe_str (pe_lc (own := [("_law_k", 2)]) (g := (gName 2)) (by rfl) sc__law_letters_of.nd (pi_range1 (by rfl) T.n_range (pa_cons (pv 1) pa_nil)) (blkOk_by (own := [("_law_k", 2)]) (N := N__law_letters_of) (sc := defScope s__law_letters_of) (by decide +kernel)) (fun _ _ _ _ _ => (pg_name (i := 2) sc__law_letters_of.nd rfl (Or.inl rfl) (hf := .inr rfl))) (fun _ _ _ _ _ => pts_nil) (fun _ _ _ _ _ => (pe_ix (r := rIxS) ix_str pe_str (pe_f (c__law_pick T) takes0 hr (by decide) rfl (pa_cons (pv 0) (pa_cons pe_int pa_nil))) (fun _ _ => rfl)))))))), ?_⟩
    refine ⟨⟨_, rfl⟩, _, rfl, _, rfl, by omega, by omega, fun D hD => ?_⟩
    refine lcM (memB K b) walk_range hf hB hD (fun i _ y => ∃ c : Nat, y = V.str (S [c]) ∧ 97 ≤ c ∧ c ≤ 122) (fun _ _ _ _ _ z => z) (by omega) (fun F' H' e1 e2 => trivial) ?_ ?_
    · rintro j y F2 H2 H'' Kt Kn hi s2 B2 ⟨rfl, rfl⟩ kk
      refine ⟨rfl, lc_yes ⟨_, rfl, F2, b, _, rfl, B2, s2.fh, by decide, sz_of 5 (by decide) (by decide), fun H3 t s3 B3 t0 t1 => ?_⟩⟩
      exact ⟨_, _, _, rfl, rfl, by decide +kernel, letter_i t0 t1, kk _ _ _ s3 B3 ⟨97 + t.toNat, rfl, by omega, by omega⟩⟩
    · intro F2 H2 ys s2 B2 hD' hy hr'
      obtain ⟨L, rfl, hL⟩ := txts_of hr'
      rw [List.length_map, List.length_map] at hy
      refine ⟨_, D, (L.map fun c => S [c]), rfl, rfl, .inl (SqL.of (s2.fh D _ hD')), ?_, ?_⟩
      · have : ((L.map fun c => S [c]).map (·.length)).sum ≤ L.length := by
          clear hD' hr' hy hL
          induction L with
          | nil => simp
          | cons c r ih => rw [List.map_cons, List.map_cons, List.sum_cons, List.length_cons]; show 1 + _ ≤ _; omega
        rw [List.length_map]
        show _ + _ * 0 ≤ _
        omega
      · rw [join_ones]
        exact k F2 H2 L s2 B2 hy hL
end
end K52

set_option Elab.async false
set_option linter.all false
set_option maxRecDepth 100000
set_option maxHeartbeats 4000000
namespace K52
open PySem PySem.Spec PyProof.Rows L2 Ew
open SX (S)
section
variable {P : Program} {w : World} {K : PySem.W.Frag} {mg : Str → Option Value} {base : Heap} {a : Ad}
/-- names so far -/
structure Sof (ns : List (List Nat)) : Prop where
  nd : ns.Nodup
  nm : ∀ n ∈ ns, Nm8 n ∧ n ∉ wordL
  al : ∀ (i : Nat) n, ns[i]? = some n → Al6 n i
theorem Sof.snoc {ns : List (List Nat)} (h : Sof ns) {n : List Nat} (h1 : Nm8 n) (h2 : Al6 n ns.length) (h3 : n ∉ wordL ++ ns) : Sof (ns ++ [n]) := by
  rw [List.mem_append, not_or] at h3
  refine ⟨?_, fun m hm => ?_, fun i m hm => ?_⟩
  · rw [List.nodup_append]
    refine ⟨h.nd, by simp, fun x hx y hy => ?_⟩
    rw [List.mem_singleton] at hy
    subst hy
    exact fun z => h3.2 (z ▸ hx)
  · rcases List.mem_append.mp hm with hm | hm
    · exact h.nm m hm
    · rw [List.mem_singleton] at hm
      subst hm
      exact ⟨h1, h3.1⟩
  · rcases Nat.lt_or_ge i ns.length with hi | hi
    · rw [List.getElem?_append_left hi] at hm
      exact h.al i m hm
    · rw [List.getElem?_append_right hi] at hm
      have e : i - ns.length = 0 := by
        rcases Nat.eq_zero_or_pos (i - ns.length) with h0 | h0
        · exact h0
        · rw [List.getElem?_eq_none (by simp; omega)] at hm; cases hm
      rw [e] at hm
      cases hm
      rw [show i = ns.length by omega]
      exact h2
theorem Sof.nams {ns : List (List Nat)} (h : Sof ns) : Nams ns := ⟨h.nd, fun n hn => by
  obtain ⟨h1, h2⟩ := h.nm n hn
  exact ⟨h1.lt, h1.ne, Nat.le_trans h1.le (by decide), h2⟩⟩
def sp__law_names_of (K : PySem.W.Frag) : Sp := fun vs H Q _ => ∃ (F : Hp) (b : Addr) (many : Int), vs = [.ref b, .int many] ∧ Bag K b F H ∧ Same F H ∧ 0 ≤ many ∧ many ≤ 20 ∧
  ∀ F' H' p ns, Sb b F H F' H' → Bag K b F' H' → F' p = some (.lst (tsL ns)) → ns.length = many.toNat → Nams ns → Q (.ref p) H'
theorem tsL_app (a b : List (List Nat)) : tsL (a ++ b) = tsL a ++ tsL b := by unfold tsL; rw [List.map_append]
theorem tsL_len (a : List (List Nat)) : (tsL a).length = a.length := by simp [tsL]
theorem ez : ("z" : Str) = S [122] := by decide +kernel
theorem wordL_len : wordL.length = 46 := by decide +kernel
theorem c__law_names_of (T : Txt K mg a) : Cl P w K mg base 3 "_law_names_of" P__law_names_of (sp__law_names_of K) [] :=
  T.d__law_names_of.cl sc__law_names_of (fun vs H Q E h => by obtain ⟨F, b, m, rfl, _⟩ := h; rfl) fun f cdv A outer s H vs Q E hr h => by
    obtain ⟨F, b, many, rfl, hB, hf, m0, m1, k⟩ := h
    refine ⟨_, ((pss_cons (ps_set (i := 2) sc__law_names_of.nd rfl (Or.inl rfl) (pe_f0 (c__law_words_of T) hr (by decide) rfl))
 (pss_cons (ps_set (i := 3) sc__law_names_of.nd rfl (Or.inl rfl) pe_str)
 (pss_cons (ps_for (passes_of rfl) rfl (pi_range1 (by rfl) T.n_range (pa_cons (pv 1) pa_nil)) (pg_name (i := 4) sc__law_names_of.nd rfl (Or.inl rfl))
 (pss_cons (ps_set (i := 5) sc__law_names_of.nd rfl (Or.inl rfl) (pe_f (c__law_letters_of T) (takes_of rfl rfl rfl rfl) hr (by decide) rfl (pa_cons (pv 0) (pa_cons (pe_op op_add pe_int (pe_f (c__law_pick T) (takes_of rfl rfl rfl rfl) hr (by decide) rfl (pa_cons (pv 0) (pa_cons pe_int pa_nil)))) pa_nil))))
 (pss_cons (ps_set (i := 6) sc__law_names_of.nd rfl (Or.inl rfl) (pv 5))
 (pss_cons (ps_for (passes_of rfl) rfl (pi_range1 (by rfl) T.n_range (pa_cons pe_int pa_nil)) (pg_name (i := 7) sc__law_names_of.nd rfl (Or.inl rfl))
 (pss_cons (ps_if (pt_cmpR op_notIn_seq (pv 6) (pv 2) (by rfl))
 (pss_one ps_break)
 pss_nil)
 (pss_one (ps_set (i := 6) sc__law_names_of.nd rfl (Or.inl rfl) (pe_op op_add_str (pe_op op_add_str (pe_op op_add_str (pe_slice C8.sl_txt (pv 5) po_none (po_some pe_int)) (pe_op op_repS pe_str (pe_op op_add (pv 7) pe_int))) (pe_ix ix_str (pv 3) (pe_op op_mod (pe_callTy call_int1 (by rfl) T.n_int (by decide +kernel) (pa_cons (pv 4) pa_nil)) pe_int) (fun _ _ => rfl))) (pe_ix ix_str (pv 3) (pe_op op_mod (pe_callTy call_int1 (by rfl) T.n_int (by decide +kernel) (pa_cons (pe_op op_fdiv (pv 4) pe_int) pa_nil)) pe_int) (fun _ _ => rfl)))))))
 (pss_one (ps_expr (pe_bm PySem.F.plainAttrs_list PySem.F.slot_list_append PySem.F.type_list_append mt_append (pv 2) (pa_cons (pv 6) pa_nil))))))))
 (pss_one (ps_ret (pe_slice sl_list (pv 2) (po_some (pe_callB call_len_seq (by rfl) T.n_len (by decide +kernel) (pa_cons (pe_f0 (c__law_words_of T) hr (by decide) rfl) pa_nil))) po_none))))))), ?_⟩
    refine ⟨rfl, fun L hL => ?_⟩
    have nLb : ¬ L = b := fun z => (memB K b).there hB z hL
    have s0 : Sb b F H F (upd H L (.lst (tsL wordL))) := (Stm.refl hf).raw hL hL
    have B0 : Bag K b F (upd H L (.lst (tsL wordL))) := (memB K b).put hB nLb
    have fL : F L = none := hf.free hL
    refine ⟨_, rfl, many, rfl, by omega, by omega, ?_⟩
    refine for_range (lo := 0) (n := many.toNat) (fun i σ' H' => ∃ F' ns c4 c5 c6 c7, σ' = [some (.ref b), some (.int many), some (.ref L), some (.str "abcdefghijklmnopqrstuvwxyz"), c4, c5, c6, c7] ∧ Sb b F H F' H' ∧ Bag K b F' H' ∧ F' L = none ∧ H' L = some (.lst (tsL (wordL ++ ns))) ∧ ns.length = i ∧ Sof ns) ?_ ?_ ?_
    · exact ⟨F, [], none, none, none, none, rfl, s0, B0, fL, by rw [upd_same, List.append_nil], rfl, ⟨by simp, fun n h => by (cases h), fun i n h => by simp at h⟩⟩
    · rintro i _ H1 hi ⟨F1, ns, c4, c5, c6, c7, rfl, s1, B1, f1, h1, hn, sof⟩
      refine ⟨_, rfl, _, rfl, F1, b, _, rfl, B1, s1.fh, by decide, sz_of 3 (by decide) (by decide), fun H2 x s2 B2 x0 x1 => ?_⟩
      refine ⟨_, _, rfl, rfl, F1, b, _, rfl, B2, s2.fh, by omega, by omega, fun F3 H3 d s3 B3 hd hlt => ?_⟩
      have h2 : H2 L = some (.lst (tsL (wordL ++ ns))) := s2.hh L _ nLb h1
      have h3 : H3 L = some (.lst (tsL (wordL ++ ns))) := s3.hh L _ nLb h2
      have f3 : F3 L = none := s3.nw L f1 (by rw [h2]; exact fun z => nomatch z)
      have s3 := seqB s1 B1 (seqB s2 B2 s3)
      have d6 : d.length ≤ 6 := by omega
      have d0 : d ≠ [] := fun z => by rw [z] at hd; simp at hd; omega
      refine ⟨_, rfl, ?_⟩
      refine seq_with (fun σ' H' => ([some (V.ref b), some (.int many), some (.ref L), some (.str "abcdefghijklmnopqrstuvwxyz"), some (.int (0 + (i : Int))), some (.str (S d)), some (.str (S d)), c7] : List (Option V)) = σ' ∧ H3 = H') (fun u hu => hu _ _ ⟨rfl, rfl⟩) ?_
      rintro _ _ ⟨rfl, rfl⟩
      refine seq_with (fun σ' H' => ∃ n c7, ([some (V.ref b), some (.int many), some (.ref L), some (.str "abcdefghijklmnopqrstuvwxyz"), some (.int (0 + (i : Int))), some (.str (S d)), some (.str (S n)), c7] : List (Option V)) = σ' ∧ H3 = H' ∧ n ∉ wordL ++ ns ∧ Nm8 n ∧ Al6 n i) (fun u hu => ?_) ?_
      · refine ⟨9, rfl, by decide, by decide, ?_⟩
        have five : ∀ j, (∀ l, l < j → nth d i l ∈ wordL ++ ns) → j ≤ 4 := fun j hj => by
          rcases Nat.lt_or_ge 4 j with h | h
          · exact absurd (hj 4 h) (fifth d0 sof.al hn)
          · exact h
        refine for_range (lo := 0) (n := 9) (fun j σ' H' => ∃ c7, ([some (V.ref b), some (.int many), some (.ref L), some (.str "abcdefghijklmnopqrstuvwxyz"), some (.int (0 + (i : Int))), some (.str (S d)), some (.str (S (nth d i j))), c7] : List (Option V)) = σ' ∧ H3 = H' ∧ ∀ l, l < j → nth d i l ∈ wordL ++ ns) ?_ ?_ ?_
        · exact ⟨c7, rfl, rfl, fun l hl => absurd hl (Nat.not_lt_zero _)⟩
        · rintro j _ _ hj ⟨c7, rfl, rfl, hl⟩
          refine ⟨_, rfl, _, rfl, L, tsL (wordL ++ ns), rfl, .inl (SqL.of h3), rfl, flat_ts _, _, rfl, ?_⟩
          rw [if_pos rfl, inV_ts]
          have j4 := five j hl
          by_cases hm : nth d i j ∈ wordL ++ ns
          · refine iteN (by rw [decide_eq_true hm]; decide) ?_
            have j3 : j + 1 ≤ 4 := five (j + 1) fun l h => by
              rcases Nat.lt_or_ge l j with q | q
              · exact hl l q
              · rw [show l = j by omega]; exact hm
            have dl : (d.take 2).length ≤ 2 := by rw [List.length_take]; omega
            refine ⟨_, rfl, _, rfl, _, rfl, by rw [SX.S_len, sizeLine_eq]; omega, ?_⟩
            rw [SX.slice_to (by decide), show (2 : Int).toNat = 2 from rfl]
            refine ⟨_, rfl, _, _, rfl, rfl, [122], _, (congrArg V.str ez), rfl, by omega, by omega, by simp, by simp, ?_⟩
            refine ⟨_, _, rfl, rfl, by rw [SX.S_len, SX.S_len, rep_len, sizeLine_eq]; simp; omega, ?_⟩
            refine ⟨_, rfl, _, rfl, .inl ⟨_, rfl, _, _, rfl, rfl, (by decide : (0 : Int) < 26), ?_⟩⟩
            refine ⟨_, _, _, rfl, rfl, by decide +kernel, letter_i (Int.emod_nonneg _ (by decide)) (Int.emod_lt_of_pos _ (by decide)), ?_⟩
            refine ⟨_, _, rfl, rfl, ?_, ?_⟩
            · rw [PySem.Str.length_append, SX.S_len, SX.S_len, rep_len, sizeLine_eq]; show _ + 1 ≤ _; simp; omega
            refine ⟨_, rfl, _, rfl, _, _, rfl, rfl, ⟨by decide, by decide⟩, .inl ⟨_, rfl, _, _, rfl, rfl, (by decide : (0 : Int) < 26), ?_⟩⟩
            refine ⟨_, _, _, rfl, rfl, by decide +kernel, letter_i (Int.emod_nonneg _ (by decide)) (Int.emod_lt_of_pos _ (by decide)), ?_⟩
            refine ⟨_, _, rfl, rfl, ?_, ?_⟩
            · rw [PySem.Str.length_append, PySem.Str.length_append, SX.S_len, SX.S_len, rep_len, sizeLine_eq]; show _ + 1 + 1 ≤ _; simp; omega
            refine ⟨some (.int (0 + (j : Int))), ?_, rfl, fun l h => ?_⟩
            · have e1 : (S (d.take 2) ++ S (rep ((0 + (j : Int)) + 1).toNat [122]) ++ (⟨#[97 + ((0 + (i : Int)) % 26).toNat]⟩ : Str) ++ (⟨#[97 + ((0 + (i : Int)) / 26 % 26).toNat]⟩ : Str)) = S (nth d i (j + 1)) := by
                have x1 : ((0 + (i : Int)) % 26).toNat = i := by omega
                have x2 : ((0 + (i : Int)) / 26 % 26).toNat = 0 := by omega
                have x3 : ((0 + (j : Int)) + 1).toNat = j + 1 := by omega
                rw [x1, x2, x3]
                show S (d.take 2) ++ S (rep (j + 1) [122]) ++ S [97 + i] ++ S [97] = S (alt d i j)
                rw [SX.S_cat, SX.S_cat, SX.S_cat]
                have er : rep (j + 1) [122] = List.replicate (j + 1) 122 := List.flatten_replicate_singleton
                rw [er]
                rfl
              exact congrArg (fun x => ([some (V.ref b), some (.int many), some (.ref L), some (.str "abcdefghijklmnopqrstuvwxyz"), some (.int (0 + (i : Int))), some (.str (S d)), some (.str x), some (.int (0 + (j : Int)))] : List (Option V))) e1.symm
            · rcases Nat.lt_or_ge l j with q | q
              · exact hl l q
              · rw [show l = j by omega]; exact hm
          · refine iteY (by rw [decide_eq_false hm]; rfl) ?_
            obtain ⟨g1, g2⟩ := nth_nm hlt d0 d6 (k := i) (by omega) j4
            exact hu _ _ ⟨_, _, rfl, rfl, hm, g1, g2⟩
        · rintro _ _ ⟨c7, rfl, rfl, hl⟩
          exact absurd (five 9 hl) (by decide)
      rintro _ _ ⟨n, c7', rfl, rfl, hm, g1, g2⟩
      refine ⟨_, rfl, .inl ⟨rfl, _, SqL.of h3⟩, _, rfl, L, _, _, rfl, rfl, h3, ?_, ?_⟩
      · rw [tsL_len, List.length_append, sizeLine_eq, wordL_len]; omega
      · refine ⟨F3, ns ++ [n], _, _, _, _, rfl, s3.mut f3 hL, (memB K b).put B3 nLb, f3, ?_, by simp [hn], sof.snoc g1 (by rw [hn]; exact g2) hm⟩
        rw [upd_same, ← List.append_assoc, tsL_app (wordL ++ ns)]
        rfl
    · rintro _ H1 ⟨F1, ns, c4, c5, c6, c7, rfl, s1, B1, f1, h1, hn, sof⟩
      refine ⟨_, rfl, rfl, fun p hp => ?_⟩
      obtain ⟨s2, B2⟩ := newB (o := .lst (tsL wordL)) s1 B1 hp
      have nLp : L ≠ p := fun z => by rw [z, hp] at h1; cases h1
      refine ⟨p, _, rfl, .inl (SqL.of upd_same), _, rfl, L, _, rfl, SqL.of (by rw [upd_ne nLp]; exact h1), fun q hq => ?_⟩
      obtain ⟨s3, B3⟩ := newB (o := .lst (tsL ns)) s2 B2 hq
      have ec : cutV (tsL (wordL ++ ns)) (some ((tsL wordL).length : Int)) none = tsL ns := by
        rw [cut_from _ (by rw [tsL_len, tsL_len, List.length_append]; omega), tsL_app, List.drop_left]
      rw [ec]
      exact k _ _ q ns s3 B3 upd_same hn sof.nams
end
end K52

set_option Elab.async false
set_option linter.all false
set_option maxRecDepth 100000
set_option maxHeartbeats 4000000
namespace K52
open PySem PySem.Spec PyProof.Rows L2 Ew
open SX (S)
/-! ### figures -/
def isFig (c : Nat) : Bool := decide (48 ≤ c) && decide (c ≤ 57)
theorem fig_mem (c : Nat) : decide (c ∈ [48, 49, 50, 51, 52, 53, 54, 55, 56, 57]) = isFig c := by
  unfold isFig
  by_cases h : c ∈ [48, 49, 50, 51, 52, 53, 54, 55, 56, 57]
  · rw [decide_eq_true h]
    simp at h
    rw [decide_eq_true (by omega : 48 ≤ c), decide_eq_true (by omega : c ≤ 57)]
    rfl
  · rw [decide_eq_false h]
    simp at h
    by_cases h1 : 48 ≤ c
    · rw [decide_eq_true h1, decide_eq_false (by omega : ¬ c ≤ 57)]
      rfl
    · rw [decide_eq_false h1]
      rfl
theorem fig_in (c : Nat) : (!(Builtin.Str.occurrences ("0123456789" : Str) ⟨#[c]⟩ 0 ("0123456789" : Str).length 1).isEmpty) = isFig c := by
  have e : ("0123456789" : Str) = S [48, 49, 50, 51, 52, 53, 54, 55, 56, 57] := by decide +kernel
  rw [e]
  exact (SX.in_one _ c).trans (fig_mem c)
def isDig (n : Nat) (L : List Nat) : Bool := decide (1 ≤ L.length) && (decide (L.length ≤ n) && (!decide (L.head? = some 48) && L.all isFig))
theorem S_at {L : List Nat} {i : Nat} {c : Nat} (h : L[i]? = some c) : atI (S L).cps.toList (i : Int) = some c := atI_nat h
section
variable {P : Program} {w : World} {K : PySem.W.Frag} {mg : Str → Option Value} {base : Heap} {a : Ad}
def sp__is_digits : Sp := fun vs H Q _ => ∃ (F : Hp) (L : List Nat) (n : Nat), vs = [.str (S L), .int (n : Nat)] ∧ L.length ≤ 100000 ∧ Pu F H Q fun _ v => v = .bl (isDig n L)
theorem c__is_digits (T : Txt K mg a) : Cl P w K mg base 1 "_is_digits" P__is_digits sp__is_digits [] :=
  T.d__is_digits.cl sc__is_digits (fun vs H Q E h => by obtain ⟨F, L, n, rfl, _⟩ := h; rfl) fun f cdv A outer s H vs Q E hr h => by
    obtain ⟨F, L, n, rfl, hl, hf, k⟩ := h
    have sl : (S L).length = L.length := SX.S_len L
    refine ⟨_, ((pss_cons (ps_if (PW.pt (pw_or (pt_not (pt_chain op_le op_le pe_int (pe_callB call_len_str (by rfl) T.n_len (by decide +kernel) (pa_cons (pv 0) pa_nil)) (pv 1))) (pw_or1 (pt_cmpR op_eq (pe_ix ix_str (pv 0) pe_int (fun _ _ => rfl)) pe_str (nomark _)))))
 (pss_one (ps_ret pe_bl))
 pss_nil)
 (pss_one (ps_ret (pe_callB (cr_all rfl) (by rfl) T.n_all (by decide +kernel) (pa_cons (pe_lc (own := [("sign", 2)]) (g := (gName 2)) (by rfl) sc__is_digits.nd (pi_str (pv 0)) (blkOk_by (own := [("sign", 2)]) (N := N__is_digits) (sc := defScope s__is_digits) (by decide +kernel)) (fun _ _ _ _ _ => (pg_name (i := 2) sc__is_digits.nd rfl (Or.inl rfl) (hf := .inr rfl))) (fun _ _ _ _ _ => pts_nil) (fun _ _ _ _ _ => (pe_cmpR op_in_str (pv 2) (pe_glob (by rfl) T.k_DIGITS_ratios ⟨_, rfl⟩ (v := .str "0123456789")) (by rfl)))) pa_nil)))))), ?_⟩
    refine ⟨_, rfl, S L, rfl, by rw [sl, sizeLine_eq]; omega, _, _, rfl, rfl, _, rfl, ?_⟩
    rw [sl]
    by_cases h1 : 1 ≤ L.length
    · refine iteY (decide_eq_true (by omega)) ⟨_, rfl, _, _, rfl, rfl, _, rfl, ?_⟩
      by_cases h2 : L.length ≤ n
      · rw [decide_eq_true (by omega : (L.length : Int) ≤ (n : Int))]
        refine iteF ?_
        obtain ⟨c, r, rfl⟩ : ∃ c r, L = c :: r := by
          cases L with
          | nil => simp at h1
          | cons c r => exact ⟨c, r, rfl⟩
        refine ⟨_, rfl, S (c :: r), _, c, rfl, rfl, by rw [sl, sizeLine_eq]; omega, S_at (i := 0) rfl, rfl, _, rfl, ?_⟩
        have e0 : decide (V.str ⟨#[c]⟩ = V.str ("0" : Str)) = decide ((c :: r).head? = some 48) := by
          have e : ("0" : Str) = ⟨#[48]⟩ := by decide +kernel
          rw [e]
          by_cases h : c = 48
          · subst h; simp
          · simp [h]
        rw [e0]
        cases e : decide ((c :: r).head? = some 48) with
        | true =>
          refine iteT (k F H _ (.refl hf) ?_)
          unfold isDig
          rw [e]
          simp
        | false =>
          refine iteF ⟨_, rfl, S (c :: r), rfl, fun D hD => ?_⟩
          refine lcM memP walk_str hf trivial hD (fun i _ y => ∃ d, (c :: r)[i]? = some d ∧ y = V.bl (isFig d)) (fun _ _ _ _ _ z => z) (by show (c :: r).length ≤ _; omega) (fun F' H' e1 e2 => trivial) ?_ ?_
          · rintro i x F' H' H'' Kt Kn hi s1 _ ⟨rfl, d, hd, rfl⟩ kk
            refine ⟨rfl, lc_yes ⟨_, rfl, _, _, rfl, rfl, ?_⟩⟩
            rw [fig_in]
            exact kk _ _ _ (.refl s1.fh) trivial ⟨d, by simpa using hd, rfl⟩
          · intro F' H' ys s1 _ hD' hy hr'
            have hy : ys.length = (c :: r).length := hy
            obtain rfl := map_of hy hr'
            refine ⟨D, (c :: r).map isFig, rfl, SqL.of (by rw [List.map_map]; exact s1.fh D _ hD'), ?_⟩
            refine k _ _ _ s1 ?_
            unfold isDig
            rw [e, List.all_map, decide_eq_true h1, decide_eq_true h2]
            rfl
      · rw [decide_eq_false (by omega : ¬ (L.length : Int) ≤ (n : Int))]
        refine iteT (k F H _ (.refl hf) ?_)
        unfold isDig
        rw [decide_eq_false h2]
        simp
    · refine iteN (by rw [decide_eq_false (by omega)]; exact fun z => nomatch z) ⟨_, rfl, ?_⟩
      refine iteT (k F H _ (.refl hf) ?_)
      unfold isDig
      rw [decide_eq_false h1]
      rfl
end
end K52

set_option Elab.async false
set_option linter.all false
set_option maxRecDepth 100000
set_option maxHeartbeats 4000000
namespace K52
open PySem PySem.Spec PyProof.Rows L2 Ew
open SX (S)
theorem S_dec (L M : List Nat) : decide (V.str (S L) = V.str (S M)) = decide (L = M) := by
  by_cases h : L = M
  · subst h; simp
  · rw [decide_eq_false h, decide_eq_false]
    intro z
    exact h (SX.S_inj (V.str.inj z))
def dropNeg : List Nat → List Nat
  | 45 :: r => r
  | l => l
theorem rmp (L : List Nat) : Txt.removeprefix (S L) "-" = S (dropNeg L) := by
  have e : ("-" : Str) = S [45] := by decide +kernel
  rw [e, StrLaws.removeprefix_eq, StrLaws.subAt_eq, SX.S_len, SX.S_len]
  cases L with
  | nil => rfl
  | cons c r =>
    have t : ((S (c :: r)).cps.toList.drop 0).take [45].length = [c] := rfl
    have u : (S [45]).cps.toList = [45] := rfl
    rw [t, u]
    by_cases h : c = 45
    · subst h
      rw [if_pos (by simp)]
      show S (((45 :: r).drop 1).take ((45 :: r).length - 1)) = S r
      simp
    · rw [if_neg (by simp [h])]
      have : dropNeg (c :: r) = c :: r := by
        unfold dropNeg
        split
        · rename_i h2; injection h2 with h3 _; exact absurd h3 h
        · rfl
      rw [this]
def isWh (n : Nat) (L : List Nat) : Bool := decide (L = [48]) || isDig n (dropNeg L)
section
variable {P : Program} {w : World} {K : PySem.W.Frag} {mg : Str → Option Value} {base : Heap} {a : Ad}
theorem c_is_whole (T : Txt K mg a) : Cl P w K mg base 2 "is_whole" P_is_whole (fun vs H Q _ => ∃ (F : Hp) (L : List Nat) (n : Nat), vs = [.str (S L), .int (n : Nat)] ∧ L.length ≤ 100000 ∧ Pu F H Q fun _ v => v = .bl (isWh n L)) [] :=
  T.d_is_whole.cl sc_is_whole (fun vs H Q E h => by obtain ⟨F, L, n, rfl, _⟩ := h; rfl) fun f cdv A outer s H vs Q E hr h => by
    obtain ⟨F, L, n, rfl, hl, hf, k⟩ := h
    refine ⟨_, ((pss_cons (ps_if (pt_cmpR op_eq (pv 0) pe_str (nomark _))
 (pss_one (ps_ret pe_bl))
 pss_nil)
 (pss_one (ps_ret (pe_f (c__is_digits T) (takes_of rfl rfl rfl rfl) hr (by decide) rfl (pa_cons (pe_m1 PySem.F.slot_str_removeprefix PySem.F.type_str_removeprefix mt_removeprefix (pv 0) pe_str) (pa_cons (pv 1) pa_nil))))))), ?_⟩
    refine ⟨_, rfl, rfl, _, rfl, ?_⟩
    have e0 : ("0" : Str) = S [48] := by decide +kernel
    rw [e0, S_dec]
    unfold isWh at k
    cases d : decide (L = [48]) with
    | true => exact iteT (k F H _ (.refl hf) (by rw [d]; rfl))
    | false =>
      refine iteF ⟨_, rfl, ⟨_, rfl⟩, _, _, rfl, rfl, by rw [SX.S_len, sizeLine_eq]; omega, ?_⟩
      rw [rmp]
      have dl : (dropNeg L).length ≤ L.length := by
        unfold dropNeg
        split
        · simp
        · exact Nat.le_refl _
      exact ⟨_, rfl, F, dropNeg L, n, rfl, by omega, hf, fun F1 H1 v s1 e => k F1 H1 v s1 (by rw [e, d]; rfl)⟩
theorem txt_len {i : Int} (h : i.natAbs.log2 < 1920) : (Str.ofString (toString i)).length ≤ 1921 := by
  rw [PySem.ofString_length]
  exact int_text_length_le (k := 1920) (by decide) h
end
open NumText (digitsVal AllDigits)
def wholeVal : List Nat → Int
  | 45 :: r => -((digitsVal r : Nat) : Int)
  | l => ((digitsVal l : Nat) : Int)
theorem dig_parts {L : List Nat} (h : isDig 400 L = true) : 1 ≤ L.length ∧ L.length ≤ 400 ∧ L.head? ≠ some 48 ∧ AllDigits L := by
  unfold isDig at h
  rw [Bool.and_eq_true, Bool.and_eq_true, Bool.and_eq_true] at h
  obtain ⟨h1, h2, h3, h4⟩ := h
  refine ⟨of_decide_eq_true h1, of_decide_eq_true h2, ?_, fun c hc => ?_⟩
  · intro z
    rw [decide_eq_true z] at h3
    cases h3
  · have := List.all_eq_true.mp h4 c hc
    unfold isFig at this
    rw [Bool.and_eq_true] at this
    exact ⟨of_decide_eq_true this.1, of_decide_eq_true this.2⟩
theorem dig_all {L : List Nat} (h : AllDigits L) : L.all (fun c => decide (48 ≤ c) && decide (c ≤ 57)) = true := by
  rw [List.all_eq_true]
  intro c hc
  have := h c hc
  rw [decide_eq_true this.1, decide_eq_true this.2]
  rfl
theorem int_dig {L : List Nat} (h : isDig 400 L = true) : intText? (S L) = some ((digitsVal L : Nat) : Int) := by
  obtain ⟨h1, h2, h3, h4⟩ := dig_parts h
  exact SX.int_S (dig_all h4) (fun z => by rw [z] at h1; simp at h1) (by omega)
theorem wh_len {L : List Nat} (h : isWh 400 L = true) : L.length ≤ 401 := by
  unfold isWh at h
  rw [Bool.or_eq_true] at h
  rcases h with h | h
  · rw [of_decide_eq_true h]; decide
  · obtain ⟨h1, h2, _⟩ := dig_parts h
    unfold dropNeg at h2
    split at h2
    · rw [List.length_cons]; omega
    · omega
theorem int_wh {L : List Nat} (h : isWh 400 L = true) : intText? (S L) = some (wholeVal L) := by
  have hl := wh_len h
  unfold isWh at h
  rw [Bool.or_eq_true] at h
  rcases h with h | h
  · rw [of_decide_eq_true h]
    exact SX.int_S (by decide) (by decide) (by decide)
  · unfold dropNeg at h
    split at h
    · rename_i r
      obtain ⟨h1, h2, h3, h4⟩ := dig_parts h
      exact PySem.intText_neg (x := S (45 :: r)) rfl h4 (fun z => by rw [z] at h1; simp at h1) (by rw [SX.S_len]; omega)
    · rename_i hne
      rw [int_dig h]
      unfold wholeVal
      split
      · rename_i r
        exact absurd rfl (hne r)
      · rfl
end K52

set_option Elab.async false
set_option linter.all false
set_option maxRecDepth 100000
set_option maxHeartbeats 4000000
namespace K52
open PySem PySem.Spec PyProof.Rows L2 Ew
open SX (S)
/-! ### names -/
def isLow (c : Nat) : Bool := decide (97 ≤ c) && decide (c ≤ 122)
theorem low_mem (c : Nat) : decide (c ∈ [97, 98, 99, 100, 101, 102, 103, 104, 105, 106, 107, 108, 109, 110, 111, 112, 113, 114, 115, 116, 117, 118, 119, 120, 121, 122]) = isLow c := by
  unfold isLow
  by_cases h : 97 ≤ c ∧ c ≤ 122
  · rw [decide_eq_true h.1, decide_eq_true h.2, decide_eq_true]
    · rfl
    · simp
      omega
  · rw [decide_eq_false (by simp; omega)]
    by_cases h1 : 97 ≤ c
    · rw [decide_eq_true h1, decide_eq_false (by omega : ¬ c ≤ 122)]
      rfl
    · rw [decide_eq_false h1]
      rfl
theorem low_in (c : Nat) : (!(Builtin.Str.occurrences ("abcdefghijklmnopqrstuvwxyz" : Str) ⟨#[c]⟩ 0 ("abcdefghijklmnopqrstuvwxyz" : Str).length 1).isEmpty) = isLow c := by
  have e : ("abcdefghijklmnopqrstuvwxyz" : Str) = S [97, 98, 99, 100, 101, 102, 103, 104, 105, 106, 107, 108, 109, 110, 111, 112, 113, 114, 115, 116, 117, 118, 119, 120, 121, 122] := by decide +kernel
  rw [e]
  exact (SX.in_one _ c).trans (low_mem c)
def isNm (L : List Nat) : Bool := decide (1 ≤ L.length) && (decide (L.length ≤ 12) && (L.all isLow && !decide (L ∈ wordL)))
section
variable {P : Program} {w : World} {K : PySem.W.Frag} {mg : Str → Option Value} {base : Heap} {a : Ad}
theorem words_at (T : Txt K mg a) (H : Hp) : SqT K H a.aW (tsL wordL) := by
  refine Eq.mp (congrArg (SqT K H a.aW) ?_) (T.t_WORDS H)
  unfold tsL wordL
  rw [List.map_map]
  refine List.map_congr_left fun x hx => ?_
  simp only [List.mem_cons, List.not_mem_nil, or_false] at hx
  repeat (first
    | (rcases hx with rfl | hx; · exact congrArg V.str (by decide +kernel))
    | (subst hx; exact congrArg V.str (by decide +kernel)))
def sp_is_name (K : PySem.W.Frag) : Sp := fun vs H Q _ => ∃ (F : Hp) (v : V), vs = [v] ∧ Same F H ∧ ((∃ L, v = .str (S L) ∧ L.length ≤ 100000 ∧ ∀ F' H', Stp F H F' H' → Q (.bl (isNm L)) H') ∨ ∃ t, TyX K H v t ∧ PySem.W.kitOne K t (.type "str") = some false ∧ Q (.bl false) H)
theorem c_is_name (T : Txt K mg a) : Cl P w K mg base 1 "is_name" P_is_name (sp_is_name K) [] :=
  T.d_is_name.cl sc_is_name (fun vs H Q E h => by obtain ⟨F, v, rfl, _⟩ := h; rfl) fun f cdv A outer s H vs Q E hr h => by
    obtain ⟨F, v, rfl, hf, h⟩ := h
    refine ⟨_, ((pss_cons (ps_if (PW.pt (pw_or (pt_not (pt_val (pe_callB call_isi (by rfl) T.n_isinstance (by decide +kernel) (pa_cons (pv 0) (pa_cons (pe_bltn (v := .ty "str") (by rfl) T.n_str (by decide +kernel) rfl) pa_nil))))) (pw_or1 (pt_not (pt_chain op_le op_le pe_int (pe_callB call_len_str (by rfl) T.n_len (by decide +kernel) (pa_cons (pv 0) pa_nil)) (pe_glob (by rfl) T.k_LONGEST_names ⟨_, rfl⟩ (v := .int 12)))))))
 (pss_one (ps_ret pe_bl))
 pss_nil)
 (pss_one (ps_ret (pe_and (pe_callB (cr_all rfl) (by rfl) T.n_all (by decide +kernel) (pa_cons (pe_lc (own := [("letter", 1)]) (g := (gName 1)) (by rfl) sc_is_name.nd (pi_str (pv 0)) (blkOk_by (own := [("letter", 1)]) (N := N_is_name) (sc := defScope s_is_name) (by decide +kernel)) (fun _ _ _ _ _ => (pg_name (i := 1) sc_is_name.nd rfl (Or.inl rfl) (hf := .inr rfl))) (fun _ _ _ _ _ => pts_nil) (fun _ _ _ _ _ => (pe_cmpR op_in_str (pv 1) (pe_glob (by rfl) T.k_LETTERS ⟨_, rfl⟩ (v := .str "abcdefghijklmnopqrstuvwxyz")) (by rfl)))) pa_nil)) (pe_one (pe_cmpR op_notIn_seq (pv 0) (pe_glob (by rfl) T.k_WORDS rfl (v := .ref a.aW)) (by rfl)))))))), ?_⟩
    rcases h with ⟨L, rfl, hl, k⟩ | ⟨t, ht, hk, k⟩
    · refine ⟨_, rfl, _, _, _, _, true, rfl, .ty _, .base (.str _), kit_ty (by decide +kernel), true, rfl, iteF ?_⟩
      have sl : (S L).length = L.length := SX.S_len L
      refine ⟨_, rfl, S L, rfl, by rw [sl, sizeLine_eq]; omega, _, _, rfl, rfl, _, rfl, ?_⟩
      rw [sl]
      by_cases h1 : 1 ≤ L.length
      · refine iteY (decide_eq_true (by omega)) ⟨_, _, rfl, rfl, _, rfl, ?_⟩
        by_cases h2 : L.length ≤ 12
        · rw [decide_eq_true (by omega : (L.length : Int) ≤ 12)]
          refine iteF ?_
          refine ⟨_, rfl, S L, rfl, fun D hD => ?_⟩
          refine lcM memP walk_str hf trivial hD (fun i _ y => ∃ d, L[i]? = some d ∧ y = V.bl (isLow d)) (fun _ _ _ _ _ z => z) (by show L.length ≤ _; omega) (fun F' H' e1 e2 => trivial) ?_ ?_
          · rintro i x F' H' H'' Kt Kn hi s1 _ ⟨rfl, d, hd, rfl⟩ kk
            refine ⟨rfl, lc_yes ⟨_, rfl, _, _, rfl, rfl, ?_⟩⟩
            rw [low_in]
            exact kk _ _ _ (.refl s1.fh) trivial ⟨d, by simpa using hd, rfl⟩
          · intro F' H' ys s1 _ hD' hy hr'
            have hy : ys.length = L.length := hy
            obtain rfl := map_of hy hr'
            refine ⟨D, L.map isLow, rfl, SqL.of (by rw [List.map_map]; exact s1.fh D _ hD'), ?_⟩
            have hall : (L.map isLow).all id = L.all isLow := by rw [List.all_map]; rfl
            rw [hall]
            refine ⟨_, rfl, ?_⟩
            cases c : L.all isLow with
            | false =>
              refine iteF ?_
              have e : isNm L = false := by unfold isNm; rw [c]; simp
              exact e ▸ k _ _ s1
            | true =>
              refine iteT ⟨_, rfl, a.aW, tsL wordL, rfl, .inr (words_at T H'), rfl, flat_ts _, ?_⟩
              rw [if_pos rfl, inV_ts]
              have e : isNm L = !decide (L ∈ wordL) := by unfold isNm; rw [c, decide_eq_true h1, decide_eq_true h2]; simp
              exact e ▸ k _ _ s1
        · rw [decide_eq_false (by omega : ¬ (L.length : Int) ≤ 12)]
          refine iteT ?_
          have e : isNm L = false := by unfold isNm; rw [decide_eq_false h2]; simp
          exact e ▸ k F H (.refl hf)
      · refine iteN (by rw [decide_eq_false (by omega)]; exact fun z => nomatch z) ⟨_, rfl, ?_⟩
        refine iteT ?_
        have e : isNm L = false := by unfold isNm; rw [decide_eq_false h1]; simp
        exact e ▸ k F H (.refl hf)
    · exact ⟨_, rfl, _, _, _, _, false, rfl, .ty _, ht, hk, false, rfl, iteT k⟩
end
end K52

set_option Elab.async false
set_option linter.all false
set_option maxRecDepth 100000
set_option maxHeartbeats 4000000
namespace K52
open PySem PySem.Spec PyProof.Rows L2 Ew
theorem seq_in {t u : TS} {D : Ends} {σ : L2.St} {H : Hp} (h : t { D with nx := u D } σ H) : tSeq t u D σ H := h
theorem same_mut {H H' : Hp} {d : Addr} {u : HO} (e : Same H H') (h : H d = none) : Same H (upd H' d u) := fun x o z => by
  rw [upd_ne (fun q => by rw [q, h] at z; cases z)]
  exact e x o z
/-! ### spots -/
abbrev Spot := Str × Int × Int
def spV (p : Spot) : List V := [.str p.1, .int p.2.1, .int p.2.2]
def spK (p : Spot) : List Key := [.inr p.1, .inl p.2.1, .inl p.2.2]
theorem spKV (p : Spot) : (spK p).map kV = spV p := rfl
theorem spK_inj {p q : Spot} (h : spK p = spK q) : p = q := by
  obtain ⟨a, b, c⟩ := p
  obtain ⟨a', b', c'⟩ := q
  simp only [spK, List.cons.injEq, Sum.inr.injEq, Sum.inl.injEq, and_true] at h
  obtain ⟨h1, h2, h3⟩ := h
  subst h1 h2 h3
  rfl
/-- a spot stands at v, a tuple of the def's or the law's own -/
def Spt (_ : PySem.W.Frag) (F : Hp) (v : V) (p : Spot) : Prop := ∃ q, v = .ref q ∧ F q = some (.tup (spV p))
theorem Spt.up {K : PySem.W.Frag} {F F' : Hp} {v : V} {p : Spot} (h : Spt K F v p) (e : Same F F') : Spt K F' v p := by obtain ⟨q, h1, h2⟩ := h; exact ⟨q, h1, e _ _ h2⟩
def spD (p : Spot) : PyData := .tuple [.str p.1, .int p.2.1, .int p.2.2]
theorem dp_sp {K : PySem.W.Frag} {H : Hp} {q : Addr} {p : Spot} (h : SqT K H q (spV p)) : Dp K H (.ref q) (spD p) := .tup h (.cons (.str _) (.cons (.int _) (.cons (.int _) .nil)))
theorem Spt.dp {K : PySem.W.Frag} {F : Hp} {v : V} {p : Spot} (h : Spt K F v p) : Dp K F v (spD p) := by obtain ⟨q, rfl, h2⟩ := h; exact dp_sp (SqT.of h2)
theorem eqv_sp (p q : Spot) : PyData.eqv (spD p) (spD q) = decide (p = q) := by
  obtain ⟨a, b, c⟩ := p
  obtain ⟨a', b', c'⟩ := q
  simp only [spD, PyData.eqv, PyData.eqvAll]
  by_cases h1 : a = a' <;> by_cases h2 : b = b' <;> by_cases h3 : c = c' <;> simp [h1, h2, h3]
theorem fl_sp {p : Spot} (h : PyData.strOk p.1 = true) : Fl 1 (spD p) := Fl.tup (.cons (.str h) (.cons .int (.cons .int .nil)))
/-- what kind a thing is of, as far as it is looked at -/
inductive Kd (K : PySem.W.Frag) (F : Hp) : V → String → Prop
  | non : Kd K F .non "NoneType"
  | bl (b : Bool) : Kd K F (.bl b) "bool"
  | int (i : Int) : Kd K F (.int i) "int"
  | str (z : Str) : Kd K F (.str z) "str"
  | lst {p : Addr} {xs : List V} (h : SqL K F p xs) : Kd K F (.ref p) "list"
  | tup {p : Addr} {xs : List V} (h : SqT K F p xs) : Kd K F (.ref p) "tuple"
section
variable {K : PySem.W.Frag} {F F' : Hp} {v : V} {T : String}
theorem Kd.up (h : Kd K F v T) (e : Same F F') : Kd K F' v T := by
  cases h with
  | non => exact .non
  | bl b => exact .bl b
  | int i => exact .int i
  | str z => exact .str z
  | lst h => exact .lst (upL e h)
  | tup h => exact .tup (upT e h)
theorem Kd.ty (h : Kd K F v T) : TyX K F v (.type T) := by
  cases h with
  | non => exact .base .non
  | bl b => exact .base (.bl b)
  | int i => exact .base (.int i)
  | str z => exact .base (.str z)
  | lst h => exact ty_sqL h
  | tup h => exact ty_sqT h
theorem Kd.kit {U : String} (h : Kd K F v T) (hU : U = "str" ∨ U = "tuple") (n : T ≠ U) : PySem.W.kitOne K (.type T) (.type U) = some false := by
  rcases hU with rfl | rfl <;> cases h <;> first
    | exact absurd rfl n
    | exact kit_ty (by decide +kernel)
theorem Kd.noI (h : Kd K F v T) (n : T ≠ "int") : NoI K F v := by
  cases h with
  | bl b => exact .inl ⟨b, rfl⟩
  | int i => exact absurd rfl n
  | non => exact .inr ⟨_, .base .non, kit_ty (by decide +kernel)⟩
  | str z => exact .inr ⟨_, .base (.str z), kit_ty (by decide +kernel)⟩
  | lst h => exact .inr ⟨_, ty_sqL h, kit_ty (by decide +kernel)⟩
  | tup h => exact .inr ⟨_, ty_sqT h, kit_ty (by decide +kernel)⟩
end
/-- a thing that is no spot -/
inductive NotSp (K : PySem.W.Frag) (H : Hp) : V → Prop
  | nt {v : V} {T : String} (k : Kd K H v T) (n : T ≠ "tuple") : NotSp K H v
  | len {p : Addr} {xs : List V} (h : SqT K H p xs) (l : xs.length ≠ 3) : NotSp K H (.ref p)
  | name {p : Addr} {x y z : V} {T : String} (h : SqT K H p [x, y, z]) (k : Kd K H x T) (n : T ≠ "str") : NotSp K H (.ref p)
  | st {p : Addr} {n : Str} {y z : V} {T : String} (h : SqT K H p [.str n, y, z]) (k : Kd K H y T) (n : T ≠ "int") : NotSp K H (.ref p)
  | day {p : Addr} {n : Str} {s : Int} {z : V} {T : String} (h : SqT K H p [.str n, .int s, z]) (k : Kd K H z T) (n : T ≠ "int") : NotSp K H (.ref p)
theorem NotSp.up {K : PySem.W.Frag} {F F' : Hp} {v : V} (h : NotSp K F v) (e : Same F F') : NotSp K F' v := by
  cases h with
  | nt k n => exact .nt (k.up e) n
  | len h l => exact .len (upT e h) l
  | name h k n => exact .name (upT e h) (k.up e) n
  | st h k n => exact .st (upT e h) (k.up e) n
  | day h k n => exact .day (upT e h) (k.up e) n
section
variable {P : Program} {w : World} {K : PySem.W.Frag} {mg : Str → Option Value} {base : Heap} {a : Ad}
def sp_is_spot (K : PySem.W.Frag) : Sp := fun vs H Q _ => ∃ v, vs = [v] ∧ ((∃ q p, v = .ref q ∧ SqT K H q (spV p) ∧ Q (.bl true) H) ∨ (NotSp K H v ∧ Q (.bl false) H))
theorem c_is_spot (T : Txt K mg a) : Cl P w K mg base 2 "is_spot" P_is_spot (sp_is_spot K) [] :=
  T.d_is_spot.cl sc_is_spot (fun vs H Q E h => by obtain ⟨v, rfl, _⟩ := h; rfl) fun f cdv A outer s H vs Q E hr h => by
    obtain ⟨v, rfl, h⟩ := h
    refine ⟨_, ((pss_cons (ps_if (pt_not (pt_val (pe_f (c_is_tuple_of T) (takes_of rfl rfl rfl rfl) hr (by decide) rfl (pa_cons (pv 0) (pa_cons pe_int pa_nil)))))
 (pss_one (ps_ret pe_bl))
 pss_nil)
 (pss_cons (ps_asg (pv 0) (pg_tup rfl (pgs_cons (pg_name (i := 1) sc_is_spot.nd rfl (Or.inl rfl)) (pgs_cons (pg_name (i := 2) sc_is_spot.nd rfl (Or.inl rfl)) (pgs_cons (pg_name (i := 3) sc_is_spot.nd rfl (Or.inl rfl)) pgs_nil)))))
 (pss_one (ps_ret (pe_and (pe_callB call_isi (by rfl) T.n_isinstance (by decide +kernel) (pa_cons (pv 1) (pa_cons (pe_bltn (v := .ty "str") (by rfl) T.n_str (by decide +kernel) rfl) pa_nil))) (pe_and (pe_f (c_is_integer T) (takes_of rfl rfl rfl rfl) hr (by decide) rfl (pa_cons (pv 2) pa_nil)) (pe_one (pe_f (c_is_integer T) (takes_of rfl rfl rfl rfl) hr (by decide) rfl (pa_cons (pv 3) pa_nil)))))))))), ?_⟩
    rcases h with ⟨q, p, rfl, hp, k⟩ | ⟨n, k⟩
    · refine ⟨_, rfl, _, _, rfl, .inl ⟨q, _, rfl, hp, true, rfl, iteF ?_⟩⟩
      refine ⟨_, rfl, q, _, rfl, hp, rfl, _, _, rfl, _, _, rfl, _, _, rfl, rfl, ?_⟩
      refine ⟨_, rfl, _, _, _, _, true, rfl, .ty _, .base (.str _), kit_ty (by decide +kernel), true, rfl, iteT ?_⟩
      exact ⟨_, rfl, _, rfl, .inl ⟨_, rfl, _, rfl, iteT ⟨_, rfl, _, rfl, .inl ⟨_, rfl, k⟩⟩⟩⟩
    cases n with
    | nt kd n => exact ⟨_, rfl, _, _, rfl, .inr ⟨_, kd.ty, kd.kit (.inr rfl) n, _, rfl, iteT k⟩⟩
    | @len p xs hp l =>
      refine ⟨_, rfl, _, _, rfl, .inl ⟨p, xs, rfl, hp, _, rfl, ?_⟩⟩
      rw [decide_eq_false (fun z => l (by have := V.int.inj z; omega))]
      exact iteT k
    | @name p x y z T hp kd n =>
      refine ⟨_, rfl, _, _, rfl, .inl ⟨p, _, rfl, hp, true, rfl, iteF ?_⟩⟩
      refine ⟨_, rfl, p, _, rfl, hp, rfl, _, _, rfl, _, _, rfl, _, _, rfl, rfl, ?_⟩
      exact ⟨_, rfl, _, _, _, _, false, rfl, .ty _, kd.ty, kd.kit (.inl rfl) n, false, rfl, iteF k⟩
    | @st p n y z T hp kd ne =>
      refine ⟨_, rfl, _, _, rfl, .inl ⟨p, _, rfl, hp, true, rfl, iteF ?_⟩⟩
      refine ⟨_, rfl, p, _, rfl, hp, rfl, _, _, rfl, _, _, rfl, _, _, rfl, rfl, ?_⟩
      refine ⟨_, rfl, _, _, _, _, true, rfl, .ty _, .base (.str _), kit_ty (by decide +kernel), true, rfl, iteT ?_⟩
      exact ⟨_, rfl, _, rfl, .inr ⟨kd.noI ne, _, rfl, iteF k⟩⟩
    | @day p n s' z T hp kd ne =>
      refine ⟨_, rfl, _, _, rfl, .inl ⟨p, _, rfl, hp, true, rfl, iteF ?_⟩⟩
      refine ⟨_, rfl, p, _, rfl, hp, rfl, _, _, rfl, _, _, rfl, _, _, rfl, rfl, ?_⟩
      refine ⟨_, rfl, _, _, _, _, true, rfl, .ty _, .base (.str _), kit_ty (by decide +kernel), true, rfl, iteT ?_⟩
      exact ⟨_, rfl, _, rfl, .inl ⟨_, rfl, _, rfl, iteT ⟨_, rfl, _, rfl, .inr ⟨kd.noI ne, k⟩⟩⟩⟩
end
end K52

set_option Elab.async false
set_option linter.all false
set_option maxRecDepth 100000
set_option maxHeartbeats 4000000
namespace Ew
open PySem PySem.Spec PyProof.Rows L2
section
variable {m : Addr → Prop} {I : Hp → Hp → Prop} {F H F' H' F2 H2 : Hp} {J : It} {n : Nat} {G : Hp → Prop} {Y : Nat → Hp → V → Hp → Prop}
/-- a comprehension whose items may have to do with one another: S says what of the row so far -/
theorem lcS (M : Mem m I) (w : Walk J n G Y) {g : TG} {tt : TT} {te : TE} {vs : List Nat} {σ : L2.St} {D : Addr} {Qd : Hp → Prop} (S : List V → Prop) (hf : Same F H) (i0 : I F H) (s0 : S []) (hD : H D = none) (R : Nat → Hp → V → Prop) (hR : ∀ i F F' y, Same F F' → R i F y → R i F' y)
    (hn : n ≤ 1000000) (hG : ∀ F' H', Same F F' → Same F' H' → G H')
    (hs : ∀ i x F' H' H'' acc (Kt : VK) (Kn : Hp → Prop), i < n → Stm m F H F' H' → I F' H' → acc.length = i → S acc → (∀ j y, acc[j]? = some y → R j F' y) → Y i H' x H'' → (∀ y F4 H4, Stm m F' H' F4 H4 → I F4 H4 → R i F4 y → S (acc ++ [y]) → Kt y H4) →
      g x (wipe σ vs) H'' fun σ2 H2 => wipe σ2 vs = wipe σ vs ∧ tt σ2 H2 fun b H3 => if b = true then te σ2 H3 Kt else Kn H3)
    (hd : ∀ F' H' ys, Stm m F H F' H' → I F' H' → H D = none → F' D = some (.lst ys) → ys.length = n → S ys → (∀ j y, ys[j]? = some y → R j F' y) → Qd H') :
    ∃ W : Nat → Nat → Hp → Prop, (∃ k, W 0 k (upd H D (.lst []))) ∧ ∀ i k H, W i k H →
      (J.stop i H ∧ Qd H) ∨ (J.go i H ∧ ∃ Nx : Hp → Prop, (∀ H', Nx H' → ∃ k', k' < k ∧ W (i + 1) k' H') ∧ ∀ x H', J.yld i H x H' → g x (wipe σ vs) H' fun σ2 H2 => wipe σ2 vs = wipe σ vs ∧ tt σ2 H2 fun b H3 =>
        if b = true then te σ2 H3 fun y H4 => ∃ acc, H4 D = some (.lst acc) ∧ acc.length < sizeLine ∧ Nx (upd H4 D (.lst (acc ++ [y]))) else Nx H3) := by
  have nm : ¬ m D := fun z => M.there i0 z hD
  have fD : F D = none := hf.free hD
  refine lc_it w (fun i H' => ∃ F' acc, Stm m F H F' H' ∧ I F' H' ∧ F' D = none ∧ H' D = some (.lst acc) ∧ acc.length = i ∧ S acc ∧ ∀ j y, acc[j]? = some y → R j F' y) ?_ ?_ ?_ ?_
  · exact ⟨F, [], (Stm.refl hf).raw hD hD, M.put i0 nm, fD, upd_same, rfl, s0, fun j y z => by simp at z⟩
  · rintro i H' _ ⟨F', acc, s, _⟩
    exact hG F' H' s.ff s.fh
  · rintro i x H' H'' hi ⟨F', acc, s, iv, f', h', hl, hS, hr⟩ y
    refine hs i x F' H' H'' acc _ _ hi s iv hl hS hr y fun y F4 H4 s4 i4 r4 hS4 => ?_
    have f4 : F4 D = none := s4.nw D f' (by rw [h']; exact fun z => nomatch z)
    have h4 : H4 D = some (.lst acc) := s4.hh D _ nm h'
    refine ⟨acc, h4, by rw [sizeLine_eq]; omega, F4, acc ++ [y], (s.then M iv s4).mut f4 hD, M.put i4 nm, f4, upd_same, by rw [List.length_append, hl]; rfl, hS4, fun j z hz => ?_⟩
    rcases Nat.lt_or_ge j acc.length with hj | hj
    · rw [List.getElem?_append_left hj] at hz
      exact hR j F' F4 z s4.ff (hr j z hz)
    · rw [List.getElem?_append_right hj] at hz
      have e0 : j - acc.length = 0 := by
        rcases Nat.eq_zero_or_pos (j - acc.length) with h0 | h0
        · exact h0
        · rw [List.getElem?_eq_none (by simp; omega)] at hz; cases hz
      rw [e0] at hz
      cases hz
      have ej : j = i := by omega
      rw [ej]
      exact r4
  · rintro H' ⟨F', acc, s, iv, f', h', hl, hS, hr⟩
    refine hd (upd F' D (.lst acc)) H' acc (s.freeze f' hD h') (M.grow iv (same_new f') fun x hx => ?_) hD upd_same hl hS fun j y hy => hR j F' _ y (same_new f') (hr j y hy)
    rw [upd_ne (fun z => nm (by rw [← z]; exact hx))]
    exact M.off iv hx
/-- nothing new needs to be frozen -/
theorem Stm.thaw (hf : Same F H) (s : Stm m F H F' H') : Stm m F H F H' := ⟨.refl F, fun x o e => s.fh x o (s.ff x o e), s.hh, fun _ n _ => n⟩
theorem stp_same (hf : Same F H) (e : Same H H') : Stp F H F H' := ⟨.refl F, hf.trans e, fun x o _ h => e x o h, fun _ n _ => n⟩
/-- all that is new, frozen -/
def fz (F H H' : Hp) : Hp := fun x => if H x = none then H' x else F x
theorem fz_new {x : Addr} (h : H x = none) : fz F H H' x = H' x := if_pos h
theorem fz_old {x : Addr} (h : H x ≠ none) : fz F H H' x = F x := if_neg h
theorem Stm.all (hf : Same F H) (s : Stm m F H F' H') : Stm m F H (fz F H H') H' where
  ff := fun x o e => by rw [fz_old (by rw [hf x o e]; exact fun z => nomatch z)]; exact e
  fh := fun x o e => by
    by_cases h : H x = none
    · rw [fz_new h] at e; exact e
    · rw [fz_old h] at e; exact s.fh x o (s.ff x o e)
  hh := s.hh
  nw := fun x n h => by rw [fz_old h]; exact n
theorem stp_all (hf : Same F H) (e : Same H H') : Stp F H (fz F H H') H' := (stp_same hf e).all hf
end
end Ew

set_option Elab.async false
set_option linter.all false
set_option maxRecDepth 100000
set_option maxHeartbeats 4000000
namespace K52
open PySem PySem.Spec PyProof.Rows L2 Ew
open SX (S)
/-! ### all but the thing at r stays -/
def Sx (r : Addr) (H H' : Hp) : Prop := ∀ x o, x ≠ r → H x = some o → H' x = some o
section
variable {r p x dx C : Addr} {H H' H'' : Hp} {o : HO} {K : PySem.W.Frag} {xs : List V} {fs : List (Str × V)}
theorem Sx.refl : Sx r H H := fun _ _ _ e => e
theorem Sx.of (h : Same H H') : Sx r H H' := fun y u _ e => h y u e
theorem Sx.trans (a : Sx r H H') (b : Sx r H' H'') : Sx r H H'' := fun y u n e => b y u n (a y u n e)
theorem Sx.self : Sx r H (upd H r o) := fun y u n e => by rw [upd_ne n]; exact e
theorem Sx.new (a : Sx r H H') (h : H p = none) : Sx r H (upd H' p o) := fun y u n e => by
  rw [upd_ne (fun z => by rw [z, h] at e; cases e)]
  exact a y u n e
theorem Sx.sqL (a : Sx r H H') (e : H r = some (.ins C dx fs)) (h : SqL K H p xs) : SqL K H' p xs := by
  rcases h with h | h
  · refine .inl ?_
    rcases h with h | ⟨u, h⟩
    · exact .inl (a _ _ (fun z => by rw [z, e] at h; cases h) h)
    · exact .inr ⟨u, a _ _ (fun z => by rw [z, e] at h; cases h) h⟩
  · exact .inr h
theorem Sx.sqT (a : Sx r H H') (e : H r = some (.ins C dx fs)) (h : SqT K H p xs) : SqT K H' p xs := by
  rcases h with h | h
  · refine .inl ?_
    rcases h with h | ⟨u, h⟩
    · exact .inl (a _ _ (fun z => by rw [z, e] at h; cases h) h)
    · exact .inr ⟨u, a _ _ (fun z => by rw [z, e] at h; cases h) h⟩
  · exact .inr h
end
/-! ### the reader -/
abbrev Tk := List Nat
structure TkOk (w : Tk) : Prop where
  le : w.length ≤ 200
  lt : ∀ c ∈ w, c < 1114112
  sp : 32 ∉ w
structure LsOk (ls : List (List Tk)) : Prop where
  n : ls.length ≤ 1000
  ne : ∀ us ∈ ls, us.length ≤ 250
  pos : ∀ us ∈ ls, us ≠ []
  w : ∀ us ∈ ls, ∀ w ∈ us, TkOk w
def wv : Option Tk → V
  | none => .non
  | some w => .str (S w)
def cur (ls : List (List Tk)) (n : Nat) : List Tk := (ls[n]?).getD []
theorem cur_at {ls : List (List Tk)} {n : Nat} {us : List Tk} (h : ls[n]? = some us) : cur ls n = us := by unfold cur; rw [h]; rfl
theorem LsOk.cur {ls : List (List Tk)} (h : LsOk ls) (n : Nat) : (cur ls n).length ≤ 250 ∧ ∀ w ∈ cur ls n, TkOk w := by
  unfold K52.cur
  cases e : ls[n]? with
  | none => exact ⟨Nat.zero_le _, fun w hw => (nomatch hw)⟩
  | some us => exact ⟨h.ne us (List.mem_of_getElem? e), h.w us (List.mem_of_getElem? e)⟩
theorem LsOk.at {ls : List (List Tk)} (h : LsOk ls) {n j : Nat} {w : Tk} (e : (K52.cur ls n)[j]? = some w) : TkOk w := (h.cur n).2 w (List.mem_of_getElem? e)
/-- the reader at r, in line n at word j; what it was given lies in F, which stays -/
structure Rd (K : PySem.W.Frag) (a : Ad) (r : Addr) (ls : List (List Tk)) (n j : Nat) (F H : Hp) : Prop where
  ok : LsOk ls
  fr : F r = none
  fh : Same F H
  ex : ∃ R rows dx, H r = some (.ins a.Reader dx [("_rows", .ref R), ("_line", .int (n : Nat)), ("_word", .int (j : Nat))]) ∧ SqL K F R rows ∧ Paired (fun v us => ∃ W, v = .ref W ∧ SqL K F W (tsL us)) rows ls
section
variable {K : PySem.W.Frag} {a : Ad} {r B : Addr} {ls : List (List Tk)} {n j : Nat} {F H H' : Hp} {o : HO}
theorem Rd.up (h : Rd K a r ls n j F H) (e : Same H H') : Rd K a r ls n j F H' := by
  obtain ⟨ok, fr, fh, R, rows, dx, h1, h2, h3⟩ := h
  exact ⟨ok, fr, fh.trans e, R, rows, dx, e _ _ h1, h2, h3⟩
theorem Rd.get (h : Rd K a r ls n j F H) : ∃ R rows dx, H r = some (.ins a.Reader dx [("_rows", .ref R), ("_line", .int (n : Nat)), ("_word", .int (j : Nat))]) ∧ SqL K H R rows ∧ Paired (fun v us => ∃ W, v = .ref W ∧ SqL K H W (tsL us)) rows ls := by
  obtain ⟨ok, fr, fh, R, rows, dx, h1, h2, h3⟩ := h
  exact ⟨R, rows, dx, h1, upL fh h2, Paired.mapP h3 fun _ _ ⟨W, z1, z2⟩ => ⟨W, z1, upL fh z2⟩⟩
/-- a thing of the caller's own is changed -/
theorem Rd.mut (h : Rd K a r ls n j F H) (hB : F B = none) (ne : B ≠ r) : Rd K a r ls n j F (upd H B o) := by
  obtain ⟨ok, fr, fh, R, rows, dx, h1, h2, h3⟩ := h
  exact ⟨ok, fr, same_mut fh hB, R, rows, dx, by rw [upd_ne (Ne.symm ne)]; exact h1, h2, h3⟩
theorem Rd.put {R dx : Addr} {n' j' : Nat} (h : Rd K a r ls n j F H) (hx : H r = some (.ins a.Reader dx [("_rows", .ref R), ("_line", .int (n : Nat)), ("_word", .int (j : Nat))])) : Rd K a r ls n' j' F (upd H r (.ins a.Reader dx [("_rows", .ref R), ("_line", .int (n' : Nat)), ("_word", .int (j' : Nat))])) := by
  obtain ⟨ok, fr, fh, R2, rows, dx2, h1, h2, h3⟩ := h
  rw [hx] at h1
  cases h1
  exact ⟨ok, fr, same_mut fh fr, R, rows, dx, upd_same, h2, h3⟩
end
section
variable {P : Program} {w : World} {K : PySem.W.Frag} {mg : Str → Option Value} {base : Heap} {a : Ad}
theorem ts_at {us : List Tk} {i : Nat} {w : Tk} (h : us[i]? = some w) : atI (tsL us) (i : Int) = some (.str (S w)) := atI_nat (by unfold tsL; rw [List.getElem?_map, h]; rfl)
def sp_peek (K : PySem.W.Frag) (a : Ad) : Sp := fun vs H Q _ => ∃ (F0 : Hp) (r : Addr) (ls : List (List Tk)) (n j : Nat), vs = [.ref r] ∧ Rd K a r ls n j F0 H ∧ ∀ H', Same H H' → Q (wv (cur ls n)[j]?) H'
theorem m_Reader_peek (T : Txt K mg a) : Mt P w K mg base 1 a.Reader "peek" P_Reader_peek (sp_peek K a) [] := by
  obtain ⟨f, fd, M, F, b⟩ := T.m_peek.ex
  refine ⟨T.cl, f, fd, [], M, fun_ok F sc_Reader_peek (fun vs H Q E h => by obtain ⟨F0, r, us, i, j, rfl, _⟩ := h; rfl) fun f cdv A outer s H vs Q E hr h => ?_, b, .nil⟩
  obtain ⟨F0, r, ls, n, j, rfl, h0, k⟩ := h
  obtain ⟨R, rows, dx, hx, hR, hp⟩ := h0.get
  have ok := h0.ok
  have hl : rows.length = ls.length := Paired.length hp
  refine ⟨_, ((pss_cons (ps_set (i := 1) sc_Reader_peek.nd rfl (Or.inl rfl) (pe_ifExp (pt_cmpR op_lt (pe_fld (pv 0) rfl) (pe_callB call_len_seq (by rfl) T.n_len (by decide +kernel) (pa_cons (pe_fld (pv 0) rfl) pa_nil)) (nomark _)) (pe_ix ix_list (pe_fld (pv 0) rfl) (pe_fld (pv 0) rfl) (fun _ _ => rfl)) (pe_lst pa_nil)))
 (pss_one (ps_ret (pe_ifExp (pt_cmpR op_lt (pe_fld (pv 0) rfl) (pe_callB (call_min2 rfl) (by rfl) T.n_min (by decide +kernel) (pa_cons (pe_callB call_len_seq (by rfl) T.n_len (by decide +kernel) (pa_cons (pv 1) pa_nil)) (pa_cons (pe_glob (by rfl) T.k_LONGEST_lines ⟨_, rfl⟩ (v := .int 300)) pa_nil))) (nomark _)) (pe_ix ix_list (pv 1) (pe_fld (pv 0) rfl) (fun _ _ => rfl)) pe_non))))), ?_⟩
  refine ⟨_, rfl, r, _, dx, _, _, rfl, hx, T.cl, T.rL, rfl, _, rfl, r, _, dx, _, _, rfl, hx, T.cl, T.rR, rfl, R, _, rfl, .inl hR, _, _, rfl, rfl, _, rfl, ?_⟩
  rcases Nat.lt_or_ge n ls.length with h | h
  · refine iteY (decide_eq_true (by omega)) ?_
    have hrow : rows[n]? = some rows[n] := List.getElem?_eq_getElem (by omega)
    obtain ⟨us, hus, W, eW, hW⟩ := paired_get hp hrow
    rw [eW] at hrow
    have ec := cur_at hus
    have le := (ok.cur n).1
    rw [ec] at k le
    refine ⟨_, rfl, r, _, dx, _, _, rfl, hx, T.cl, T.rR, rfl, _, rfl, r, _, dx, _, _, rfl, hx, T.cl, T.rL, rfl, R, _, n, .ref W, rfl, rfl, hR, atI_nat hrow, ?_⟩
    refine ⟨_, rfl, r, _, dx, _, _, rfl, hx, T.cl, T.rW, rfl, _, rfl, W, _, rfl, .inl hW, _, _, rfl, _, _, rfl, rfl, _, rfl, ?_⟩
    have e1 : (if (300 : Int) < ((tsL us).length : Int) then (300 : Int) else ((tsL us).length : Int)) = ((us).length : Int) := by rw [tsL_len, if_neg (by omega)]
    rw [e1]
    rcases Nat.lt_or_ge j (us).length with h2 | h2
    · have e : (us)[j]? = some (us)[j] := List.getElem?_eq_getElem h2
      rw [e] at k
      refine iteY (decide_eq_true (by omega)) ?_
      exact ⟨_, rfl, _, rfl, r, _, dx, _, _, rfl, hx, T.cl, T.rW, rfl, W, _, _, _, rfl, rfl, hW, ts_at e, k _ (.refl H)⟩
    · rw [List.getElem?_eq_none h2] at k
      exact iteN (by rw [decide_eq_false (by omega)]; exact fun z => nomatch z) (k _ (.refl H))
  · refine iteN (by rw [decide_eq_false (by omega)]; exact fun z => nomatch z) ?_
    have ec : cur ls n = [] := by unfold cur; rw [List.getElem?_eq_none h]; rfl
    rw [ec] at k
    refine ⟨Nat.zero_le _, fun W hW => ?_⟩
    have e := same_new (o := .lst []) hW
    have hx := e _ _ hx
    refine ⟨_, rfl, r, _, dx, _, _, rfl, hx, T.cl, T.rW, rfl, _, rfl, W, _, rfl, .inl (SqL.of upd_same), _, _, rfl, _, _, rfl, rfl, _, rfl, ?_⟩
    exact iteN (by show ¬ decide ((j : Int) < _) = true; rw [decide_eq_false (by show ¬ (j : Int) < (0 : Int); omega)]; exact fun z => nomatch z) (k _ e)
end
end K52

set_option Elab.async false
set_option linter.all false
set_option maxRecDepth 100000
set_option maxHeartbeats 4000000
namespace K52
open PySem PySem.Spec PyProof.Rows L2 Ew
open SX (S)
theorem strOk_S {L : List Nat} (h : ∀ c ∈ L, c < 1114112) : PyData.strOk (S L) = true := by
  unfold PyData.strOk
  show L.toArray.all _ = true
  rw [List.all_toArray, List.all_eq_true]
  intro c hc
  exact decide_eq_true (h c hc)
theorem S_inj {m n : List Nat} (h : S m = S n) : m = n := by
  have e := SX.S_beq_eq (a := m) (b := n)
  rw [h, beq_self_eq_true] at e
  exact of_decide_eq_true e.symm
/-! ### a row of words as data -/
def ssD (us : List Tk) : PyData := .list (us.map fun w => .str (S w))
theorem dpAll_ss {K : PySem.W.Frag} {H : Hp} : ∀ us : List Tk, DpAll K H (tsL us) (us.map fun w => .str (S w))
  | [] => .nil
  | u :: us => .cons (.str _) (dpAll_ss us)
theorem dp_ss {K : PySem.W.Frag} {H : Hp} {p : Addr} {us : List Tk} (h : SqL K H p (tsL us)) : Dp K H (.ref p) (ssD us) := .lst h (dpAll_ss us)
theorem eqvAll_ss : ∀ a b : List Tk, PyData.eqvAll (a.map fun w => .str (S w)) (b.map fun w => .str (S w)) = decide (a = b)
  | [], [] => rfl
  | [], y :: b => rfl
  | x :: a, [] => rfl
  | x :: a, y :: b => by
    rw [List.map_cons, List.map_cons, PyData.eqvAll, PyData.eqv, eqvAll_ss a b]
    by_cases h : x = y
    · subst h; by_cases h2 : a = b <;> simp [h2]
    · have : S x ≠ S y := fun z => h (S_inj z)
      simp [h, this]
theorem eqv_ss (a b : List Tk) : PyData.eqv (ssD a) (ssD b) = decide (a = b) := by
  unfold ssD
  rw [PyData.eqv, eqvAll_ss]
theorem fl_ss {us : List Tk} (h : ∀ w ∈ us, ∀ c ∈ w, c < 1114112) : Fl 1 (ssD us) := by
  refine Fl.lst (FlA.all fun d hd => ?_)
  obtain ⟨w, hw, rfl⟩ := List.mem_map.mp hd
  exact .str (strOk_S (h w hw))
/-! ### the next line that is not empty -/
def skp : List (List Tk) → Nat
  | [] => 0
  | us :: r => if us = [[]] then skp r + 1 else 0
def nx (ls : List (List Tk)) (n : Nat) : Nat := n + skp (ls.drop n)
theorem nx_end {ls : List (List Tk)} {n : Nat} (h : ls.length ≤ n) : nx ls n = n := by unfold nx; rw [List.drop_eq_nil_of_le h]; rfl
theorem nx_stop {ls : List (List Tk)} {n : Nat} (h : n < ls.length) (k : cur ls n ≠ [[]]) : nx ls n = n := by
  unfold nx
  rw [List.drop_eq_getElem_cons h]
  have e := cur_at (List.getElem?_eq_getElem h)
  rw [e] at k
  rw [skp, if_neg k]
  rfl
theorem nx_go {ls : List (List Tk)} {n : Nat} (h : n < ls.length) (k : cur ls n = [[]]) : nx ls n = nx ls (n + 1) := by
  unfold nx
  rw [List.drop_eq_getElem_cons h]
  have e := cur_at (List.getElem?_eq_getElem h)
  rw [e] at k
  rw [skp, if_pos k]
  omega
section
variable {P : Program} {w : World} {K : PySem.W.Frag} {mg : Str → Option Value} {base : Heap} {a : Ad}
def sp_take (K : PySem.W.Frag) (a : Ad) : Sp := fun vs H Q _ => ∃ (F0 : Hp) (r : Addr) (ls : List (List Tk)) (n j : Nat), vs = [.ref r] ∧ Rd K a r ls n j F0 H ∧ ∀ H', Sx r H H' → Rd K a r ls n (j + 1) F0 H' → Q (wv (cur ls n)[j]?) H'
theorem m_Reader_take (T : Txt K mg a) : Mt P w K mg base 2 a.Reader "take" P_Reader_take (sp_take K a) [] := by
  obtain ⟨f, fd, M, F, b⟩ := T.m_take.ex
  refine ⟨T.cl, f, fd, [], M, fun_ok F sc_Reader_take (fun vs H Q E h => by obtain ⟨F0, r, us, i, j, rfl, _⟩ := h; rfl) fun f cdv A outer s H vs Q E hr h => ?_, b, .nil⟩
  obtain ⟨F0, r, ls, n, j, rfl, h, k⟩ := h
  obtain ⟨R, rows, dx, hx, _, _⟩ := id h.ex
  refine ⟨_, ((pss_cons (ps_set (i := 1) sc_Reader_take.nd rfl (Or.inl rfl) (pe_mf0 (m_Reader_peek T) hr (by decide) (pv 0)))
 (pss_cons (ps_fldaug (pv 0) pe_int in_add)
 (pss_one (ps_ret (pv 1)))))), ?_⟩
  refine ⟨_, rfl, r, dx, _, rfl, hx, rfl, F0, r, ls, n, j, rfl, h, fun H1 e1 => ?_⟩
  have h1 := h.up e1
  obtain ⟨R, rows, dx, hx, hR, hp⟩ := h1.get
  refine ⟨_, rfl, r, a.Reader, dx, _, _, rfl, hx, T.cl, T.rW, rfl, _, _, rfl, rfl, dx, _, hx, Nat.le_of_ble_eq_true rfl, ?_⟩
  exact ⟨_, rfl, k _ ((Sx.of e1).trans Sx.self) (h1.put hx)⟩
/-- what is told where word j of line n is refused -/
def No (a : Ad) (r : Addr) (n j : Nat) (H : Hp) (E : XK) : Prop := ∀ H' d, Sx r H H' → H' d = some (.xd [("word", .int (j : Nat)), ("line", .int (n : Nat))]) → E (.ref a.BadLine) (some d) H'
theorem No.up {r : Addr} {n j : Nat} {H H' : Hp} {E : XK} (k : No a r n j H E) (s : Sx r H H') : No a r n j H' E := fun H2 d t e => k H2 d (s.trans t) e
def sp_refuse (K : PySem.W.Frag) (a : Ad) : Sp := fun vs H Q E => ∃ (F0 : Hp) (r : Addr) (ls : List (List Tk)) (n j : Nat), vs = [.ref r] ∧ Rd K a r ls n j F0 H ∧ No a r n j H E
theorem m_Reader_refuse (T : Txt K mg a) : Mt P w K mg base 3 a.Reader "refuse" P_Reader_refuse (sp_refuse K a) [] := by
  obtain ⟨f, fd, M, F, b⟩ := T.m_refuse.ex
  refine ⟨T.cl, f, fd, [], M, fun_ok F sc_Reader_refuse (fun vs H Q E h => by obtain ⟨F0, r, us, i, j, rfl, _⟩ := h; rfl) fun f cdv A outer s H vs Q E hr h => ?_, b, .nil⟩
  obtain ⟨F0, r, ls, n, j, rfl, h, k⟩ := h
  obtain ⟨R, rows, dx, hx, _, _⟩ := id h.ex
  refine ⟨_, ((pss_one (ps_raise2 rfl (takes_of rfl rfl rfl rfl) (x_BadLine T) hr (by decide) rfl (pe_fld (pv 0) rfl) (pe_fld (pv 0) rfl)))), ?_⟩
  refine ⟨_, rfl, r, a.Reader, dx, _, _, rfl, hx, T.cl, T.rL, rfl, _, rfl, r, a.Reader, dx, _, _, rfl, hx, T.cl, T.rW, rfl, fun d hd => ?_⟩
  exact k _ d (Sx.of (same_new hd)) upd_same
def sp_head (K : PySem.W.Frag) (a : Ad) : Sp := fun vs H Q _ => ∃ (F0 : Hp) (r : Addr) (ls : List (List Tk)) (n : Nat), vs = [.ref r] ∧ Rd K a r ls n 0 F0 H ∧ ∀ H', Sx r H H' → Rd K a r ls (nx ls n) 0 F0 H' → Q (wv (cur ls (nx ls n))[0]?) H'
theorem m_Reader_head (T : Txt K mg a) : Mt P w K mg base 2 a.Reader "head" P_Reader_head (sp_head K a) [] := by
  obtain ⟨f, fd, M, F, b⟩ := T.m_head.ex
  refine ⟨T.cl, f, fd, [], M, fun_ok F sc_Reader_head (fun vs H Q E h => by obtain ⟨F0, r, us, i, rfl, _⟩ := h; rfl) fun f cdv A outer s H vs Q E hr h => ?_, b, .nil⟩
  obtain ⟨F0, r, ls, n, rfl, h, k⟩ := h
  refine ⟨_, ((pss_cons (ps_while (passes_of rfl) (PW.pt (pw_and (pt_cmpR op_lt (pe_fld (pv 0) rfl) (pe_callB call_len_seq (by rfl) T.n_len (by decide +kernel) (pa_cons (pe_fld (pv 0) rfl) pa_nil)) (nomark _)) (pw_and1 (pt_cmpR (op_eqD hr.units) (pe_ix ix_list (pe_fld (pv 0) rfl) (pe_fld (pv 0) rfl) (fun _ _ => rfl)) (pe_lst (pa_cons pe_str pa_nil)) (nomark _)))))
 (pss_one (ps_fldaug (pv 0) pe_int in_add)))
 (pss_one (ps_ret (pe_mf0 (m_Reader_peek T) hr (by decide) (pv 0)))))), ?_⟩
  refine ⟨fun m σ H' => ∃ n', σ = [some (.ref r)] ∧ Sx r H H' ∧ Rd K a r ls n' 0 F0 H' ∧ nx ls n' = nx ls n ∧ m = ls.length - n', ⟨_, n, rfl, Sx.refl, h, rfl, rfl⟩, ?_⟩
  rintro m _ H1 ⟨n', rfl, s1, h1, en, rfl⟩
  have fin : ∀ H2, Same H1 H2 → nx ls n' = n' → tRet (tMeth a.Reader "peek" (sp_peek K a) [] E0 (tVar 0) tNil) { nx := fun _ H' => Q .non H', rt := Q } [some (.ref r)] H2 := fun H2 e2 en' => by
    have h2 := h1.up e2
    obtain ⟨R, rows, dx, hx, _, _⟩ := id h2.ex
    refine ⟨_, rfl, r, dx, _, rfl, hx, rfl, F0, r, ls, n', 0, rfl, h2, fun H3 e3 => ?_⟩
    have e : n' = nx ls n := en'.symm.trans en
    subst e
    exact k _ (s1.trans (Sx.of (e2.trans e3))) (h2.up e3)
  have ok := h1.ok
  obtain ⟨R, rows, dx, hx, hR, hp⟩ := h1.get
  have hl : rows.length = ls.length := Paired.length hp
  refine ⟨_, rfl, r, _, dx, _, _, rfl, hx, T.cl, T.rL, rfl, _, rfl, r, _, dx, _, _, rfl, hx, T.cl, T.rR, rfl, R, _, rfl, .inl hR, _, _, rfl, rfl, _, rfl, ?_⟩
  rcases Nat.lt_or_ge n' ls.length with hn | hn
  · refine iteY (decide_eq_true (by omega)) ?_
    have hrow : rows[n']? = some rows[n'] := List.getElem?_eq_getElem (by omega)
    obtain ⟨us, hus, W, eW, hW⟩ := paired_get hp hrow
    rw [eW] at hrow
    have ec := cur_at hus
    refine ⟨_, rfl, r, _, dx, _, _, rfl, hx, T.cl, T.rR, rfl, _, rfl, r, _, dx, _, _, rfl, hx, T.cl, T.rL, rfl, R, _, n', .ref W, rfl, rfl, hR, atI_nat hrow, by show 1 ≤ sizeLine; decide, fun z hz => ?_⟩
    have e2 := same_new (o := .lst [.str ""]) hz
    refine ⟨ssD us, ssD [[]], dp_ss (upL e2 hW), ?_, (fl_ss fun w hw => (ok.w us (List.mem_of_getElem? hus) w hw).lt).sh (by decide), (fl_ss (by decide)).sh (by decide), _, rfl, ?_⟩
    · refine dp_ss (SqL.of ?_)
      rw [upd_same]
      have : tsL [[]] = [V.str ""] := by decide +kernel
      rw [this]
    rw [eqv_ss]
    by_cases c : us = [[]]
    · refine iteY (decide_eq_true c) ⟨fun σ' H' => ∃ m', m' < ls.length - n' ∧ ∃ n2, σ' = [some (.ref r)] ∧ Sx r H H' ∧ Rd K a r ls n2 0 F0 H' ∧ nx ls n2 = nx ls n ∧ m' = ls.length - n2, fun _ _ z => z, ?_⟩
      have hx2 := e2 _ _ hx
      refine ⟨_, rfl, r, a.Reader, dx, _, _, rfl, hx2, T.cl, T.rL, rfl, _, _, rfl, rfl, dx, _, hx2, Nat.le_of_ble_eq_true rfl, ?_⟩
      refine ⟨_, by omega, n' + 1, rfl, (s1.trans (Sx.of e2)).trans Sx.self, ?_, ?_, rfl⟩
      · exact (h1.up e2).put hx2
      · rw [← nx_go hn (ec.trans c)]
        exact en
    · refine iteN (by rw [decide_eq_false c]; decide) ?_
      exact fin _ e2 (nx_stop hn (by rw [ec]; exact c))
  · refine iteN (by rw [decide_eq_false (by omega)]; exact fun z => nomatch z) (iteN (fun z => nomatch z) ?_)
    exact fin _ (.refl _) (nx_end hn)
end
end K52

set_option Elab.async false
set_option linter.all false
set_option maxRecDepth 100000
set_option maxHeartbeats 4000000
namespace K52
open PySem PySem.Spec PyProof.Rows L2 Ew
open SX (S)
def has : Option Tk → List Tk → Bool
  | none, _ => false
  | some w, xs => decide (w ∈ xs)
theorem inV_wv (o : Option Tk) (xs : List Tk) : inV (wv o) (tsL xs) = has o xs := by
  cases o with
  | some w => exact inV_ts w xs
  | none =>
    show inV .non (tsL xs) = false
    unfold inV tsL
    rw [List.any_map]
    induction xs with
    | nil => rfl
    | cons x xs ih => rw [List.any_cons, ih]; rfl
theorem flat_wv (o : Option Tk) : flatV (wv o) = true := by cases o <;> rfl
theorem non_ty {K : PySem.W.Frag} {H : Hp} : TyX K H .non (.type "NoneType") := .base .non
theorem wh_400 {z : Tk} (h : isWh 30 z = true) : isWh 400 z = true := by
  unfold isWh at h ⊢
  rw [Bool.or_eq_true] at h ⊢
  refine h.imp id fun h => ?_
  unfold isDig at h ⊢
  rw [Bool.and_eq_true, Bool.and_eq_true] at h ⊢
  refine ⟨h.1, ?_, h.2.2⟩
  have := of_decide_eq_true h.2.1
  exact decide_eq_true (by omega)
section
variable {P : Program} {w : World} {K : PySem.W.Frag} {mg : Str → Option Value} {base : Heap} {a : Ad}
theorem StrM.imp {k : Nat} {C : Addr} {m : Str} {sp sp' : Sp} (c : StrM P w K mg base k C m sp) (h : ∀ vs H Q E, sp' vs H Q E → sp vs H Q E) : StrM P w K mg base k C m sp' := by
  obtain ⟨cl, f, M, F⟩ := c
  exact ⟨cl, f, M, F.imp h⟩
/-! ### one of some words -/
def sp_word (K : PySem.W.Frag) (a : Ad) : Sp := fun vs H Q E => ∃ (F0 : Hp) (r p : Addr) (ls : List (List Tk)) (n j : Nat) (xs : List Tk), vs = [.ref r, .ref p] ∧ SqT K H p (tsL xs) ∧ Rd K a r ls n j F0 H ∧
  (∀ w, (cur ls n)[j]? = some w → w ∈ xs → ∀ H', Sx r H H' → Rd K a r ls n (j + 1) F0 H' → Q (.str (S w)) H') ∧ ((∀ w, (cur ls n)[j]? = some w → w ∉ xs) → No a r n j H E)
def sp_take_word (K : PySem.W.Frag) (a : Ad) : Sp := fun vs H Q E => ∃ (F0 : Hp) (r : Addr) (ls : List (List Tk)) (n j : Nat) (x : Tk), vs = [.ref r, .str (S x)] ∧ Rd K a r ls n j F0 H ∧
  ((cur ls n)[j]? = some x → ∀ H', Sx r H H' → Rd K a r ls n (j + 1) F0 H' → Q (.str (S x)) H') ∧ ((cur ls n)[j]? ≠ some x → No a r n j H E)
theorem m_Reader_take_word (T : Txt K mg a) : StrM P w K mg base 5 a.Reader "take_word" (sp_take_word K a) := by
  refine StrM.imp (T.m_take_word.mt (k := 4) (sp := sp_word K a) T.cl sc_Reader_take_word fun f cdv A outer s H vs Q E hr h => ?_) fun vs H Q E h => ?_
  · obtain ⟨F0, r, p, ls, n, j, xs, rfl, hp, h, k1, k2⟩ := h
    obtain ⟨R, rows, dx, hx, _, _⟩ := id h.ex
    refine ⟨_, ((pss_cons (ps_if (pt_cmpR op_notIn_seq (pe_mf0 (m_Reader_peek T) hr (by decide) (pv 0)) (pv 1) (by rfl))
 (pss_one (ps_expr (pe_mw0 (m_Reader_refuse T) (takes_of rfl rfl rfl rfl) hr (by decide) (pv 0))))
 pss_nil)
 (pss_one (ps_ret (pe_mf0 (m_Reader_take T) hr (by decide) (pv 0)))))), ?_⟩
    refine ⟨_, rfl, r, dx, _, rfl, hx, rfl, F0, r, ls, n, j, rfl, h, fun H1 e1 => ⟨_, rfl, p, _, rfl, .inr (upT e1 hp), flat_wv _, flat_ts _, _, rfl, ?_⟩⟩
    have h1 := h.up e1
    have hx1 := e1 _ _ hx
    rw [if_pos rfl, inV_wv]
    cases e : (cur ls n)[j]? with
    | none =>
      refine iteT ?_
      exact ⟨_, rfl, r, dx, _, rfl, hx1, rfl, F0, r, ls, n, j, rfl, h1, (k2 fun w hw => by rw [e] at hw; cases hw).up (Sx.of e1)⟩
    | some u =>
      by_cases hm : u ∈ xs
      · refine iteN (by show ¬ (!decide (u ∈ xs)) = true; rw [decide_eq_true hm]; decide) ?_
        refine ⟨_, rfl, r, dx, _, rfl, hx1, rfl, F0, r, ls, n, j, rfl, h1, fun H2 s2 h2 => ?_⟩
        rw [e]
        exact k1 u e hm H2 ((Sx.of e1).trans s2) h2
      · refine iteY (by show (!decide (u ∈ xs)) = true; rw [decide_eq_false hm]; rfl) ?_
        exact ⟨_, rfl, r, dx, _, rfl, hx1, rfl, F0, r, ls, n, j, rfl, h1, (k2 fun w hw => by rw [e] at hw; cases hw; exact hm).up (Sx.of e1)⟩
  · obtain ⟨F0, r, ls, n, j, x, rfl, h, k1, k2⟩ := h
    refine ⟨[.ref r], [.str (S x)], rfl, rfl, by show 1 ≤ sizeLine; rw [sizeLine_eq]; decide, fun p hp => ?_⟩
    have e0 := same_new (o := .tup [.str (S x)]) hp
    refine ⟨F0, r, p, ls, n, j, [x], rfl, SqT.of upd_same, h.up e0, fun w hw hm H' s1 h1 => ?_, fun hn => ?_⟩
    · rw [List.mem_singleton] at hm
      subst hm
      exact k1 hw H' ((Sx.of e0).trans s1) h1
    · exact (k2 fun z => hn x z List.mem_cons_self).up (Sx.of e0)
/-! ### a name, or the one word beside -/
def sp_name (K : PySem.W.Frag) (a : Ad) : Sp := fun vs H Q E => ∃ (F0 : Hp) (r p : Addr) (ls : List (List Tk)) (n j : Nat) (x : Tk), vs = [.ref r, .ref p] ∧ SqT K H p (tsL [x]) ∧ Rd K a r ls n j F0 H ∧
  (∀ u, (cur ls n)[j]? = some u → (u = x ∨ isNm u = true) → ∀ H', Sx r H H' → Rd K a r ls n (j + 1) F0 H' → Q (.str (S u)) H') ∧ ((∀ u, (cur ls n)[j]? = some u → ¬ (u = x ∨ isNm u = true)) → No a r n j H E)
def sp_take_name (K : PySem.W.Frag) (a : Ad) : Sp := fun vs H Q E => ∃ (F0 : Hp) (r : Addr) (ls : List (List Tk)) (n j : Nat) (x : Tk), vs = [.ref r, .str (S x)] ∧ Rd K a r ls n j F0 H ∧
  (∀ u, (cur ls n)[j]? = some u → (u = x ∨ isNm u = true) → ∀ H', Sx r H H' → Rd K a r ls n (j + 1) F0 H' → Q (.str (S u)) H') ∧ ((∀ u, (cur ls n)[j]? = some u → ¬ (u = x ∨ isNm u = true)) → No a r n j H E)
theorem m_Reader_take_name (T : Txt K mg a) : StrM P w K mg base 5 a.Reader "take_name" (sp_take_name K a) := by
  refine StrM.imp (T.m_take_name.mt (k := 4) (sp := sp_name K a) T.cl sc_Reader_take_name fun f cdv A outer s H vs Q E hr h => ?_) fun vs H Q E h => ?_
  · obtain ⟨F0, r, p, ls, n, j, x, rfl, hp, h, k1, k2⟩ := h
    obtain ⟨R, rows, dx, hx, _, _⟩ := id h.ex
    refine ⟨_, ((pss_cons (ps_if (PW.pt (pw_and (pt_cmpR op_notIn_seq (pe_mf0 (m_Reader_peek T) hr (by decide) (pv 0)) (pv 1) (by rfl)) (pw_and1 (pt_not (pt_val (pe_f (c_is_name T) (takes_of rfl rfl rfl rfl) hr (by decide) rfl (pa_cons (pe_mf0 (m_Reader_peek T) hr (by decide) (pv 0)) pa_nil)))))))
 (pss_one (ps_expr (pe_mw0 (m_Reader_refuse T) (takes_of rfl rfl rfl rfl) hr (by decide) (pv 0))))
 pss_nil)
 (pss_one (ps_ret (pe_mf0 (m_Reader_take T) hr (by decide) (pv 0)))))), ?_⟩
    refine ⟨_, rfl, r, dx, _, rfl, hx, rfl, F0, r, ls, n, j, rfl, h, fun H1 e1 => ⟨_, rfl, p, _, rfl, .inr (upT e1 hp), flat_wv _, flat_ts _, _, rfl, ?_⟩⟩
    have h1 := h.up e1
    have hx1 := e1 _ _ hx
    rw [if_pos rfl, inV_wv]
    cases e : (cur ls n)[j]? with
    | none =>
      refine iteT ⟨_, rfl, r, dx, _, rfl, hx1, rfl, F0, r, ls, n, j, rfl, h1, fun H2 e2 => ?_⟩
      rw [e]
      refine ⟨H2, .non, rfl, .refl _, .inr ⟨_, non_ty, kit_ty (by decide +kernel), _, rfl, iteT ?_⟩⟩
      exact ⟨_, rfl, r, dx, _, rfl, e2 _ _ hx1, rfl, F0, r, ls, n, j, rfl, h1.up e2, (k2 fun w hw => by rw [e] at hw; cases hw).up (Sx.of (e1.trans e2))⟩
    | some u =>
      by_cases hm : u = x
      · refine iteN (by show ¬ (!decide (u ∈ [x])) = true; rw [decide_eq_true (List.mem_singleton.mpr hm)]; decide) (iteN (fun z => nomatch z) ?_)
        refine ⟨_, rfl, r, dx, _, rfl, hx1, rfl, F0, r, ls, n, j, rfl, h1, fun H2 s2 h2 => ?_⟩
        rw [e]
        exact k1 u e (.inl hm) H2 ((Sx.of e1).trans s2) h2
      · refine iteY (by show (!decide (u ∈ [x])) = true; rw [decide_eq_false (fun z => hm (List.mem_singleton.mp z))]; rfl) ?_
        refine ⟨_, rfl, r, dx, _, rfl, hx1, rfl, F0, r, ls, n, j, rfl, h1, fun H2 e2 => ?_⟩
        rw [e]
        refine ⟨H2, _, rfl, .refl _, .inl ⟨u, rfl, by have := (h.ok.at e).le; omega, fun F1 H3 s3 => ⟨_, rfl, ?_⟩⟩⟩
        have e13 := e1.trans (e2.trans s3.same)
        have h3 := h.up e13
        have hx3 := e13 _ _ hx
        cases c : isNm u with
        | false =>
          refine iteT ?_
          refine ⟨_, rfl, r, dx, _, rfl, hx3, rfl, F0, r, ls, n, j, rfl, h3, (k2 fun v hv z => ?_).up (Sx.of e13)⟩
          rw [e] at hv
          cases hv
          rcases z with z | z
          · exact hm z
          · rw [c] at z; cases z
        | true =>
          refine iteF ?_
          refine ⟨_, rfl, r, dx, _, rfl, hx3, rfl, F0, r, ls, n, j, rfl, h3, fun H4 s4 h4 => ?_⟩
          rw [e]
          exact k1 u e (.inr c) H4 ((Sx.of e13).trans s4) h4
  · obtain ⟨F0, r, ls, n, j, x, rfl, h, k1, k2⟩ := h
    refine ⟨[.ref r], [.str (S x)], rfl, rfl, by show 1 ≤ sizeLine; rw [sizeLine_eq]; decide, fun p hp => ?_⟩
    have e0 := same_new (o := .tup [.str (S x)]) hp
    exact ⟨F0, r, p, ls, n, j, x, rfl, SqT.of upd_same, h.up e0, fun w hw hm H' s1 h1 => k1 w hw hm H' ((Sx.of e0).trans s1) h1, fun hn => (k2 hn).up (Sx.of e0)⟩
/-! ### an integer -/
def sp_take_integer (K : PySem.W.Frag) (a : Ad) : Sp := fun vs H Q E => ∃ (F0 : Hp) (r : Addr) (ls : List (List Tk)) (n j : Nat), vs = [.ref r] ∧ Rd K a r ls n j F0 H ∧
  (∀ z, (cur ls n)[j]? = some z → isWh 30 z = true → ∀ H', Sx r H H' → Rd K a r ls n (j + 1) F0 H' → Q (.int (wholeVal z)) H') ∧ ((∀ z, (cur ls n)[j]? = some z → isWh 30 z = false) → No a r n j H E)
theorem m_Reader_take_integer (T : Txt K mg a) : Mt P w K mg base 4 a.Reader "take_integer" P_Reader_take_integer (sp_take_integer K a) [] := by
  obtain ⟨f, fd, M, F, b⟩ := T.m_take_integer.ex
  refine ⟨T.cl, f, fd, [], M, fun_ok F sc_Reader_take_integer (fun vs H Q E h => by obtain ⟨F0, r, ls, n, j, rfl, _⟩ := h; rfl) fun f cdv A outer s H vs Q E hr h => ?_, b, .nil⟩
  obtain ⟨F0, r, ls, n, j, rfl, h, k1, k2⟩ := h
  obtain ⟨R, rows, dx, hx, _, _⟩ := id h.ex
  refine ⟨_, ((pss_cons (ps_set (i := 1) sc_Reader_take_integer.nd rfl (Or.inl rfl) (pe_mf0 (m_Reader_peek T) hr (by decide) (pv 0)))
 (pss_cons (ps_if (PW.pt (pw_or (pt_cmpR op_isN (pv 1) pe_non (nomark _)) (pw_or1 (pt_not (pt_val (pe_f (c_is_whole T) (takes_of rfl rfl rfl rfl) hr (by decide) rfl (pa_cons (pv 1) (pa_cons (pe_glob (by rfl) T.k_DIGITS_lines ⟨_, rfl⟩ (v := .int 30)) pa_nil))))))))
 (pss_one (ps_expr (pe_mw0 (m_Reader_refuse T) (takes_of rfl rfl rfl rfl) hr (by decide) (pv 0))))
 pss_nil)
 (pss_one (ps_ret (pe_callTy call_int_str (by rfl) T.n_int (by decide +kernel) (pa_cons (pe_mf0 (m_Reader_take T) hr (by decide) (pv 0)) pa_nil))))))), ?_⟩
  refine ⟨_, rfl, r, dx, _, rfl, hx, rfl, F0, r, ls, n, j, rfl, h, fun H1 e1 => ?_⟩
  have hx1 := e1 _ _ hx
  have h1 := h.up e1
  cases e : (cur ls n)[j]? with
  | none =>
    refine ⟨_, rfl, rfl, true, rfl, iteT ?_⟩
    exact ⟨_, rfl, r, dx, _, rfl, hx1, rfl, F0, r, ls, n, j, rfl, h1, (k2 fun w hw => by rw [e] at hw; cases hw).up (Sx.of e1)⟩
  | some u =>
    refine ⟨_, rfl, rfl, false, rfl, iteF ⟨_, rfl, H1, u, 30, rfl, by have := (h.ok.at e).le; omega, .refl _, fun F1 H2 v s2 ev => ⟨_, ev, ?_⟩⟩⟩
    have e12 := e1.trans s2.same
    have h2 := h.up e12
    have hx2 := e12 _ _ hx
    cases c : isWh 30 u with
    | false =>
      refine iteT ⟨_, rfl, r, dx, _, rfl, hx2, rfl, F0, r, ls, n, j, rfl, h2, (k2 fun w hw => ?_).up (Sx.of e12)⟩
      rw [e] at hw
      cases hw
      exact c
    | true =>
      refine iteF ⟨_, rfl, r, dx, _, rfl, hx2, rfl, F0, r, ls, n, j, rfl, h2, fun H3 s3 h3 => ?_⟩
      rw [e]
      exact ⟨_, _, rfl, int_wh (wh_400 c), by rw [SX.S_len]; have := wh_len (wh_400 c); omega, k1 u e c _ ((Sx.of e12).trans s3) h3⟩
/-! ### the end of a line -/
def sp_end_line (K : PySem.W.Frag) (a : Ad) : Sp := fun vs H Q E => ∃ (F0 : Hp) (r : Addr) (ls : List (List Tk)) (n j : Nat), vs = [.ref r] ∧ Rd K a r ls n j F0 H ∧ n < ls.length ∧ ((cur ls n).length ≤ j → ∀ H', Sx r H H' → Rd K a r ls (n + 1) 0 F0 H' → Q .non H') ∧ (j < (cur ls n).length → No a r n j H E)
theorem m_Reader_end_line (T : Txt K mg a) : Mt P w K mg base 4 a.Reader "end_line" P_Reader_end_line (sp_end_line K a) [] := by
  obtain ⟨f, fd, M, F, b⟩ := T.m_end_line.ex
  refine ⟨T.cl, f, fd, [], M, fun_ok F sc_Reader_end_line (fun vs H Q E h => by obtain ⟨F0, r, ls, n, j, rfl, _⟩ := h; rfl) fun f cdv A outer s H vs Q E hr h => ?_, b, .nil⟩
  obtain ⟨F0, r, ls, n, j, rfl, h, hn, k1, k2⟩ := h
  obtain ⟨R, rows, dx, hx, hR, hp⟩ := h.get
  have hl : rows.length = ls.length := Paired.length hp
  have hrow : rows[n]? = some rows[n] := List.getElem?_eq_getElem (by omega)
  obtain ⟨us, hus, W, eW, hW⟩ := paired_get hp hrow
  rw [eW] at hrow
  have ec := cur_at hus
  rw [ec] at k1 k2
  refine ⟨_, ((pss_cons (ps_if (pt_cmpR op_lt (pe_fld (pv 0) rfl) (pe_callB call_len_seq (by rfl) T.n_len (by decide +kernel) (pa_cons (pe_ix ix_list (pe_fld (pv 0) rfl) (pe_fld (pv 0) rfl) (fun _ _ => rfl)) pa_nil)) (nomark _))
 (pss_one (ps_expr (pe_mw0 (m_Reader_refuse T) (takes_of rfl rfl rfl rfl) hr (by decide) (pv 0))))
 pss_nil)
 (pss_cons (ps_fldaug (pv 0) pe_int in_add)
 (pss_one (ps_fld (pv 0) pe_int rfl))))), ?_⟩
  refine ⟨_, rfl, r, _, dx, _, _, rfl, hx, T.cl, T.rW, rfl, _, rfl, r, _, dx, _, _, rfl, hx, T.cl, T.rR, rfl, _, rfl, r, _, dx, _, _, rfl, hx, T.cl, T.rL, rfl, R, _, n, .ref W, rfl, rfl, hR, atI_nat hrow, W, _, rfl, .inl hW, _, _, rfl, rfl, _, rfl, ?_⟩
  rw [tsL_len]
  rcases Nat.lt_or_ge j us.length with c | c
  · exact iteY (decide_eq_true (by omega)) ⟨_, rfl, r, dx, _, rfl, hx, rfl, F0, r, ls, n, j, rfl, h, k2 c⟩
  · refine iteN (by rw [decide_eq_false (by omega)]; exact fun z => nomatch z) ?_
    refine ⟨_, rfl, r, a.Reader, dx, _, _, rfl, hx, T.cl, T.rL, rfl, _, _, rfl, rfl, dx, _, hx, Nat.le_of_ble_eq_true rfl, ?_⟩
    refine ⟨_, rfl, r, a.Reader, dx, _, rfl, upd_same, T.cl, T.rW, Nat.le_of_ble_eq_true rfl, ?_⟩
    have h2 : Rd K a r ls (n + 1) j F0 (upd H r (.ins a.Reader dx [("_rows", .ref R), ("_line", .int ((n + 1 : Nat) : Int)), ("_word", .int (j : Nat))])) := h.put hx
    refine k1 c _ (Sx.self.trans Sx.self) (h2.put upd_same)
end
end K52

set_option Elab.async false
set_option linter.all false
set_option maxRecDepth 100000
set_option maxHeartbeats 4000000
namespace K52
open PySem PySem.Spec PyProof.Rows L2 Ew
open SX (S)
theorem stn (L : List Nat) : Txt.startswith (S L) "-" = decide (L.head? = some 45) := by
  have e : ("-" : Str) = S [45] := by decide +kernel
  unfold Txt.startswith
  rw [e, StrLaws.subAt_eq, SX.S_len, SX.S_len]
  cases L with
  | nil => rfl
  | cons c r =>
    have t : ((S (c :: r)).cps.toList.drop 0).take [45].length = [c] := rfl
    have u : (S [45]).cps.toList = [45] := rfl
    rw [t, u]
    by_cases h : c = 45
    · subst h; simp
    · simp [h]
/-! ### what a line must look like -/
inductive Shp
  | head (x : Tk)
  | name
  | whole
  | many
def gL : List Nat := [103, 114, 111, 117, 110, 100]
def Shp.ok : Shp → Tk → Bool
  | .head x, w => decide (w = x)
  | .name, w => decide (w = gL) || isNm w
  | .whole, w => isWh 30 w
  | .many, w => isWh 30 w && (!decide (w.head? = some 45) && !decide (w = [48]))
/-- the first word that cannot stand there -/
def flt : Nat → List Tk → List Shp → Option Nat
  | _, [], [] => none
  | i, _ :: _, [] => some i
  | i, [], _ :: _ => some i
  | i, w :: ws, s :: ss => if s.ok w = true then flt (i + 1) ws ss else some i
def fl (us : List Tk) (j : Nat) (ss : List Shp) : Option Nat := flt j (us.drop j) ss
section
variable {us : List Tk} {j : Nat} {ss : List Shp} {s : Shp} {w : Tk}
theorem fl_none (h : us[j]? = none) : fl us j (s :: ss) = some j := by
  unfold fl
  rw [List.drop_eq_nil_of_le (by rw [List.getElem?_eq_none_iff] at h; exact h)]
  rfl
theorem drop_at (h : us[j]? = some w) : us.drop j = w :: us.drop (j + 1) := by
  obtain ⟨hl, e⟩ := List.getElem?_eq_some_iff.mp h
  rw [List.drop_eq_getElem_cons hl, e]
theorem fl_ok (h : us[j]? = some w) (k : s.ok w = true) : fl us j (s :: ss) = fl us (j + 1) ss := by
  unfold fl
  rw [drop_at h, flt, if_pos k]
theorem fl_no (h : us[j]? = some w) (k : s.ok w = false) : fl us j (s :: ss) = some j := by
  unfold fl
  rw [drop_at h, flt, if_neg (by rw [k]; decide)]
theorem fl_end (h : us.length ≤ j) : fl us j [] = none := by
  unfold fl
  rw [List.drop_eq_nil_of_le h]
  rfl
theorem fl_more (h : j < us.length) : fl us j [] = some j := by
  unfold fl
  rw [drop_at (List.getElem?_eq_getElem h)]
  rfl
end
/-! ### the lines that are not empty, with their numbers -/
abbrev Ln := Nat × List Tk
def nel : Nat → List (List Tk) → List Ln
  | _, [] => []
  | n, us :: r => if us = [[]] then nel (n + 1) r else (n, us) :: nel (n + 1) r
def lf (ls : List (List Tk)) (n : Nat) : List Ln := nel n (ls.drop n)
theorem lf_end {ls : List (List Tk)} {n : Nat} (h : ls.length ≤ n) : lf ls n = [] := by
  unfold lf
  rw [List.drop_eq_nil_of_le h]
  rfl
theorem lf_stop {ls : List (List Tk)} {n : Nat} (h : n < ls.length) (k : cur ls n ≠ [[]]) : lf ls n = (n, cur ls n) :: lf ls (n + 1) := by
  have e := cur_at (List.getElem?_eq_getElem h)
  rw [e] at k ⊢
  unfold lf
  rw [List.drop_eq_getElem_cons h, nel, if_neg k]
theorem lf_go {ls : List (List Tk)} {n : Nat} (h : n < ls.length) (k : cur ls n = [[]]) : lf ls n = lf ls (n + 1) := by
  have e := cur_at (List.getElem?_eq_getElem h)
  rw [e] at k
  unfold lf
  rw [List.drop_eq_getElem_cons h, nel, if_pos k]
theorem nx_lf {ls : List (List Tk)} : ∀ (k n : Nat), ls.length - n = k → n ≤ ls.length → (nx ls n = ls.length ∧ lf ls n = []) ∨ (n ≤ nx ls n ∧ nx ls n < ls.length ∧ lf ls n = (nx ls n, cur ls (nx ls n)) :: lf ls (nx ls n + 1))
  | 0, n, h, hn => .inl ⟨by rw [nx_end (by omega)]; omega, lf_end (by omega)⟩
  | k + 1, n, h, hn => by
    have hl : n < ls.length := by omega
    by_cases c : cur ls n = [[]]
    · rw [nx_go hl c, lf_go hl c]
      exact (nx_lf k (n + 1) (by omega) (by omega)).imp id fun ⟨a, b⟩ => ⟨by omega, b⟩
    · rw [nx_stop hl c]
      exact .inr ⟨Nat.le_refl _, hl, lf_stop hl c⟩
/-- one line taken -/
def tk1 (N : Nat) (sh : List Shp) : List Ln → Except (Nat × Nat) (List Tk × List Ln)
  | [] => .error (N, 0)
  | (m, us) :: r => match fl us 0 sh with
    | some i => .error (m, i)
    | none => .ok (us, r)
section
variable {P : Program} {w : World} {K : PySem.W.Frag} {mg : Str → Option Value} {base : Heap} {a : Ad}
def sp_take_number (K : PySem.W.Frag) (a : Ad) : Sp := fun vs H Q E => ∃ (F0 : Hp) (r : Addr) (ls : List (List Tk)) (n j : Nat), vs = [.ref r] ∧ Rd K a r ls n j F0 H ∧
  (∀ z, (cur ls n)[j]? = some z → isWh 30 z = true → z.head? ≠ some 45 → ∀ H', Sx r H H' → Rd K a r ls n (j + 1) F0 H' → Q (.int (wholeVal z)) H') ∧ ((∀ z, (cur ls n)[j]? = some z → ¬ (isWh 30 z = true ∧ z.head? ≠ some 45)) → No a r n j H E)
theorem m_Reader_take_number (T : Txt K mg a) : Mt P w K mg base 5 a.Reader "take_number" P_Reader_take_number (sp_take_number K a) [] := by
  obtain ⟨f, fd, M, F, b⟩ := T.m_take_number.ex
  refine ⟨T.cl, f, fd, [], M, fun_ok F sc_Reader_take_number (fun vs H Q E h => by obtain ⟨F0, r, ls, n, j, rfl, _⟩ := h; rfl) fun f cdv A outer s H vs Q E hr h => ?_, b, .nil⟩
  obtain ⟨F0, r, ls, n, j, rfl, h, k1, k2⟩ := h
  obtain ⟨R, rows, dx, hx, _, _⟩ := id h.ex
  refine ⟨_, ((pss_cons (ps_if (PW.pt (pw_and (pt_cmpR op_notN (pe_mf0 (m_Reader_peek T) hr (by decide) (pv 0)) pe_non (nomark _)) (pw_and1 (pt_val (pe_m1 PySem.F.slot_str_startswith PySem.F.type_str_startswith mt_startswith (pe_mf0 (m_Reader_peek T) hr (by decide) (pv 0)) pe_str)))))
 (pss_one (ps_expr (pe_mw0 (m_Reader_refuse T) (takes_of rfl rfl rfl rfl) hr (by decide) (pv 0))))
 pss_nil)
 (pss_one (ps_ret (pe_mw0 (m_Reader_take_integer T) (takes_of rfl rfl rfl rfl) hr (by decide) (pv 0)))))), ?_⟩
  refine ⟨_, rfl, r, dx, _, rfl, hx, rfl, F0, r, ls, n, j, rfl, h, fun H1 e1 => ?_⟩
  have hx1 := e1 _ _ hx
  have h1 := h.up e1
  cases e : (cur ls n)[j]? with
  | none =>
    refine ⟨rfl, false, rfl, iteF (iteN (fun z => nomatch z) ?_)⟩
    exact ⟨_, rfl, r, dx, _, rfl, hx1, rfl, F0, r, ls, n, j, rfl, h1, (fun z hz => by rw [e] at hz; cases hz), fun hn => (k2 fun z hz => by rw [e] at hz; cases hz).up (Sx.of e1)⟩
  | some u =>
    refine ⟨rfl, true, rfl, iteT ?_⟩
    refine ⟨_, rfl, r, dx, _, rfl, hx1, rfl, F0, r, ls, n, j, rfl, h1, fun H2 e2 => ?_⟩
    rw [e]
    have hx2 := e2 _ _ hx1
    have h2 := h1.up e2
    have s2 := Sx.of (r := r) (e1.trans e2)
    refine ⟨⟨_, rfl⟩, _, _, rfl, rfl, _, rfl, ?_⟩
    rw [stn]
    by_cases c : u.head? = some 45
    · refine iteY (decide_eq_true c) ?_
      refine ⟨_, rfl, r, dx, _, rfl, hx2, rfl, F0, r, ls, n, j, rfl, h2, (k2 fun z hz y => ?_).up s2⟩
      rw [e] at hz
      cases hz
      exact y.2 c
    · refine iteN (by rw [decide_eq_false c]; decide) ?_
      refine ⟨_, rfl, r, dx, _, rfl, hx2, rfl, F0, r, ls, n, j, rfl, h2, fun z hz y H3 s3 h3 => ?_, fun hn => (k2 fun z hz y => ?_).up s2⟩
      · rw [e] at hz
        cases hz
        exact k1 u e y c H3 (s2.trans s3) h3
      · rw [hn z hz] at y
        exact absurd y.1 (by decide)
def sp_end_lines (K : PySem.W.Frag) (a : Ad) : Sp := fun vs H Q E => ∃ (F0 : Hp) (r : Addr) (ls : List (List Tk)) (n : Nat), vs = [.ref r] ∧ Rd K a r ls n 0 F0 H ∧ n ≤ ls.length ∧ (lf ls n = [] → ∀ H', Sx r H H' → Q .non H') ∧ (∀ m us l, lf ls n = (m, us) :: l → No a r m 0 H E)
theorem m_Reader_end_lines (T : Txt K mg a) : Mt P w K mg base 4 a.Reader "end_lines" P_Reader_end_lines (sp_end_lines K a) [] := by
  obtain ⟨f, fd, M, F, b⟩ := T.m_end_lines.ex
  refine ⟨T.cl, f, fd, [], M, fun_ok F sc_Reader_end_lines (fun vs H Q E h => by obtain ⟨F0, r, ls, n, rfl, _⟩ := h; rfl) fun f cdv A outer s H vs Q E hr h => ?_, b, .nil⟩
  obtain ⟨F0, r, ls, n, rfl, h, hn, k1, k2⟩ := h
  obtain ⟨R, rows, dx, hx, _, _⟩ := id h.ex
  refine ⟨_, ((pss_one (ps_if (pt_cmpR op_notN (pe_mf0 (m_Reader_head T) hr (by decide) (pv 0)) pe_non (nomark _))
 (pss_one (ps_expr (pe_mw0 (m_Reader_refuse T) (takes_of rfl rfl rfl rfl) hr (by decide) (pv 0))))
 pss_nil))), ?_⟩
  refine ⟨_, rfl, r, dx, _, rfl, hx, rfl, F0, r, ls, n, rfl, h, fun H1 s1 h1 => ?_⟩
  obtain ⟨R, rows, dx, hx1, _, _⟩ := id h1.ex
  rcases nx_lf _ n rfl hn with ⟨en, el⟩ | ⟨_, hl, el⟩
  · have ec : cur ls (nx ls n) = [] := by unfold cur; rw [en, List.getElem?_eq_none (Nat.le_refl _)]; rfl
    rw [ec]
    exact ⟨rfl, false, rfl, iteF (k1 el H1 s1)⟩
  · have ps : ∃ u, (cur ls (nx ls n))[0]? = some u := by
      have q := h.ok.pos _ (List.getElem_mem hl)
      rw [cur_at (List.getElem?_eq_getElem hl)]
      cases e : ls[nx ls n] with
      | nil => exact absurd e q
      | cons u r => exact ⟨u, rfl⟩
    obtain ⟨u, hu⟩ := ps
    rw [hu]
    exact ⟨rfl, true, rfl, iteT ⟨_, rfl, r, dx, _, rfl, hx1, rfl, F0, r, ls, nx ls n, 0, rfl, h1, (k2 _ _ _ el).up s1⟩⟩
end
end K52

set_option Elab.async false
set_option linter.all false
set_option maxRecDepth 100000
set_option maxHeartbeats 4000000
namespace K52
open PySem PySem.Spec PyProof.Rows L2 Ew
open SX (S)
section
variable {us : List Tk} {j : Nat} {ss : List Shp} {x w : Tk}
theorem fl_noh (h : us[j]? ≠ some x) : fl us j (.head x :: ss) = some j := by
  cases e : us[j]? with
  | none => exact fl_none e
  | some u => exact fl_no e (decide_eq_false fun z => h (by rw [e, z]))
theorem fl_now (h : ∀ z, us[j]? = some z → isWh 30 z = false) : fl us j (.whole :: ss) = some j := by
  cases e : us[j]? with
  | none => exact fl_none e
  | some u => exact fl_no e (h u e)
theorem fl_non (h : ∀ u, us[j]? = some u → ¬ (u = gL ∨ isNm u = true)) : fl us j (.name :: ss) = some j := by
  cases e : us[j]? with
  | none => exact fl_none e
  | some u =>
    refine fl_no e ?_
    have := h u e
    show (decide (u = gL) || isNm u) = false
    rw [not_or] at this
    rw [decide_eq_false this.1, Bool.eq_false_iff.mpr this.2]
    rfl
theorem ok_h {x : Tk} : (Shp.head x).ok x = true := by show decide (x = x) = true; exact decide_eq_true rfl
theorem ok_w {w : Tk} (h : isWh 30 w = true) : Shp.whole.ok w = true := h
theorem ok_nm {u : Tk} (h : u = gL ∨ isNm u = true) : Shp.name.ok u = true := by
  show (decide (u = gL) || isNm u) = true
  rcases h with h | h
  · rw [decide_eq_true h]; rfl
  · rw [h, Bool.or_true]
end
theorem tk1_bad {N m i : Nat} {sh : List Shp} {us : List Tk} {r : List Ln} (h : fl us 0 sh = some i) : tk1 N sh ((m, us) :: r) = .error (m, i) := by simp only [tk1, h]
theorem tk1_good {N m : Nat} {sh : List Shp} {us : List Tk} {r : List Ln} (h : fl us 0 sh = none) : tk1 N sh ((m, us) :: r) = .ok (us, r) := by simp only [tk1, h]
def lC : Tk := [99, 97, 114, 100]
def lS : Tk := [115, 112, 111, 116]
def lR : Tk := [114, 111, 119]
theorem eC : ("card" : Str) = S lC := by decide +kernel
theorem eS : ("spot" : Str) = S lS := by decide +kernel
theorem eR : ("row" : Str) = S lR := by decide +kernel
theorem eG : ("ground" : Str) = S gL := by decide +kernel
def shS : List Shp := [.head lS, .name, .whole, .whole]
def shR (m : Nat) : List Shp := .head lR :: List.replicate m .whole
def shC : List Shp := [.head lC, .many]
def spotOf (us : List Tk) : Spot := (S (us.getD 1 []), wholeVal (us.getD 2 []), wholeVal (us.getD 3 []))
def rowOf (us : List Tk) : List Int := (us.drop 1).map wholeVal
theorem getD_of {us : List Tk} {j : Nat} {w : Tk} (h : us[j]? = some w) : us.getD j [] = w := by rw [List.getD_eq_getElem?_getD, h]; rfl
section
variable {P : Program} {w : World} {K : PySem.W.Frag} {mg : Str → Option Value} {base : Heap} {a : Ad}
def sp__take_spot (K : PySem.W.Frag) (a : Ad) : Sp := fun vs H Q E => ∃ (F0 : Hp) (r : Addr) (ls : List (List Tk)) (n : Nat), vs = [.ref r] ∧ Rd K a r ls n 0 F0 H ∧ n ≤ ls.length ∧
  (∀ m i, tk1 ls.length shS (lf ls n) = .error (m, i) → No a r m i H E) ∧
  (∀ us l, tk1 ls.length shS (lf ls n) = .ok (us, l) → ∀ n' H' q, Sx r H H' → Rd K a r ls n' 0 F0 H' → n' ≤ ls.length → n < n' → lf ls n' = l → H' q = some (.tup (spV (spotOf us))) → Q (.ref q) H')
theorem c__take_spot (T : Txt K mg a) : Cl P w K mg base 6 "_take_spot" P__take_spot (sp__take_spot K a) [] :=
  T.d__take_spot.cl sc__take_spot (fun vs H Q E h => by obtain ⟨F0, r, ls, n, rfl, _⟩ := h; rfl) fun f cdv A outer s H vs Q E hr h => by
    obtain ⟨F0, r, ls, n, rfl, h, hn, kb, kg⟩ := h
    refine ⟨_, ((pss_cons (ps_expr (pe_mf0 (m_Reader_head T) hr (by decide) (pv 0)))
 (pss_cons (ps_expr (pe_mr (m_Reader_take_word T) (takes_of rfl rfl rfl rfl) hr (by decide) (pv 0) (pa_cons pe_str pa_nil)))
 (pss_cons (ps_set (i := 1) sc__take_spot.nd rfl (Or.inl rfl) (pe_mr (m_Reader_take_name T) (takes_of rfl rfl rfl rfl) hr (by decide) (pv 0) (pa_cons pe_str pa_nil)))
 (pss_cons (ps_set (i := 2) sc__take_spot.nd rfl (Or.inl rfl) (pe_mw0 (m_Reader_take_integer T) (takes_of rfl rfl rfl rfl) hr (by decide) (pv 0)))
 (pss_cons (ps_set (i := 3) sc__take_spot.nd rfl (Or.inl rfl) (pe_mw0 (m_Reader_take_integer T) (takes_of rfl rfl rfl rfl) hr (by decide) (pv 0)))
 (pss_cons (ps_expr (pe_mw0 (m_Reader_end_line T) (takes_of rfl rfl rfl rfl) hr (by decide) (pv 0)))
 (pss_one (ps_ret (pe_tup (pa_cons (pv 1) (pa_cons (pv 2) (pa_cons (pv 3) pa_nil))))))))))))), ?_⟩
    obtain ⟨R, rows, dx, hx, _, _⟩ := id h.ex
    refine ⟨_, rfl, r, dx, _, rfl, hx, rfl, F0, r, ls, n, rfl, h, fun H1 s1 h1 => ?_⟩
    obtain ⟨R, rows, dx, hx, _, _⟩ := id h1.ex
    rcases nx_lf _ n rfl hn with ⟨en, el⟩ | ⟨ge, hl, el⟩
    · have ec : cur ls (nx ls n) = [] := by unfold cur; rw [en, List.getElem?_eq_none (Nat.le_refl _)]; rfl
      refine ⟨_, rfl, r, dx, _, rfl, hx, rfl, F0, r, ls, nx ls n, 0, lS, by rw [eS], h1, fun z => ?_, fun _ => ?_⟩
      · rw [ec] at z; cases z
      · rw [en]
        exact (kb _ _ (by rw [el]; rfl)).up s1
    rw [el] at kb kg
    have kb' : ∀ i, fl (cur ls (nx ls n)) 0 shS = some i → No a r (nx ls n) i H E := fun i hi => kb _ _ (tk1_bad hi)
    have kg' := fun (hi : fl (cur ls (nx ls n)) 0 shS = none) => kg (cur ls (nx ls n)) (lf ls (nx ls n + 1)) (tk1_good hi)
    clear kb kg el h
    generalize nx ls n = n1 at *
    refine ⟨_, rfl, r, dx, _, rfl, hx, rfl, F0, r, ls, n1, 0, lS, by rw [eS], h1, fun e0 H2 s2 h2 => ?_, fun z => (kb' 0 (fl_noh z)).up s1⟩
    have f0 : fl (cur ls n1) 0 shS = fl (cur ls n1) 1 [.name, .whole, .whole] := fl_ok e0 ok_h
    rw [f0] at kb' kg'
    have s02 := s1.trans s2
    obtain ⟨R, rows, dx, hx, _, _⟩ := id h2.ex
    refine ⟨_, rfl, r, dx, _, rfl, hx, rfl, F0, r, ls, n1, 1, gL, by rw [eG], h2, fun u1 e1 y1 H3 s3 h3 => ?_, fun z => (kb' 1 (fl_non z)).up s02⟩
    rw [fl_ok e1 (ok_nm y1)] at kb' kg'
    have s03 := s02.trans s3
    obtain ⟨R, rows, dx, hx, _, _⟩ := id h3.ex
    refine ⟨_, rfl, r, dx, _, rfl, hx, rfl, F0, r, ls, n1, 2, rfl, h3, fun u2 e2 y2 H4 s4 h4 => ?_, fun z => (kb' 2 (fl_now z)).up s03⟩
    rw [fl_ok e2 (ok_w y2)] at kb' kg'
    have s04 := s03.trans s4
    obtain ⟨R, rows, dx, hx, _, _⟩ := id h4.ex
    refine ⟨_, rfl, r, dx, _, rfl, hx, rfl, F0, r, ls, n1, 3, rfl, h4, fun u3 e3 y3 H5 s5 h5 => ?_, fun z => (kb' 3 (fl_now z)).up s04⟩
    rw [fl_ok e3 (ok_w y3)] at kb' kg'
    have s05 := s04.trans s5
    obtain ⟨R, rows, dx, hx, _, _⟩ := id h5.ex
    refine ⟨_, rfl, r, dx, _, rfl, hx, rfl, F0, r, ls, n1, 4, rfl, h5, hl, fun z H6 s6 h6 => ?_, fun z => (kb' 4 (fl_more z)).up s05⟩
    refine ⟨_, rfl, _, rfl, _, rfl, by show 3 ≤ sizeLine; decide, fun q hq => ?_⟩
    have en := same_new (o := .tup [.str (S u1), .int (wholeVal u2), .int (wholeVal u3)]) hq
    refine kg' (fl_end z) (n1 + 1) _ q ((s05.trans s6).trans (Sx.of en)) (h6.up en) (by omega) (by omega) rfl ?_
    rw [upd_same]
    unfold spotOf spV
    rw [getD_of e1, getD_of e2, getD_of e3]
end
end K52

set_option Elab.async false
set_option linter.all false
set_option maxRecDepth 100000
set_option maxHeartbeats 4000000
namespace K52
open PySem PySem.Spec PyProof.Rows L2 Ew
open SX (S)
section
variable {P : Program} {w : World} {K : PySem.W.Frag} {mg : Str → Option Value} {base : Heap} {a : Ad}
def sp__take_row (K : PySem.W.Frag) (a : Ad) : Sp := fun vs H Q E => ∃ (F0 : Hp) (r : Addr) (ls : List (List Tk)) (n m : Nat), vs = [.ref r, .int (m : Nat)] ∧ Rd K a r ls n 0 F0 H ∧ n ≤ ls.length ∧ m ≤ 1000 ∧
  (∀ l i, tk1 ls.length (shR m) (lf ls n) = .error (l, i) → No a r l i H E) ∧
  (∀ us l, tk1 ls.length (shR m) (lf ls n) = .ok (us, l) → ∀ n' H' q, Sx r H H' → Rd K a r ls n' 0 F0 H' → n' ≤ ls.length → n < n' → lf ls n' = l → H q = none → H' q = some (.lst ((rowOf us).map .int)) → Q (.ref q) H')
theorem c__take_row (T : Txt K mg a) : Cl P w K mg base 6 "_take_row" P__take_row (sp__take_row K a) [] :=
  T.d__take_row.cl sc__take_row (fun vs H Q E h => by obtain ⟨F0, r, ls, n, m, rfl, _⟩ := h; rfl) fun f cdv A outer s H vs Q E hr h => by
    obtain ⟨F0, r, ls, n, m, rfl, h, hn, hm, kb, kg⟩ := h
    refine ⟨_, ((pss_cons (ps_expr (pe_mf0 (m_Reader_head T) hr (by decide) (pv 0)))
 (pss_cons (ps_expr (pe_mr (m_Reader_take_word T) (takes_of rfl rfl rfl rfl) hr (by decide) (pv 0) (pa_cons pe_str pa_nil)))
 (pss_cons (ps_set (i := 2) sc__take_row.nd rfl (Or.inl rfl) (pe_lst pa_nil))
 (pss_cons (ps_while (passes_of rfl) (pt_cmpR op_lt (pe_callB call_len_seq (by rfl) T.n_len (by decide +kernel) (pa_cons (pv 2) pa_nil)) (pv 1) (nomark _))
 (pss_one (ps_expr (pe_bm PySem.F.plainAttrs_list PySem.F.slot_list_append PySem.F.type_list_append mt_append (pv 2) (pa_cons (pe_mw0 (m_Reader_take_integer T) (takes_of rfl rfl rfl rfl) hr (by decide) (pv 0)) pa_nil)))))
 (pss_cons (ps_expr (pe_mw0 (m_Reader_end_line T) (takes_of rfl rfl rfl rfl) hr (by decide) (pv 0)))
 (pss_one (ps_ret (pv 2))))))))), ?_⟩
    obtain ⟨R, rows, dx, hx, _, _⟩ := id h.ex
    refine ⟨_, rfl, r, dx, _, rfl, hx, rfl, F0, r, ls, n, rfl, h, fun H1 s1 h1 => ?_⟩
    obtain ⟨R, rows, dx, hx, _, _⟩ := id h1.ex
    rcases nx_lf _ n rfl hn with ⟨en, el⟩ | ⟨ge, hl, el⟩
    · have ec : cur ls (nx ls n) = [] := by unfold cur; rw [en, List.getElem?_eq_none (Nat.le_refl _)]; rfl
      refine ⟨_, rfl, r, dx, _, rfl, hx, rfl, F0, r, ls, nx ls n, 0, lR, by rw [eR], h1, fun z => ?_, fun _ => ?_⟩
      · rw [ec] at z; cases z
      · rw [en]
        exact (kb _ _ (by rw [el]; rfl)).up s1
    rw [el] at kb kg
    have kb' : ∀ i, fl (cur ls (nx ls n)) 0 (shR m) = some i → No a r (nx ls n) i H E := fun i hi => kb _ _ (tk1_bad hi)
    have kg' := fun (hi : fl (cur ls (nx ls n)) 0 (shR m) = none) => kg (cur ls (nx ls n)) (lf ls (nx ls n + 1)) (tk1_good hi)
    have le := (h.ok.cur (nx ls n)).1
    clear kb kg el h
    generalize nx ls n = n1 at *
    generalize eu : cur ls n1 = us at *
    refine ⟨_, rfl, r, dx, _, rfl, hx, rfl, F0, r, ls, n1, 0, lR, by rw [eR], h1, fun e0 H2 s2 h2 => ?_, fun z => (kb' 0 (fl_noh (by rw [← eu]; exact z))).up s1⟩
    rw [eu] at e0
    have f0 : fl us 0 (shR m) = fl us 1 (List.replicate m .whole) := fl_ok e0 ok_h
    rw [f0] at kb' kg'
    have s02 := s1.trans s2
    refine ⟨Nat.zero_le _, fun B hB => ?_⟩
    have b0 : H B = none := by
      cases e : H B with
      | none => rfl
      | some o =>
        by_cases c : B = r
        · obtain ⟨R, rows, dx, hx, _, _⟩ := id h2.ex
          rw [c, hx] at hB
          cases hB
        · rw [s02 B o c e] at hB
          cases hB
    dsimp only [gName]
    refine seq_in ?_
    refine ⟨fun k σ' H' => ∃ j, j ≤ m ∧ k = m - j ∧ σ' = [some (.ref r), some (.int m), some (.ref B)] ∧ Sx r H H' ∧ Rd K a r ls n1 (1 + j) F0 H' ∧ H' B = some (.lst (((us.drop 1).take j).map fun w => .int (wholeVal w))) ∧ fl us 1 (List.replicate m .whole) = fl us (1 + j) (List.replicate (m - j) .whole) ∧ 1 + j ≤ us.length, ?_, ?_⟩
    · refine ⟨_, 0, Nat.zero_le _, rfl, rfl, s02.new b0, h2.up (same_new hB), upd_same, rfl, ?_⟩
      have := (List.getElem?_eq_some_iff.mp e0).1
      omega
    rintro k _ H3 ⟨j, hj, rfl, rfl, s3, h3, hb3, f3, l3⟩
    have tl : ((us.drop 1).take j).length = j := by rw [List.length_take, List.length_drop]; omega
    refine ⟨_, rfl, B, _, rfl, .inl (SqL.of hb3), _, rfl, _, _, rfl, rfl, _, rfl, ?_⟩
    rw [List.length_map, tl]
    by_cases c : j < m
    · refine iteY (decide_eq_true (by omega)) ⟨_, fun σ' H' z => z, ?_⟩
      obtain ⟨R, rows, dx, hx, _, _⟩ := id h3.ex
      have rep : List.replicate (m - j) Shp.whole = .whole :: List.replicate (m - (j + 1)) .whole := by
        rw [show m - j = (m - (j + 1)) + 1 by omega, List.replicate_succ]
      rw [rep] at f3
      have bR : B ≠ r := fun z => by rw [z, hx] at hb3; cases hb3
      refine ⟨_, rfl, .inl ⟨rfl, _, SqL.of hb3⟩, _, rfl, r, dx, _, rfl, hx, rfl, F0, r, ls, n1, 1 + j, rfl, h3, fun z ez y H4 s4 h4 => ?_, fun z => (kb' _ (f3.trans (fl_now (by rw [← eu]; exact z)))).up s3⟩
      rw [eu] at ez
      have hb4 := s4 B _ bR hb3
      refine ⟨B, _, _, rfl, rfl, hb4, by rw [List.length_map, tl, sizeLine_eq]; omega, ?_⟩
      have hl2 := (List.getElem?_eq_some_iff.mp ez).1
      refine ⟨_, (by omega : m - (j + 1) < m - j), j + 1, c, rfl, rfl, (s3.trans s4).new b0, ?_, ?_, f3.trans (fl_ok ez (ok_w y)), by omega⟩
      · have h5 := h4.mut (o := .lst ((((us.drop 1).take j).map fun w => V.int (wholeVal w)) ++ [.int (wholeVal z)])) (h2.fh.free hB) bR
        exact (show 1 + j + 1 = 1 + (j + 1) by omega) ▸ h5
      · rw [upd_same]
        have e1 : (us.drop 1)[j]? = some z := by rw [List.getElem?_drop]; exact ez
        rw [List.take_add_one, e1, List.map_append]
        rfl
    · refine iteN (by rw [decide_eq_false (by omega)]; exact fun z => nomatch z) ?_
      have ej : j = m := by omega
      subst ej
      obtain ⟨R, rows, dx, hx, _, _⟩ := id h3.ex
      rw [Nat.sub_self] at f3
      refine ⟨_, rfl, r, dx, _, rfl, hx, rfl, F0, r, ls, n1, 1 + j, rfl, h3, hl, fun z H5 s5 h5 => ?_, fun z => (kb' _ (f3.trans (fl_more (by rw [← eu]; exact z)))).up s3⟩
      rw [eu] at z
      have bR : B ≠ r := fun z => by rw [z, hx] at hb3; cases hb3
      refine ⟨_, rfl, kg' (f3.trans (fl_end z)) (n1 + 1) H5 B (s3.trans s5) h5 (by omega) (by omega) rfl b0 ?_⟩
      rw [s5 B _ bR hb3]
      unfold rowOf
      rw [List.map_map, List.take_of_length_le (by rw [List.length_drop]; omega)]
      rfl
end
end K52

set_option Elab.async false
set_option linter.all false
set_option maxRecDepth 100000
set_option maxHeartbeats 4000000
namespace Ew
open PySem PySem.Spec PyProof.Rows L2
/-! ### zip(a list, a tuple) -/
def ItzM (K : PySem.W.Frag) (a b : Addr) : It where
  go := fun i H => ∃ (xs ys : List V) (x y : V), SqL K H a xs ∧ SqT K H b ys ∧ xs[i]? = some x ∧ ys[i]? = some y
  yld := fun i H v H' => ∃ T x y, v = .ref T ∧ H T = none ∧ H' = upd H T (.tup [x, y]) ∧ (∀ xs, SqL K H a xs → xs[i]? = some x) ∧ ∀ ys, SqT K H b ys → ys[i]? = some y
  stop := fun i H => ∃ xs ys : List V, SqL K H a xs ∧ SqT K H b ys ∧ i ≤ xs.length ∧ i ≤ ys.length ∧ (i = xs.length ∨ i = ys.length)
def TnM (z TI TO i1 i2 a b : Addr) (i : Nat) (h : Heap) : Prop := IsZip h z TI TO .none ∧ IsTupOf2 h TI (.ref i1) (.ref i2) ∧ (∃ x y, IsTupOf2 h TO x y) ∧ h.IsListIter i1 a i ∧ h.IsTupleIter i2 b i
theorem five {c z TI TO i1 i2 : Addr} (h : c ∈ [z, TI, TO, i1, i2]) : c = z ∨ c = TI ∨ c = TO ∨ c = i1 ∨ c = i2 := by
  simp only [List.mem_cons, List.not_mem_nil, or_false] at h
  exact h
theorem turn_zipM {P : Program} {w : World} {K : PySem.W.Frag} {elts : List Expr} {kk : Nat} {tpos : Pos} {a b z TI TO i1 i2 : Addr} (S : ZipSep2 z TI TO i1 i2 [i1, a] [i2, b]) (na : a ≠ i1) (nb : b ≠ i2) :
    Turn P w K (.Tuple elts kk tpos) (ItzM K a b) [z, TI, TO, i1, i2] z (TnM z TI TO i1 i2 a b) where
  mem := List.mem_cons_self
  obj := fun i h st c hc => by
    obtain ⟨q1, q2, ⟨_, _, q3⟩, ⟨o4, q4, _, d4⟩, ⟨o5, q5, _, d5⟩⟩ := st
    rcases five hc with rfl | rfl | rfl | rfl | rfl
    · exact ⟨_, q1, fun v e => nomatch e⟩
    · exact ⟨_, q2, fun v e => nomatch e⟩
    · exact ⟨_, q3, fun v e => nomatch e⟩
    · exact ⟨o4, q4, fun v e => by rw [d4] at e; cases e⟩
    · exact ⟨o5, q5, fun v e => by rw [d5] at e; cases e⟩
  keep := fun i h h' st k => by
    obtain ⟨q1, q2, ⟨x, y, q3⟩, q4, q5⟩ := st
    refine ⟨k _ List.mem_cons_self _ q1, k _ (by simp) _ q2, ⟨x, y, k _ (by simp) _ q3⟩, q4.at fun o e => ?_, q5.at fun o e => ?_⟩
    · exact k _ (by simp) o e
    · exact k _ (by simp) o e
  item := by
    intro X hP hw hK hc i pins s σ H E I hf st go
    subst hP hw hK
    obtain ⟨q1, q2, ⟨x0, y0, q3⟩, q4, q5⟩ := st
    obtain ⟨xs, ys, x, y, sx, sy, hx, hy⟩ := go
    obtain ⟨l1, r1, p1, _⟩ := I.list sx
    obtain ⟨l2, r2, p2, _⟩ := I.tuple sy
    obtain ⟨u1, hu1, ru1⟩ := r1.get hx
    obtain ⟨u2, hu2, ru2⟩ := r2.get hy
    have hh := I.ok.hd hc
    have D1 := Draws.list (prog := X.prog) (w := X.w) (A := X.A.in1) hh i1 a na l1.toArray
    have D2 := Draws.tuple (prog := X.prog) (w := X.w) (A := X.A.in1) hh i2 b nb l2.toArray
    have g1 : i < l1.toArray.size := by
      rw [List.size_toArray]
      exact (List.getElem?_eq_some_iff.mp hu1).1
    have g2 : i < l2.toArray.size := by
      rw [List.size_toArray]
      exact (List.getElem?_eq_some_iff.mp hu2).1
    have zl := Heap.lt_size q1
    refine wpAny_pyNext_zipD2_item S D1 D2 q1 q2 q3 ⟨q4, p1.isList⟩ ⟨q5, p2⟩ g1 g2 fun v1 v2 h' tk e1 e2 w1 w2 w3 w4 w5 w6 w7 => ?_
    rw [List.getElem?_toArray, hu1] at e1
    rw [List.getElem?_toArray, hu2] at e2
    cases e1
    cases e2
    refine ⟨_, rfl, wpAny_letOwnedTupleGo_zip (s := { s with heap := h', toks := tk }) w1 fun h'' w1' sb => ?_⟩
    have nw : h''.get? s.heap.objs.size = some { cls := .type "tuple", data := .seq #[u1, u2] } := (sb.2 _ (Nat.ne_of_gt zl)).trans w5
    have ob : ObjOk X.prog X.w (upd H s.heap.objs.size (.tup [x, y])) h'' s.heap.objs.size (.tup [x, y]) := by
      refine ⟨?_, [u1, u2], .cons ru1 (.cons ru2 .nil), ⟨_, nw, rfl, _, rfl⟩⟩
      show 2 ≤ sizeLine
      decide
    have off : ∀ c o, c ∉ [z, TI, TO, i1, i2] → s.heap.get? c = some o → h''.get? c = some o := fun c o hb e => by
      have n : c ≠ z ∧ c ≠ TO ∧ c ≠ i1 ∧ c ≠ i2 := ⟨fun q => hb (by simp [q]), fun q => hb (by simp [q]), fun q => hb (by simp [q]), fun q => hb (by simp [q])⟩
      exact (sb.2 c n.1).trans (w7 c o n.1 n.2.1 n.2.2.1 n.2.2.2 e)
    have I1 : Inv X pins σ (upd H s.heap.objs.size (.tup [x, y])) { s with heap := h'', toks := tk } := I.turnedNew off hf (Nat.le_refl _) ob
    refine ⟨.ref s.heap.objs.size, _, I1, rfl, ⟨_, x, y, rfl, I.hok.fresh (Nat.le_refl _), rfl, fun l hl => ?_, fun l hl => ?_⟩, ⟨w1', ?_, ⟨u1, u2, ?_⟩, ?_, ?_⟩, fun c hcm => ?_⟩
    · rw [I.list_inj hl sx]; exact hx
    · rw [I.tuple_inj hl sy]; exact hy
    · exact (sb.2 _ S.TIz).trans (w7 _ _ S.TIz S.TITO S.TIi1 S.TIi2 q2)
    · exact (sb.2 _ S.TOz).trans w2
    · exact w3.1.at fun o e => (sb.2 _ S.zi1.symm).trans e
    · exact w4.1.at fun o e => (sb.2 _ S.zi2.symm).trans e
    · have lt : c < s.heap.objs.size := by
        rcases five hcm with rfl | rfl | rfl | rfl | rfl
        · exact zl
        · exact Heap.lt_size q2
        · exact Heap.lt_size q3
        · obtain ⟨_, e, _⟩ := q4; exact Heap.lt_size e
        · obtain ⟨_, e, _⟩ := q5; exact Heap.lt_size e
      rw [upd_ne (Nat.ne_of_lt lt)]
      exact (hf c hcm).1
  done := by
    intro X hP hw hK hc i pins s σ H E I hf st go
    subst hP hw hK
    obtain ⟨q1, q2, ⟨x0, y0, q3⟩, q4, q5⟩ := st
    obtain ⟨xs, ys, sx, sy, h1, h2, h3⟩ := go
    obtain ⟨l1, r1, p1, _⟩ := I.list sx
    obtain ⟨l2, r2, p2, _⟩ := I.tuple sy
    have e1 := r1.length
    have e2 := r2.length
    have hh := I.ok.hd hc
    have D1 := Draws.list (prog := X.prog) (w := X.w) (A := X.A.in1) hh i1 a na l1.toArray
    have D2 := Draws.tuple (prog := X.prog) (w := X.w) (A := X.A.in1) hh i2 b nb l2.toArray
    refine wpAny_pyNext_zipD2_end S D1 D2 q1 q2 q3 ⟨q4, p1.isList⟩ ⟨q5, p2⟩ (by rw [List.size_toArray]; omega) (by rw [List.size_toArray]; omega) (by rw [List.size_toArray, List.size_toArray]; omega) fun h' tk k => ⟨rfl, ?_⟩
    exact I.turnedL (ch := [z, TI, TO, i1, i2]) (fun c o hb e => k c o (fun q => hb (by simp [q])) (fun q => hb (by simp [q])) (fun q => hb (by simp [q])) (fun q => hb (by simp [q])) e) hf
  self := fun A i s Q E st h => wpAny_pyIter_zip st.1 h
/-- zip(a list or a tuple, a tuple) -/
def iZipS (K : PySem.W.Frag) (ta : TA) : TI := fun σ H R => ta σ H fun vs H1 => ∃ a b xs ys, vs = [.ref a, .ref b] ∧ SqL K H1 a xs ∧ SqT K H1 b ys ∧ R (ItzM K a b) H1
theorem pi_zipM {X : Cx} {e e2 : Expr} {ta : TA} {p pos tpos : Pos} {elts : List Expr} {kk : Nat} (hg : Gl X "zip") (hm : X.mg "zip" = none) (ha : PA X [e, e2] ta)
    (hs : starEach [e, e2] X.env = (false, eval e X.env) :: starEach [e2] X.env := by rfl) (hpl : (backTo pos (starEach [e2] X.env)).any (·.1) = false := by rfl) :
    PI X (.Tuple elts kk tpos) (.Call (.Name "zip" p) [e, e2] [] pos) (iZipS X.K ta) := by
  refine ⟨fun pins s σ H R I h => Call_ (ld_blt I hg hm PyProof.Rows.boot_zip (PyProof.Rows.callWith_type1 (thn (ha.run pos pins s σ H _ I h) fun us s1 ⟨vs, H1, I1, r1, q⟩ => ?_) hs hpl))⟩
  obtain ⟨a, b, xs, ys, rfl, sx, sy, q⟩ := q
  obtain ⟨u, v, rfl, ru, rv⟩ := vals2 r1
  cases ru
  cases rv
  obtain ⟨l1, r1, p1, _⟩ := I1.list sx
  obtain ⟨l2, r2, p2, _⟩ := I1.tuple sy
  have la : a < s1.heap.objs.size := p1.lt
  have lb : b < s1.heap.objs.size := by
    obtain ⟨o, e, _⟩ := id p2
    exact Heap.lt_size e
  have S := zip_sep2 (N := s1.heap.objs.size) (fp1 := [a]) (fp2 := [b]) (fun c hc => by simp at hc; rw [hc]; exact la) (fun c hc => by simp at hc; rw [hc]; exact lb)
  refine zip_begins2 (begins_list a l1.toArray) (begins_tuple b l2.toArray) p1.isList p2 fun h' w1 w2 w3 w4 w5 w6 k => wpAny_pyIter_zip w1 ?_
  have I2 : Inv X pins σ H1 { s1 with heap := h' } := I1.kept k
  refine ⟨s1.heap.objs.size + 4, [s1.heap.objs.size + 4, s1.heap.objs.size + 2, s1.heap.objs.size + 3, s1.heap.objs.size, s1.heap.objs.size + 1], _, _, H1, rfl, I2, turn_zipM S (Nat.ne_of_lt la) (Nat.ne_of_lt (Nat.lt_succ_of_lt lb)), ⟨w1, w2, ⟨_, _, w3⟩, ⟨_, w4, rfl, rfl⟩, ⟨_, w5, rfl, rfl⟩⟩, fun c hcm => ?_, q⟩
  have le : s1.heap.objs.size ≤ c := by
    rcases five hcm with rfl | rfl | rfl | rfl | rfl
    · exact Nat.le_add_right _ _
    · exact Nat.le_add_right _ _
    · exact Nat.le_add_right _ _
    · exact Nat.le_refl _
    · exact Nat.le_add_right _ _
  exact I1.fpOk le (I1.hok.fresh le)
theorem pi_zipX {X : Cx} {e e2 : Expr} {ta : TA} {p pos tpos : Pos} {elts : List Expr} {kk : Nat} (hg : Gl X "zip") (hm : X.mg "zip" = none) (ha : PA X [e, e2] ta)
    (hs : starEach [e, e2] X.env = (false, eval e X.env) :: starEach [e2] X.env := by rfl) (hpl : (backTo pos (starEach [e2] X.env)).any (·.1) = false := by rfl) :
    PI X (.Tuple elts kk tpos) (.Call (.Name "zip" p) [e, e2] [] pos) (fun σ H R => iZipS X.K ta σ H R ∨ RZ.iZipA X.K ta σ H R) :=
  ⟨fun pins s σ H R I h => h.elim ((pi_zipM hg hm ha hs hpl).run pins s σ H R I) ((RZ.pi_zipA hg hm ha hs hpl).run pins s σ H R I)⟩
/-- two tuples, in pairs -/
theorem walk_zipTT {K : PySem.W.Frag} {b c : Addr} {xs ys : List V} (h : xs.length = ys.length) : Walk (RZ.ItzT K b c) xs.length (fun H => SqT K H b xs ∧ SqT K H c ys) (YPair (fun i => xs[i]?) (fun i => ys[i]?)) := by
  refine ⟨fun i _ hi q => ⟨xs, ys, xs[i], ys[i]'(h ▸ hi), q.1, q.2, by simp [hi], by simp [h ▸ hi]⟩, fun _ q => ⟨xs, ys, q.1, q.2, .inl (Nat.le_refl _)⟩, fun i H v H' _ q y => ?_⟩
  obtain ⟨t, x, z, h1, h2, h3, h4, h5⟩ := y
  exact ⟨t, x, z, h1, h2, h3, h4 xs q.1, h5 ys q.2⟩
theorem walk_zipM {K : PySem.W.Frag} {a b : Addr} {xs ys : List V} (h : xs.length = ys.length) : Walk (ItzM K a b) xs.length (fun H => SqL K H a xs ∧ SqT K H b ys) (YPair (fun i => xs[i]?) (fun i => ys[i]?)) := by
  refine ⟨fun i _ hi q => ⟨xs, ys, xs[i], ys[i]'(h ▸ hi), q.1, q.2, by simp [hi], by simp [h ▸ hi]⟩, fun _ q => ⟨xs, ys, q.1, q.2, Nat.le_refl _, by omega, .inl rfl⟩, fun i H v H' _ q y => ?_⟩
  obtain ⟨t, x, z, h1, h2, h3, h4, h5⟩ := y
  exact ⟨t, x, z, h1, h2, h3, h4 xs q.1, h5 ys q.2⟩
end Ew

set_option Elab.async false
set_option linter.all false
set_option maxRecDepth 100000
set_option maxHeartbeats 4000000
namespace Ew
open PySem PySem.Spec PyProof.Rows L2
/-! ### zip(a tuple, a list) -/
def ItzN (K : PySem.W.Frag) (a b : Addr) : It where
  go := fun i H => ∃ (xs ys : List V) (x y : V), SqT K H a xs ∧ SqL K H b ys ∧ xs[i]? = some x ∧ ys[i]? = some y
  yld := fun i H v H' => ∃ T x y, v = .ref T ∧ H T = none ∧ H' = upd H T (.tup [x, y]) ∧ (∀ xs, SqT K H a xs → xs[i]? = some x) ∧ ∀ ys, SqL K H b ys → ys[i]? = some y
  stop := fun i H => ∃ xs ys : List V, SqT K H a xs ∧ SqL K H b ys ∧ i ≤ xs.length ∧ i ≤ ys.length ∧ (i = xs.length ∨ i = ys.length)
def TnN (z TI TO i1 i2 a b : Addr) (i : Nat) (h : Heap) : Prop := IsZip h z TI TO .none ∧ IsTupOf2 h TI (.ref i1) (.ref i2) ∧ (∃ x y, IsTupOf2 h TO x y) ∧ h.IsTupleIter i1 a i ∧ h.IsListIter i2 b i
theorem turn_zipN {P : Program} {w : World} {K : PySem.W.Frag} {elts : List Expr} {kk : Nat} {tpos : Pos} {a b z TI TO i1 i2 : Addr} (S : ZipSep2 z TI TO i1 i2 [i1, a] [i2, b]) (na : a ≠ i1) (nb : b ≠ i2) :
    Turn P w K (.Tuple elts kk tpos) (ItzN K a b) [z, TI, TO, i1, i2] z (TnN z TI TO i1 i2 a b) where
  mem := List.mem_cons_self
  obj := fun i h st c hc => by
    obtain ⟨q1, q2, ⟨_, _, q3⟩, ⟨o4, q4, _, d4⟩, ⟨o5, q5, _, d5⟩⟩ := st
    rcases five hc with rfl | rfl | rfl | rfl | rfl
    · exact ⟨_, q1, fun v e => nomatch e⟩
    · exact ⟨_, q2, fun v e => nomatch e⟩
    · exact ⟨_, q3, fun v e => nomatch e⟩
    · exact ⟨o4, q4, fun v e => by rw [d4] at e; cases e⟩
    · exact ⟨o5, q5, fun v e => by rw [d5] at e; cases e⟩
  keep := fun i h h' st k => by
    obtain ⟨q1, q2, ⟨x, y, q3⟩, q4, q5⟩ := st
    refine ⟨k _ List.mem_cons_self _ q1, k _ (by simp) _ q2, ⟨x, y, k _ (by simp) _ q3⟩, q4.at fun o e => ?_, q5.at fun o e => ?_⟩
    · exact k _ (by simp) o e
    · exact k _ (by simp) o e
  item := by
    intro X hP hw hK hc i pins s σ H E I hf st go
    subst hP hw hK
    obtain ⟨q1, q2, ⟨x0, y0, q3⟩, q4, q5⟩ := st
    obtain ⟨xs, ys, x, y, sx, sy, hx, hy⟩ := go
    obtain ⟨l1, r1, p1, _⟩ := I.tuple sx
    obtain ⟨l2, r2, p2, _⟩ := I.list sy
    obtain ⟨u1, hu1, ru1⟩ := r1.get hx
    obtain ⟨u2, hu2, ru2⟩ := r2.get hy
    have hh := I.ok.hd hc
    have D1 := Draws.tuple (prog := X.prog) (w := X.w) (A := X.A.in1) hh i1 a na l1.toArray
    have D2 := Draws.list (prog := X.prog) (w := X.w) (A := X.A.in1) hh i2 b nb l2.toArray
    have g1 : i < l1.toArray.size := by
      rw [List.size_toArray]
      exact (List.getElem?_eq_some_iff.mp hu1).1
    have g2 : i < l2.toArray.size := by
      rw [List.size_toArray]
      exact (List.getElem?_eq_some_iff.mp hu2).1
    have zl := Heap.lt_size q1
    refine wpAny_pyNext_zipD2_item S D1 D2 q1 q2 q3 ⟨q4, p1⟩ ⟨q5, p2.isList⟩ g1 g2 fun v1 v2 h' tk e1 e2 w1 w2 w3 w4 w5 w6 w7 => ?_
    rw [List.getElem?_toArray, hu1] at e1
    rw [List.getElem?_toArray, hu2] at e2
    cases e1
    cases e2
    refine ⟨_, rfl, wpAny_letOwnedTupleGo_zip (s := { s with heap := h', toks := tk }) w1 fun h'' w1' sb => ?_⟩
    have nw : h''.get? s.heap.objs.size = some { cls := .type "tuple", data := .seq #[u1, u2] } := (sb.2 _ (Nat.ne_of_gt zl)).trans w5
    have ob : ObjOk X.prog X.w (upd H s.heap.objs.size (.tup [x, y])) h'' s.heap.objs.size (.tup [x, y]) := by
      refine ⟨?_, [u1, u2], .cons ru1 (.cons ru2 .nil), ⟨_, nw, rfl, _, rfl⟩⟩
      show 2 ≤ sizeLine
      decide
    have off : ∀ c o, c ∉ [z, TI, TO, i1, i2] → s.heap.get? c = some o → h''.get? c = some o := fun c o hb e => by
      have n : c ≠ z ∧ c ≠ TO ∧ c ≠ i1 ∧ c ≠ i2 := ⟨fun q => hb (by simp [q]), fun q => hb (by simp [q]), fun q => hb (by simp [q]), fun q => hb (by simp [q])⟩
      exact (sb.2 c n.1).trans (w7 c o n.1 n.2.1 n.2.2.1 n.2.2.2 e)
    have I1 : Inv X pins σ (upd H s.heap.objs.size (.tup [x, y])) { s with heap := h'', toks := tk } := I.turnedNew off hf (Nat.le_refl _) ob
    refine ⟨.ref s.heap.objs.size, _, I1, rfl, ⟨_, x, y, rfl, I.hok.fresh (Nat.le_refl _), rfl, fun l hl => ?_, fun l hl => ?_⟩, ⟨w1', ?_, ⟨u1, u2, ?_⟩, ?_, ?_⟩, fun c hcm => ?_⟩
    · rw [I.tuple_inj hl sx]; exact hx
    · rw [I.list_inj hl sy]; exact hy
    · exact (sb.2 _ S.TIz).trans (w7 _ _ S.TIz S.TITO S.TIi1 S.TIi2 q2)
    · exact (sb.2 _ S.TOz).trans w2
    · exact w3.1.at fun o e => (sb.2 _ S.zi1.symm).trans e
    · exact w4.1.at fun o e => (sb.2 _ S.zi2.symm).trans e
    · have lt : c < s.heap.objs.size := by
        rcases five hcm with rfl | rfl | rfl | rfl | rfl
        · exact zl
        · exact Heap.lt_size q2
        · exact Heap.lt_size q3
        · obtain ⟨_, e, _⟩ := q4; exact Heap.lt_size e
        · obtain ⟨_, e, _⟩ := q5; exact Heap.lt_size e
      rw [upd_ne (Nat.ne_of_lt lt)]
      exact (hf c hcm).1
  done := by
    intro X hP hw hK hc i pins s σ H E I hf st go
    subst hP hw hK
    obtain ⟨q1, q2, ⟨x0, y0, q3⟩, q4, q5⟩ := st
    obtain ⟨xs, ys, sx, sy, h1, h2, h3⟩ := go
    obtain ⟨l1, r1, p1, _⟩ := I.tuple sx
    obtain ⟨l2, r2, p2, _⟩ := I.list sy
    have e1 := r1.length
    have e2 := r2.length
    have hh := I.ok.hd hc
    have D1 := Draws.tuple (prog := X.prog) (w := X.w) (A := X.A.in1) hh i1 a na l1.toArray
    have D2 := Draws.list (prog := X.prog) (w := X.w) (A := X.A.in1) hh i2 b nb l2.toArray
    refine wpAny_pyNext_zipD2_end S D1 D2 q1 q2 q3 ⟨q4, p1⟩ ⟨q5, p2.isList⟩ (by rw [List.size_toArray]; omega) (by rw [List.size_toArray]; omega) (by rw [List.size_toArray, List.size_toArray]; omega) fun h' tk k => ⟨rfl, ?_⟩
    exact I.turnedL (ch := [z, TI, TO, i1, i2]) (fun c o hb e => k c o (fun q => hb (by simp [q])) (fun q => hb (by simp [q])) (fun q => hb (by simp [q])) (fun q => hb (by simp [q])) e) hf
  self := fun A i s Q E st h => wpAny_pyIter_zip st.1 h
def iZipN (K : PySem.W.Frag) (ta : TA) : TI := fun σ H R => ta σ H fun vs H1 => ∃ a b xs ys, vs = [.ref a, .ref b] ∧ SqT K H1 a xs ∧ SqL K H1 b ys ∧ R (ItzN K a b) H1
theorem pi_zipN {X : Cx} {e e2 : Expr} {ta : TA} {p pos tpos : Pos} {elts : List Expr} {kk : Nat} (hg : Gl X "zip") (hm : X.mg "zip" = none) (ha : PA X [e, e2] ta)
    (hs : starEach [e, e2] X.env = (false, eval e X.env) :: starEach [e2] X.env := by rfl) (hpl : (backTo pos (starEach [e2] X.env)).any (·.1) = false := by rfl) :
    PI X (.Tuple elts kk tpos) (.Call (.Name "zip" p) [e, e2] [] pos) (iZipN X.K ta) := by
  refine ⟨fun pins s σ H R I h => Call_ (ld_blt I hg hm PyProof.Rows.boot_zip (PyProof.Rows.callWith_type1 (thn (ha.run pos pins s σ H _ I h) fun us s1 ⟨vs, H1, I1, r1, q⟩ => ?_) hs hpl))⟩
  obtain ⟨a, b, xs, ys, rfl, sx, sy, q⟩ := q
  obtain ⟨u, v, rfl, ru, rv⟩ := vals2 r1
  cases ru
  cases rv
  obtain ⟨l1, r1, p1, _⟩ := I1.tuple sx
  obtain ⟨l2, r2, p2, _⟩ := I1.list sy
  have lb : b < s1.heap.objs.size := p2.lt
  have la : a < s1.heap.objs.size := by
    obtain ⟨o, e, _⟩ := id p1
    exact Heap.lt_size e
  have S := zip_sep2 (N := s1.heap.objs.size) (fp1 := [a]) (fp2 := [b]) (fun c hc => by simp at hc; rw [hc]; exact la) (fun c hc => by simp at hc; rw [hc]; exact lb)
  refine zip_begins2 (begins_tuple a l1.toArray) (begins_list b l2.toArray) p1 p2.isList fun h' w1 w2 w3 w4 w5 w6 k => wpAny_pyIter_zip w1 ?_
  have I2 : Inv X pins σ H1 { s1 with heap := h' } := I1.kept k
  refine ⟨s1.heap.objs.size + 4, [s1.heap.objs.size + 4, s1.heap.objs.size + 2, s1.heap.objs.size + 3, s1.heap.objs.size, s1.heap.objs.size + 1], _, _, H1, rfl, I2, turn_zipN S (Nat.ne_of_lt la) (Nat.ne_of_lt (Nat.lt_succ_of_lt lb)), ⟨w1, w2, ⟨_, _, w3⟩, ⟨_, w4, rfl, rfl⟩, ⟨_, w5, rfl, rfl⟩⟩, fun c hcm => ?_, q⟩
  have le : s1.heap.objs.size ≤ c := by
    rcases five hcm with rfl | rfl | rfl | rfl | rfl
    · exact Nat.le_add_right _ _
    · exact Nat.le_add_right _ _
    · exact Nat.le_add_right _ _
    · exact Nat.le_refl _
    · exact Nat.le_add_right _ _
  exact I1.fpOk le (I1.hok.fresh le)
theorem pi_zipY {X : Cx} {e e2 : Expr} {ta : TA} {p pos tpos : Pos} {elts : List Expr} {kk : Nat} (hg : Gl X "zip") (hm : X.mg "zip" = none) (ha : PA X [e, e2] ta)
    (hs : starEach [e, e2] X.env = (false, eval e X.env) :: starEach [e2] X.env := by rfl) (hpl : (backTo pos (starEach [e2] X.env)).any (·.1) = false := by rfl) :
    PI X (.Tuple elts kk tpos) (.Call (.Name "zip" p) [e, e2] [] pos) (fun σ H R => iZipN X.K ta σ H R ∨ RZ.iZipA X.K ta σ H R) :=
  ⟨fun pins s σ H R I h => h.elim ((pi_zipN hg hm ha hs hpl).run pins s σ H R I) ((RZ.pi_zipA hg hm ha hs hpl).run pins s σ H R I)⟩
theorem walk_zipN {K : PySem.W.Frag} {a b : Addr} {xs ys : List V} (h : xs.length = ys.length) : Walk (ItzN K a b) xs.length (fun H => SqT K H a xs ∧ SqL K H b ys) (YPair (fun i => xs[i]?) (fun i => ys[i]?)) := by
  refine ⟨fun i _ hi q => ⟨xs, ys, xs[i], ys[i]'(h ▸ hi), q.1, q.2, by simp [hi], by simp [h ▸ hi]⟩, fun _ q => ⟨xs, ys, q.1, q.2, Nat.le_refl _, by omega, .inl rfl⟩, fun i H v H' _ q y => ?_⟩
  obtain ⟨t, x, z, h1, h2, h3, h4, h5⟩ := y
  exact ⟨t, x, z, h1, h2, h3, h4 xs q.1, h5 ys q.2⟩
theorem walk_zipLL {K : PySem.W.Frag} {b c : Addr} {xs ys : List V} (h : xs.length = ys.length) : Walk (Itz K b c) xs.length (fun H => SqL K H b xs ∧ SqL K H c ys) (YPair (fun i => xs[i]?) (fun i => ys[i]?)) := by
  refine ⟨fun i _ hi q => ⟨xs, ys, xs[i], ys[i]'(h ▸ hi), q.1, q.2, by simp [hi], by simp [h ▸ hi]⟩, fun _ q => ⟨xs, ys, q.1, q.2, .inl (Nat.le_refl _)⟩, fun i H v H' _ q y => ?_⟩
  obtain ⟨t, x, z, h1, h2, h3, h4, h5⟩ := y
  exact ⟨t, x, z, h1, h2, h3, h4 xs q.1, h5 ys q.2⟩
end Ew

set_option Elab.async false
set_option linter.all false
set_option maxRecDepth 100000
set_option maxHeartbeats 4000000
namespace K52
open PySem PySem.Spec PyProof.Rows L2 Ew
/-! ### tables in the heap -/
def rowV (n : Nat) (g : Nat → Int) : List V := (List.range n).map fun j => V.int (g j)
theorem rowV_len {n : Nat} {g : Nat → Int} : (rowV n g).length = n := by simp [rowV]
theorem rowV_at {n j : Nat} {g : Nat → Int} (h : j < n) : (rowV n g)[j]? = some (.int (g j)) := by
  unfold rowV
  rw [List.getElem?_map, List.getElem?_range h]
  rfl
theorem rowV_get {n j : Nat} {g : Nat → Int} {y : V} (h : (rowV n g)[j]? = some y) : j < n ∧ y = .int (g j) := by
  have hj : j < n := by
    have := (List.getElem?_eq_some_iff.mp h).1
    rwa [rowV_len] at this
  rw [rowV_at hj] at h
  cases h
  exact ⟨hj, rfl⟩
theorem rowV_of {n : Nat} {g : Nat → Int} {ys : List V} (hl : ys.length = n) (h : ∀ j y, ys[j]? = some y → y = V.int (g j)) : ys = rowV n g := by
  refine List.ext_getElem? fun j => ?_
  rcases Nat.lt_or_ge j n with hj | hj
  · rw [rowV_at hj]
    have : j < ys.length := by omega
    rw [List.getElem?_eq_getElem this, h j _ (List.getElem?_eq_getElem this)]
  · rw [List.getElem?_eq_none (by omega), List.getElem?_eq_none (by rw [rowV_len]; omega)]
theorem rowV_congr {n : Nat} {g g' : Nat → Int} (h : ∀ j, j < n → g j = g' j) : rowV n g = rowV n g' :=
  rowV_of rowV_len fun j y e => by obtain ⟨h1, rfl⟩ := rowV_get e; rw [h j h1]
/-- a list, or (t) a tuple -/
def Sq (K : PySem.W.Frag) (t : Bool) (H : Hp) (p : Addr) (xs : List V) : Prop := if t = true then SqT K H p xs else SqL K H p xs
section
variable {K : PySem.W.Frag} {t : Bool} {F H H' : Hp} {p q : Addr} {xs ys : List V} {v : V} {n : Nat} {f g : Tb2}
theorem Sq.up (h : Sq K t H p xs) (e : Same H H') : Sq K t H' p xs := by
  cases t
  · exact upL e h
  · exact upT e h
theorem Sq.row (h : Sq K t H p xs) : SqL K H p xs ∨ SqT K H p xs := by
  cases t
  · exact .inl h
  · exact .inr h
/-- a table of n rows of n numbers -/
def Tb (K : PySem.W.Frag) (t : Bool) (H : Hp) (v : V) (n : Nat) (f : Tb2) : Prop := ∃ p us, v = .ref p ∧ Sq K t H p us ∧ us.length = n ∧ ∀ (i : Nat) u, us[i]? = some u → ∃ q, u = .ref q ∧ Sq K t H q (rowV n (f i))
theorem Tb.up (h : Tb K t H v n f) (e : Same H H') : Tb K t H' v n f := by
  obtain ⟨p, us, h1, h2, h3, h4⟩ := h
  exact ⟨p, us, h1, h2.up e, h3, fun i u hu => by obtain ⟨q, h5, h6⟩ := h4 i u hu; exact ⟨q, h5, h6.up e⟩⟩
theorem Tb.congr (h : Tb K t H v n f) (e : ∀ a b, a < n → b < n → f a b = g a b) : Tb K t H v n g := by
  obtain ⟨p, us, h1, h2, h3, h4⟩ := h
  refine ⟨p, us, h1, h2, h3, fun i u hu => ?_⟩
  obtain ⟨q, h5, h6⟩ := h4 i u hu
  have hi : i < n := by
    have := (List.getElem?_eq_some_iff.mp hu).1
    omega
  exact ⟨q, h5, by rw [← rowV_congr fun j hj => e i j hi hj]; exact h6⟩
theorem sq_pick {σ : L2.St} {R : It → Hp → Prop} {i : Nat} (h0 : σ[i]? = some (some (.ref p))) (hp : Sq K t H p xs)
    (k : ∀ J G, Walk J xs.length G (YAt xs) → (∀ H2, Sq K t H2 p xs → G H2) → R J H) : iList K (tVar i) σ H R ∨ iTup K (tVar i) σ H R := by
  cases t
  · exact .inl ⟨_, h0, p, rfl, ⟨xs, hp⟩, k _ _ walk_list fun H2 e2 => e2⟩
  · exact .inr ⟨_, h0, p, rfl, ⟨xs, hp⟩, k _ _ walk_tup fun H2 e2 => e2⟩
theorem zip_pick {σ : L2.St} {R : It → Hp → Prop} {i j : Nat} (h0 : σ[i]? = some (some (.ref p))) (h1 : σ[j]? = some (some (.ref q))) (hp : Sq K t H p xs) (hq : Sq K t H q ys) (hl : xs.length = ys.length)
    (k : ∀ J G, Walk J xs.length G (YPair (fun i => xs[i]?) (fun i => ys[i]?)) → (∀ H2, Sq K t H2 p xs → Sq K t H2 q ys → G H2) → R J H) : RZ.iZipA K (tCons (tVar i) (tCons (tVar j) tNil)) σ H R := by
  cases t
  · exact ⟨_, h0, _, h1, p, q, xs, ys, rfl, .inl ⟨hp, hq, k _ _ (walk_zipLL hl) fun H2 e2 e3 => ⟨e2, e3⟩⟩⟩
  · exact ⟨_, h0, _, h1, p, q, xs, ys, rfl, .inr ⟨hp, hq, k _ _ (walk_zipTT hl) fun H2 e2 e3 => ⟨e2, e3⟩⟩⟩
theorem for_sq {σ : L2.St} {g : TG} {tb : TS} {D : Ends} {i : Nat} (h0 : σ[i]? = some (some (.ref p))) (hp : Sq K t H p xs) (Pv : Nat → L2.St → Hp → Prop) (a0 : Pv 0 σ H) (hG : ∀ i σ H', Pv i σ H' → Sq K t H' p xs)
    (hs : ∀ i x σ H H', i < xs.length → Pv i σ H → YAt xs i H x H' → g x σ H' fun σ2 H2 => tb { D with nx := Pv (i + 1), ct := Pv (i + 1), bk := D.nx } σ2 H2) (hd : ∀ σ H, Pv xs.length σ H → D.nx σ H) :
    tFor (fun σ H R => iList K (tVar i) σ H R ∨ iTup K (tVar i) σ H R) g tb D σ H :=
  sq_pick h0 hp fun J G wk hG2 => for_it wk Pv a0 (fun i σ H' _ z => hG2 _ (hG i σ H' z)) hs hd
theorem for_zip {σ : L2.St} {g : TG} {tb : TS} {D : Ends} {i j : Nat} (h0 : σ[i]? = some (some (.ref p))) (h1 : σ[j]? = some (some (.ref q))) (hp : Sq K t H p xs) (hq : Sq K t H q ys) (hl : xs.length = ys.length) (Pv : Nat → L2.St → Hp → Prop) (a0 : Pv 0 σ H) (hG : ∀ i σ H', Pv i σ H' → Sq K t H' p xs ∧ Sq K t H' q ys)
    (hs : ∀ i x σ H H', i < xs.length → Pv i σ H → YPair (fun i => xs[i]?) (fun i => ys[i]?) i H x H' → g x σ H' fun σ2 H2 => tb { D with nx := Pv (i + 1), ct := Pv (i + 1), bk := D.nx } σ2 H2) (hd : ∀ σ H, Pv xs.length σ H → D.nx σ H) :
    tFor (RZ.iZipA K (tCons (tVar i) (tCons (tVar j) tNil))) g tb D σ H :=
  zip_pick h0 h1 hp hq hl fun J G wk hG2 => for_it wk Pv a0 (fun i σ H' _ z => hG2 _ (hG i σ H' z).1 (hG i σ H' z).2) hs hd
theorem lc_zip {σ : L2.St} {g : TG} {tt : TT} {te : TE} {vs : List Nat} {Q : VK} {i j : Nat} (h0 : σ[i]? = some (some (.ref p))) (h1 : σ[j]? = some (some (.ref q))) (hp : Sq K t H p xs) (hq : Sq K t H q ys) (hl : xs.length = ys.length) (R : Nat → Hp → V → Prop) (hR : ∀ i F F' y, Same F F' → R i F y → R i F' y) (hn : xs.length ≤ 1000000)
    (hs : ∀ i x F' H' H'' (Kt : VK) (Kn : Hp → Prop), i < xs.length → Stp H H F' H' → YPair (fun i => xs[i]?) (fun i => ys[i]?) i H' x H'' → (∀ y F4 H4, Stp F' H' F4 H4 → R i F4 y → Kt y H4) →
      g x (wipe σ vs) H'' fun σ2 H2 => wipe σ2 vs = wipe σ vs ∧ tt σ2 H2 fun b H3 => if b = true then te σ2 H3 Kt else Kn H3)
    (hd : ∀ F' H' zs D, Stp H H F' H' → H D = none → F' D = some (.lst zs) → zs.length = xs.length → (∀ j y, zs[j]? = some y → R j F' y) → Q (.ref D) H') : tLc (RZ.iZipA K (tCons (tVar i) (tCons (tVar j) tNil))) g tt te vs σ H Q :=
  zip_pick h0 h1 hp hq hl fun J G wk hG D hD => lcM memP wk (.refl H) trivial hD R hR hn (fun F' H' e1 e2 => hG _ (hp.up (e1.trans e2)) (hq.up (e1.trans e2))) (fun i x F' H' H'' Kt Kn hi s1 _ y kk => hs i x F' H' H'' Kt Kn hi s1 y fun y F4 H4 s4 r4 => kk y F4 H4 s4 trivial r4) fun F' H' zs s1 _ hD' hl' hr => hd F' H' zs D s1 hD hD' hl' hr
theorem lc_sq {σ : L2.St} {g : TG} {tt : TT} {te : TE} {vs : List Nat} {Q : VK} {i : Nat} (h0 : σ[i]? = some (some (.ref p))) (hp : Sq K t H p xs) (R : Nat → Hp → V → Prop) (hR : ∀ i F F' y, Same F F' → R i F y → R i F' y) (hn : xs.length ≤ 1000000)
    (hs : ∀ i x F' H' H'' (Kt : VK) (Kn : Hp → Prop), i < xs.length → Stp H H F' H' → YAt xs i H' x H'' → (∀ y F4 H4, Stp F' H' F4 H4 → R i F4 y → Kt y H4) →
      g x (wipe σ vs) H'' fun σ2 H2 => wipe σ2 vs = wipe σ vs ∧ tt σ2 H2 fun b H3 => if b = true then te σ2 H3 Kt else Kn H3)
    (hd : ∀ F' H' zs D, Stp H H F' H' → H D = none → F' D = some (.lst zs) → zs.length = xs.length → (∀ j y, zs[j]? = some y → R j F' y) → Q (.ref D) H') : tLc (fun σ H R => iList K (tVar i) σ H R ∨ iTup K (tVar i) σ H R) g tt te vs σ H Q :=
  sq_pick h0 hp fun J G wk hG D hD => lcM memP wk (.refl H) trivial hD R hR hn (fun F' H' e1 e2 => hG _ (hp.up (e1.trans e2))) (fun i x F' H' H'' Kt Kn hi s1 _ y kk => hs i x F' H' H'' Kt Kn hi s1 y fun y F4 H4 s4 r4 => kk y F4 H4 s4 trivial r4) fun F' H' zs s1 _ hD' hl' hr => hd F' H' zs D s1 hD hD' hl' hr
end
section
variable {P : Program} {w : World} {K : PySem.W.Frag} {mg : Str → Option Value} {base : Heap} {a : Ad}
theorem if_tB {te : TE} {t u : TS} {D : Ends} {σ : L2.St} {H : Hp} (h : te σ H fun v H1 => ∃ b, v = .bl b ∧ if b = true then t D σ H1 else u D σ H1) : tIfS (tB te) t u D σ H := h
theorem cb1 {r : List V → Hp → VK → Prop} {te : TE} {σ : L2.St} {H : Hp} {Q : VK} (h : te σ H fun v H1 => r [v] H1 Q) : tCB r (tCons te tNil) σ H Q := h
def rTupS (K : PySem.W.Frag) : List V → Hp → VK → Prop := fun xs H Q => ∃ p ys, xs = [.ref p] ∧ ((SqL K H p ys ∧ ∀ l, H l = none → Q (.ref l) (upd H l (.tup ys))) ∨ (SqT K H p ys ∧ Q (.ref p) H))
theorem call_tupS {X : Cx} : CallR X (.type "tuple") (rTupS X.K) := call_tuple_of
def rLstS (K : PySem.W.Frag) : List V → Hp → VK → Prop := fun xs H Q => ∃ p ys, xs = [.ref p] ∧ (SqL K H p ys ∨ SqT K H p ys) ∧ ∀ l, H l = none → Q (.ref l) (upd H l (.lst ys))
theorem call_lstS {X : Cx} : CallR X (.type "list") (rLstS X.K) := call_list_of
def Tri (n : Nat) (f : Tb2) : Prop := ∀ a b c, a < n → b < n → c < n → f a c ≤ f a b + f b c
def sp_is_closed (K : PySem.W.Frag) : Sp := fun vs H Q _ => ∃ (t : Bool) (v : V) (n : Nat) (f : Tb2), vs = [v] ∧ Tb K t H v n f ∧ n ≤ 1000 ∧ ∀ H', Same H H' → (Tri n f → Q (.bl true) H') ∧ (¬ Tri n f → Q (.bl false) H')
theorem c_is_closed (T : Txt K mg a) : Cl P w K mg base 1 "is_closed" P_is_closed (sp_is_closed K) [] :=
  T.d_is_closed.cl sc_is_closed (fun vs H Q E h => by obtain ⟨t, v, n, f, rfl, _⟩ := h; rfl) fun f cdv A outer s H vs Q E hr h => by
    obtain ⟨t, _, n, f, rfl, ⟨p, us, rfl, hp, hl, hu⟩, hn, k⟩ := h
    refine ⟨_, ((pss_cons (ps_for (passes_of rfl) rfl (pi_seq (pv 0)) (pg_name (i := 1) sc_is_closed.nd rfl (Or.inl rfl))
 (pss_one (ps_for (passes_of rfl) rfl (RZ.pi_zipA (by rfl) T.n_zip (pa_cons (pv 1) (pa_cons (pv 0) pa_nil))) (pg_tup rfl (pgs_cons (pg_name (i := 2) sc_is_closed.nd rfl (Or.inr rfl)) (pgs_cons (pg_name (i := 3) sc_is_closed.nd rfl (Or.inl rfl)) pgs_nil)))
 (pss_one (ps_if (pt_val (pe_callB (cr_any rfl) (by rfl) T.n_any (by decide +kernel) (pa_cons (pe_lc (own := [("far", 4), ("near", 5)]) (g := (gTup K 2 (gCons (gName 4) (gCons (gName 5) gNil)))) (by rfl) sc_is_closed.nd (RZ.pi_zipA (by rfl) T.n_zip (pa_cons (pv 1) (pa_cons (pv 3) pa_nil))) (blkOk_by (own := [("far", 4), ("near", 5)]) (N := N_is_closed) (sc := defScope s_is_closed) (by decide +kernel)) (fun _ _ _ _ _ => (pg_tup rfl (pgs_cons (pg_name (i := 4) sc_is_closed.nd rfl (Or.inl rfl) (hf := .inr rfl)) (pgs_cons (pg_name (i := 5) sc_is_closed.nd rfl (Or.inl rfl) (hf := .inr rfl)) pgs_nil)))) (fun _ _ _ _ _ => pts_nil) (fun _ _ _ _ _ => (pe_cmpR op_gt (pv 4) (pe_op op_add (pv 2) (pv 5)) (nomark _)))) pa_nil)))
 (pss_one (ps_ret pe_bl))
 pss_nil)))))
 (pss_one (ps_ret pe_bl)))), ?_⟩
    refine for_sq (i := 0) rfl hp (fun j σ' H' => ∃ c1 c2 c3 c4 c5, σ' = [some (.ref p), c1, c2, c3, c4, c5] ∧ Same H H' ∧ ∀ a b c, a < j → b < n → c < n → f a c ≤ f a b + f b c) ?_ ?_ ?_ ?_
    · exact ⟨none, none, none, none, none, rfl, .refl H, fun a b c z => absurd z (Nat.not_lt_zero a)⟩
    · rintro j σ' H' ⟨c1, c2, c3, c4, c5, _, e1, _⟩
      exact hp.up e1
    · rintro i x _ _ H1 hi ⟨c1, c2, c3, c4, c5, rfl, e1, t1⟩ ⟨rfl, hx⟩
      obtain ⟨q, rfl, hq⟩ := hu i x hx
      have hin : i < n := by omega
      show tFor _ _ _ _ _ _
      refine for_zip (i := 1) (j := 0) rfl rfl (hq.up e1) (hp.up e1) (by rw [rowV_len, hl]) (fun j σ' H' => ∃ c2 c3 c4 c5, σ' = [some (.ref p), some (.ref q), c2, c3, c4, c5] ∧ Same H1 H' ∧ ∀ b c, b < j → c < n → f i c ≤ f i b + f b c) ?_ ?_ ?_ ?_
      · exact ⟨c2, c3, c4, c5, rfl, .refl H1, fun b c z => absurd z (Nat.not_lt_zero b)⟩
      · rintro j σ' H' ⟨c2, c3, c4, c5, _, e2, _⟩
        exact ⟨hq.up (e1.trans e2), hp.up (e1.trans e2)⟩
      · rintro j x _ H2 H3 hj ⟨c2, c3, c4, c5, rfl, e2, t2⟩ ⟨T1, y1, y2, rfl, hT, rfl, hy1, hy2⟩
        rw [rowV_len] at hj
        obtain ⟨_, rfl⟩ := rowV_get hy1
        obtain ⟨q2, rfl, hq2⟩ := hu j y2 hy2
        have e3 : Same H1 (upd H2 T1 (.tup [.int (f i j), .ref q2])) := e2.trans (same_new hT)
        refine ⟨T1, _, rfl, sq_new, rfl, _, _, rfl, _, _, rfl, rfl, ?_⟩
        generalize upd H2 T1 (.tup [.int (f i j), .ref q2]) = H3 at e3
        refine if_tB (cb1 ?_)
        refine lc_zip (i := 1) (j := 3) rfl rfl (hq.up (e1.trans e3)) (hq2.up (e1.trans e3)) (by rw [rowV_len, rowV_len]) (fun c _ y => y = V.bl (decide (f i c > f i j + f j c))) (fun _ _ _ _ _ z => z) (by rw [rowV_len]; omega) ?_ ?_
        · rintro c x F' H4 H'' Kt Kn hcn s4 ⟨T2, z1, z2, rfl, hT2, rfl, g1, g2⟩ kk
          rw [rowV_len] at hcn
          obtain ⟨_, rfl⟩ := rowV_get g1
          obtain ⟨_, rfl⟩ := rowV_get g2
          refine ⟨T2, _, rfl, sq_new, rfl, _, _, rfl, _, _, rfl, rfl, rfl, lc_yes ?_⟩
          refine ⟨_, rfl, _, rfl, _, rfl, _, _, rfl, rfl, _, _, rfl, rfl, ?_⟩
          exact kk _ _ _ ((Stm.refl s4.fh).newP hT2) rfl
        · intro F' H4 ys D s4 _ hD' hy hr'
          rw [rowV_len] at hy
          have eb : ys = ((List.range n).map fun c => decide (f i c > f i j + f j c)).map V.bl := List.ext_getElem? fun z => by
            rcases Nat.lt_or_ge z n with hz | hz
            · have : z < ys.length := by omega
              rw [List.getElem?_eq_getElem this, hr' z _ (List.getElem?_eq_getElem this), List.getElem?_map, List.getElem?_map, List.getElem?_range hz]
              rfl
            · rw [List.getElem?_eq_none (by omega), List.getElem?_eq_none (by simp; omega)]
          subst eb
          have s5 := s4.fh _ _ hD'
          refine ⟨D, _, rfl, SqL.of s5, _, rfl, ?_⟩
          have e5 := e3.trans (s4.ff.trans s4.fh)
          by_cases all : ∀ c, c < n → f i c ≤ f i j + f j c
          · have : ((List.range n).map fun c => decide (f i c > f i j + f j c)).any id = false := by
              rw [List.any_eq_false]
              intro b hb
              obtain ⟨c, hc, rfl⟩ := List.mem_map.mp hb
              have := all c (List.mem_range.mp hc)
              simp
              omega
            rw [this]
            refine iteF ⟨_, _, _, _, rfl, e5, fun b c hb hc => ?_⟩
            by_cases ej : b = j
            · rw [ej]
              exact all c hc
            · exact t2 b c (by omega) hc
          · have : ((List.range n).map fun c => decide (f i c > f i j + f j c)).any id = true := by
              obtain ⟨c, hc⟩ := Classical.not_forall.mp all
              obtain ⟨hc, hn2⟩ := Classical.not_imp.mp hc
              rw [List.any_eq_true]
              exact ⟨_, List.mem_map.mpr ⟨c, List.mem_range.mpr hc, rfl⟩, decide_eq_true (by omega)⟩
            rw [this]
            exact iteT ((k _ (e1.trans e5)).2 fun z => all fun c hc => z i j c hin hj hc)
      · rintro _ H2 ⟨c2, c3, c4, c5, rfl, e2, t2⟩
        rw [rowV_len] at t2
        refine ⟨_, _, _, _, _, rfl, e1.trans e2, fun x b c hx hb hc => ?_⟩
        by_cases ex : x = i
        · rw [ex]
          exact t2 b c hb hc
        · exact t1 x b c (by omega) hb hc
    · rintro _ H1 ⟨c1, c2, c3, c4, c5, rfl, e1, t1⟩
      rw [hl] at t1
      exact (k _ e1).1 t1
end
end K52

set_option Elab.async false
set_option linter.all false
set_option maxRecDepth 100000
set_option maxHeartbeats 4000000
namespace Ew
open PySem PySem.Spec PyProof.Rows L2
/-! ### a dict whose keys are tuples, wherever these stand (a tuple that the top wrote too) -/
abbrev KX (K : PySem.W.Frag) (H : Hp) : List (List Key × V) → List (List Key × Addr × Value) → Prop := Paired fun p q => p.1 = q.1 ∧ SqT K H q.2.1 (p.1.map kV) ∧ RelV p.2 q.2.2
theorem KX.val {K : PySem.W.Frag} {H : Hp} {kvs : List (List Key × V)} {xs : List (List Key × Addr × Value)} (r : KX K H kvs xs) (k : List Key) : RelO (valV kvs k) ((atKey xs k).map (·.2)) := by
  induction r with
  | nil => exact True.intro
  | @cons p q ps qs h t ih =>
    obtain ⟨h1, _, h2⟩ := h
    by_cases e : p.1 = k
    · have e' : q.1 = k := h1.symm.trans e
      have b : atKey (q :: qs) k = some q.2 := by simp [atKey, List.find?_cons, e']
      rw [valV_pos e, b]; exact h2
    · have e' : ¬ q.1 = k := fun z => e (h1.trans z)
      have b : atKey (q :: qs) k = atKey qs k := by simp [atKey, List.find?_cons, e']
      rw [valV_neg e, b]; exact ih
/-- the object of such a dict -/
def dxO (P : Program) (w : World) (d : Addr) (xs : List (List Key × Addr × Value)) : Heap → Prop := fun h => (d == sysModules) = false ∧ ∃ o es ep, h.get? d = some o ∧ o.ExactDict ∧ o.data = .dict es ep ∧ es.toList = xs.map (entryOfKey (tupleKind (mixKind P w))) ∧ (xs.map (·.1)).Nodup
def Dtx (P : Program) (w : World) (K : PySem.W.Frag) (H : Hp) (d : Addr) (kvs : List (List Key × V)) : Prop := kvs.length ≤ sizeLine ∧ ∃ xs, KX K H kvs xs ∧ H d = some (.ext (dxO P w d xs))
section
variable {P : Program} {w : World} {K : PySem.W.Frag} {H H' : Hp} {d : Addr} {kvs : List (List Key × V)}
theorem Dtx.up (h : Dtx P w K H d kvs) (e : Same H H') : Dtx P w K H' d kvs := by
  obtain ⟨h1, xs, h2, h3⟩ := h
  exact ⟨h1, xs, Paired.mapP h2 fun _ _ z => ⟨z.1, upT e z.2.1, z.2.2⟩, e _ _ h3⟩
theorem Dtx.there (h : Dtx P w K H d kvs) : H d ≠ none := by
  obtain ⟨_, xs, _, h3⟩ := h
  rw [h3]
  exact fun z => nomatch z
theorem dxO_ok {h : Heap} {xs : List (List Key × Addr × Value)} (x : dxO P w d xs h) : ObjOk P w H h d (.ext (dxO P w d xs)) := by
  obtain ⟨h1, o, es, ep, h2, h3⟩ := id x
  refine ⟨x, ⟨o, h2⟩, fun a b z k => ?_⟩
  obtain ⟨z1, o', es', ep', z2, z3⟩ := z
  exact ⟨z1, o', es', ep', k _ z2, z3⟩
end
section
variable {X : Cx} {pins : List (Addr × Obj)} {σ : L2.St} {H : Hp} {s : Shared}
theorem key_sq (I : Inv X pins σ H s) {a : Addr} {ks : List Key} (e : SqT X.K H a (ks.map kV)) : (tupleKind (mixKind X.prog X.w)).is s.heap ks a := by
  obtain ⟨its, r, ⟨o, h1, h2, n, h3⟩, _⟩ := I.tuple e
  exact ⟨o, its.toArray, n, h1, h2, h3, by simpa using items_are r⟩
theorem dx_at (I : Inv X pins σ H s) {d : Addr} {kvs : List (List Key × V)} (h : Dtx X.prog X.w X.K H d kvs) : (d == sysModules) = false ∧ ∃ xs, KX X.K H kvs xs ∧ H d = some (.ext (dxO X.prog X.w d xs)) ∧ s.heap.DictOfH (tupleKind (mixKind X.prog X.w)) d xs := by
  obtain ⟨_, xs, r, e⟩ := h
  obtain ⟨⟨y, o, es, ep, h1, h2, h3, h4, h5⟩, _⟩ := (show ObjOk X.prog X.w H s.heap d (.ext (dxO X.prog X.w d xs)) from I.hok d _ e)
  refine ⟨y, xs, r, e, o, es, ep, h1, h2, h3, h4, fun x hx => ?_, h5⟩
  have all : ∀ {l : List (List Key × V)} {m : List (List Key × Addr × Value)}, KX X.K H l m → ∀ x ∈ m, (tupleKind (mixKind X.prog X.w)).is s.heap x.1 x.2.1 := by
    intro l m q
    induction q with
    | nil => intro x hx; exact nomatch hx
    | @cons p q ps qs hq t ih =>
      intro x hx
      rcases List.mem_cons.mp hx with e | hx
      · subst e
        exact key_sq I (by rw [← hq.1]; exact hq.2.1)
      · exact ih x hx
  exact all r x hx
theorem sqT_but {K : PySem.W.Frag} {d q : Addr} {φ : Heap → Prop} {o : HO} {xs : List V} (h : SqT K H q xs) (e : H d = some (.ext φ)) : SqT K (upd H d o) q xs := by
  rcases h with h | h
  · refine .inl ?_
    rcases h with h | ⟨u, h⟩
    · exact .inl (by rw [upd_ne (fun z => by rw [z, e] at h; cases h)]; exact h)
    · exact .inr ⟨u, by rw [upd_ne (fun z => by rw [z, e] at h; cases h)]; exact h⟩
  · exact .inr h
end
section
variable {X : Cx} {o i e value : Expr} {pos pos' tpos : Pos} {td ty tv : TE}
def tDNewX (P : Program) (w : World) (K : PySem.W.Frag) : TE := fun _ H Q => ∀ p u, H p = none → Dtx P w K (upd H p u) p [] → Q (.ref p) (upd H p u)
theorem pe_dnewX : PE X (.Dict [] [] pos) (tDNewX X.prog X.w X.K) := ⟨fun pins s σ H Q I h =>
  wpAny_Dict_empty ⟨.ref s.heap.objs.size, _, I.laid (a := s.heap.objs.size) (o := .ext (dxO X.prog X.w s.heap.objs.size [])) (t' := s.toks) (fun _ _ q => Heap.get?_push_of_some _ q) (Nat.le_refl _)
    (dxO_ok ⟨beq_eq_false_iff_ne.mpr (Ne.symm (Nat.ne_of_lt I.big)), _, #[], 0, Heap.get?_push_size _ rfl, ⟨rfl, rfl, rfl⟩, rfl, rfl, List.nodup_nil⟩), rfl,
    h _ _ (I.hok.fresh (Nat.le_refl _)) ⟨Nat.zero_le _, [], .nil, upd_same⟩⟩⟩
def tDInX (P : Program) (w : World) (K : PySem.W.Frag) (ty td : TE) : TE := fun σ H Q => ty σ H fun y H1 => td σ H1 fun x H2 => ∃ d b kvs k, x = .ref d ∧ y = .ref b ∧ Dtx P w K H2 d kvs ∧ SqT K H2 b (k.map kV) ∧ Q (.bl (valV kvs k).isSome) H2
theorem pc_dinX (hu : X.A.units + 1 < cLine) (hi : PE X i ty) (ho : PE X o td) : PC X .In i o (tDInX X.prog X.w X.K ty td) := by
  refine ⟨fun pins s σ H Q I h => ?_⟩
  refine thn (hi.run pins s σ H _ I h) fun iv s1 ⟨y, H1, I1, ry, q1⟩ => thn (ho.run pins s1 σ H1 _ I1 q1) fun u s2 ⟨x, H2, I2, rx, d, b, kvs, k, ex, ey, hd, hk, q2⟩ => ?_
  subst ex ey
  obtain rfl : u = Value.ref d := rx
  obtain rfl : iv = Value.ref b := ry
  obtain ⟨ns, xs, rel, _, dd⟩ := dx_at I2 hd
  refine wpAny_in_heap (tupleKind_room_in1 hu) (key_sq I2 hk) ns dd ?_
  have q := (rel.val k).isSome_eq
  rw [Option.isSome_map] at q
  rw [← q]
  exact ⟨.bl _, H2, I2.tok _, rfl, q2⟩
def tDGetX (P : Program) (w : World) (K : PySem.W.Frag) (td ty : TE) : TE := fun σ H Q => td σ H fun x H1 => ty σ H1 fun y H2 => ∃ d b kvs k v, x = .ref d ∧ y = .ref b ∧ Dtx P w K H2 d kvs ∧ SqT K H2 b (k.map kV) ∧ valV kvs k = some v ∧ Q v H2
theorem pe_dgetX (hu : X.A.units + 1 < cLine) (ho : PE X o td) (hi : PE X i ty) (hs : NoSl i) : PE X (.Subscript o i pos) (tDGetX X.prog X.w X.K td ty) := by
  refine ⟨fun pins s σ H Q I h => ?_⟩
  refine subD_of PySem.F.slot_dict_getitem.lookup hs (thn (ho.run pins s σ H _ I h) fun u s1 ⟨x, H1, I1, rx, q1⟩ => thn (hi.run pins s1 σ H1 _ I1 q1) fun iv s2 ⟨y, H2, I2, ry, d, b, kvs, k, v, ex, ey, hd, hk, l, q2⟩ => ?_)
  subst ex ey
  obtain rfl : u = Value.ref d := rx
  obtain rfl : iv = Value.ref b := ry
  obtain ⟨ns, xs, rel, _, dd⟩ := dx_at I2 hd
  refine ⟨dd.typeIs, ?_⟩
  obtain ⟨w', hw, rw'⟩ := RelO.some_of (v := v) (o := (atKey xs k).map (·.2)) (by rw [← l]; exact rel.val k)
  obtain ⟨p, hp, hp2⟩ := Option.map_eq_some_iff.mp hw
  refine wpAny_getItem_heap (tupleKind_room_in1 hu) (key_sq I2 hk) dd hp ?_
  rw [hp2]
  exact ⟨v, H2, I2.tok _, rw', q2⟩
def sDPutX (P : Program) (w : World) (K : PySem.W.Frag) (td ty tv : TE) : TS := fun D σ H => tv σ H fun v H1 => td σ H1 fun x H2 => ty σ H2 fun y H3 => ∃ d b kvs k, x = .ref d ∧ y = .ref b ∧ Dtx P w K H3 d kvs ∧ SqT K H3 b (k.map kV) ∧ valV kvs k = none ∧ kvs.length < sizeLine ∧
  ∀ u, Dtx P w K (upd H3 d u) d (kvs ++ [(k, v)]) → D.nx σ (upd H3 d u)
theorem ps_dputX (hu : X.A.units + 1 < cLine) (ho : PE X o td) (hi : PE X i ty) (hv : PE X value tv) (hs : swapsWith value (some (.Subscript o i pos')) pos.line X.env = pure false) :
    PS X (.Assign [.Subscript o i pos'] value pos) (sDPutX X.prog X.w X.K td ty tv) := by
  refine ⟨fun pins s σ H D I h => ?_⟩
  refine wpAny_Assign_Subscript (thn (hv.run pins s σ H _ I h) fun r s1 ⟨v, H1, I1, rv, q1⟩ => thn (ho.run pins s1 σ H1 _ I1 q1) fun u s2 ⟨x, H2, I2, rx, q2⟩ => thn (hi.run pins s2 σ H2 _ I2 q2) fun iv s3 ⟨y, H3, I3, ry, d, b, kvs, k, ex, ey, hd, hk, nk, hl, q3⟩ => ?_) hs
  subst ex ey
  obtain rfl : u = Value.ref d := rx
  obtain rfl : iv = Value.ref b := ry
  obtain ⟨ns, xs, rel, hH, dd⟩ := dx_at I3 hd
  have hz : xs.length ≤ sizeLine := by rw [← Paired.length rel]; omega
  have ak : atKey xs k = none := by
    have := (rel.val k).isSome_eq
    rw [nk, Option.isSome_map] at this
    cases q : atKey xs k with
    | none => rfl
    | some z => rw [q] at this; cases this
  refine wpAny_setItem_heap (hsz := hz) (tupleKind_room_in1 hu) (key_sq I3 hk) dd fun h' dd' hs => ?_
  rw [storedH_new ak] at dd'
  obtain ⟨q, es, ep, hq, h2, h3, h4, _, h5⟩ := dd'
  refine ⟨σ, _, d_write (ob := .ext (dxO X.prog X.w d (xs ++ [(k, b, r)]))) I3 (by rw [hH]; exact True.intro) hs ⟨q, hq⟩ (dxO_ok ⟨ns, q, es, ep, hq, h2, h3, h4, h5⟩), q3 _ ⟨by rw [List.length_append, List.length_singleton]; omega, _, ?_, upd_same⟩⟩
  exact Paired.snoc (Paired.mapP rel fun _ _ z => ⟨z.1, sqT_but z.2.1 hH, z.2.2⟩) ⟨rfl, sqT_but hk hH, rv⟩
end
end Ew

set_option Elab.async false
set_option linter.all false
set_option maxRecDepth 100000
set_option maxHeartbeats 4000000
namespace K52
open PySem PySem.Spec PyProof.Rows L2 Ew
/-! ### where the spots stand -/
def ground : Spot := (⟨#[103, 114, 111, 117, 110, 100]⟩, 0, 0)
def plc : Nat → List Spot → List (List Key × V)
  | _, [] => []
  | n, p :: ps => (spK p, .int (n : Nat)) :: plc (n + 1) ps
theorem plc_len : ∀ (n : Nat) (ps : List Spot), (plc n ps).length = ps.length
  | _, [] => rfl
  | n, p :: ps => by rw [plc, List.length_cons, List.length_cons, plc_len]
theorem plc_snoc : ∀ (n : Nat) (ps : List Spot) (p : Spot), plc n (ps ++ [p]) = plc n ps ++ [(spK p, .int ((n + ps.length : Nat) : Int))]
  | _, [], _ => rfl
  | n, q :: ps, p => by
    rw [List.cons_append, plc, plc_snoc, plc, List.cons_append, List.length_cons]
    congr 5
    omega
theorem plc_none : ∀ {n : Nat} {ps : List Spot} {p : Spot}, p ∉ ps → valV (plc n ps) (spK p) = none
  | _, [], _, _ => rfl
  | n, q :: ps, p, h => by
    rw [plc, valV_neg (fun z => h (by rw [spK_inj z]; exact List.mem_cons_self))]
    exact plc_none fun z => h (List.mem_cons_of_mem _ z)
theorem plc_some : ∀ {n : Nat} {ps : List Spot} {p : Spot} {i : Nat}, ps.Nodup → ps[i]? = some p → valV (plc n ps) (spK p) = some (.int ((n + i : Nat) : Int))
  | _, [], _, _, _, h => by simp at h
  | n, q :: ps, p, 0, _, h => by
    cases h
    rw [plc, valV_pos rfl]
    rfl
  | n, q :: ps, p, i + 1, nd, h => by
    rw [List.nodup_cons] at nd
    have h : ps[i]? = some p := h
    rw [plc, valV_neg (fun z => nd.1 (by rw [spK_inj z]; exact List.mem_of_getElem? h)), plc_some nd.2 h]
    congr 3
    omega
theorem plc_in : ∀ {n : Nat} {ps : List Spot} {p : Spot}, p ∈ ps → (valV (plc n ps) (spK p)).isSome = true
  | n, q :: ps, p, h => by
    rw [plc]
    by_cases c : q = p
    · rw [valV_pos (by rw [c])]
      rfl
    · rw [valV_neg (fun z => c (spK_inj z))]
      refine plc_in ?_
      rcases List.mem_cons.mp h with h | h
      · exact absurd h.symm c
      · exact h
/-- a row of spots: ground first, none twice -/
structure OkS (ps : List Spot) : Prop where
  nd : ps.Nodup
  g : ps[0]? = some ground
  ok : ∀ p ∈ ps, PyData.strOk p.1 = true
  le : ps.length ≤ 1000
theorem OkS.pos {ps : List Spot} (h : OkS ps) : 0 < ps.length := (List.getElem?_eq_some_iff.mp h.g).1
theorem not_taken {ps : List Spot} {j : Nat} {p : Spot} (nd : ps.Nodup) (h : ps[j]? = some p) : p ∉ ps.take j := fun m => by
  obtain ⟨i, hi⟩ := List.mem_iff_getElem?.mp m
  rw [List.getElem?_take] at hi
  have il : i < j := by
    by_cases q : i < j
    · exact q
    · rw [if_neg q] at hi; cases hi
  rw [if_pos il] at hi
  have := (List.getElem?_inj (List.getElem?_eq_some_iff.mp hi).1 nd).mp (hi.trans h.symm)
  omega
theorem walk_enumT {K : PySem.W.Frag} {a : Addr} {xs : List V} : Walk (IteT K a) xs.length (fun H => SqT K H a xs) (YPair (fun i => some (.int (i : Nat))) (fun i => xs[i]?)) := by
  refine ⟨fun i _ hi q => ⟨xs, xs[i], q, by simp [hi]⟩, fun _ q => ⟨xs, q, rfl⟩, fun i H v H' _ q y => ?_⟩
  obtain ⟨T, x, h1, h2, h3, h4⟩ := y
  exact ⟨T, .int (i : Nat), x, h1, h2, h3, rfl, h4 xs q⟩
theorem for_enum {K : PySem.W.Frag} {t : Bool} {H : Hp} {p : Addr} {xs : List V} {σ : L2.St} {g : TG} {tb : TS} {D : Ends} {i : Nat} (h0 : σ[i]? = some (some (.ref p))) (hp : Sq K t H p xs) (Pv : Nat → L2.St → Hp → Prop) (a0 : Pv 0 σ H) (hG : ∀ i σ H', Pv i σ H' → Sq K t H' p xs)
    (hs : ∀ i x σ H H', i < xs.length → Pv i σ H → YPair (fun i => some (.int (i : Nat))) (fun i => xs[i]?) i H x H' → g x σ H' fun σ2 H2 => tb { D with nx := Pv (i + 1), ct := Pv (i + 1), bk := D.nx } σ2 H2) (hd : ∀ σ H, Pv xs.length σ H → D.nx σ H) :
    tFor (fun σ H R => iEnum K (tCons (tVar i) tNil) σ H R ∨ iEnumT K (tCons (tVar i) tNil) σ H R) g tb D σ H := by
  cases t
  · exact .inl ⟨_, h0, p, xs, rfl, hp, for_it walk_enum Pv a0 (fun i σ H' _ z => hG i σ H' z) hs hd⟩
  · exact .inr ⟨_, h0, p, xs, rfl, hp, for_it walk_enumT Pv a0 (fun i σ H' _ z => hG i σ H' z) hs hd⟩
section
variable {P : Program} {w : World} {K : PySem.W.Frag} {mg : Str → Option Value} {base : Heap} {a : Ad}
/-- a row of spots at p -/
def Sps (K : PySem.W.Frag) (t : Bool) (H : Hp) (p : Addr) (ps : List Spot) : Prop := ∃ us, Sq K t H p us ∧ Paired (fun v q => Spt K H v q) us ps
theorem Sps.up {t : Bool} {H H' : Hp} {p : Addr} {ps : List Spot} (h : Sps K t H p ps) (e : Same H H') : Sps K t H' p ps := by
  obtain ⟨us, h1, h2⟩ := h
  exact ⟨us, h1.up e, Paired.mapP h2 fun _ _ z => z.up e⟩
/-- what is told when an error leaves -/
def RaH (H : Hp) (E : XK) (C : Addr) (post : Hp → Addr → Prop) : Prop := ∀ H' d, Same H H' → post H' d → E (.ref C) (some d) H'
/-- the spot at place j may stand there -/
def okAt (ps : List Spot) (j : Nat) : Prop := ∀ p, ps[j]? = some p → p ∉ ps.take j ∧ (j = 0 → p = ground)
structure FstBad (ps : List Spot) (i : Nat) : Prop where
  lt : i < ps.length
  bef : ∀ j, j < i → okAt ps j
  bad : ¬ okAt ps i
theorem OkS.of_at {ps : List Spot} (h : ∀ j, j < ps.length → okAt ps j) (ok : ∀ p ∈ ps, PyData.strOk p.1 = true) (le : ps.length ≤ 1000) (pos : 0 < ps.length) : OkS ps := by
  refine ⟨?_, ?_, ok, le⟩
  · refine List.pairwise_iff_getElem.mpr fun i j hi hj hij z => ?_
    refine (h j hj _ (List.getElem?_eq_getElem hj)).1 ?_
    rw [← z]
    exact List.mem_take_iff_getElem.mpr ⟨i, by omega, rfl⟩
  · have e : ps[0]? = some ps[0] := List.getElem?_eq_getElem pos
    rw [e, (h 0 pos _ e).2 rfl]
theorem OkS.at {ps : List Spot} (h : OkS ps) (j : Nat) : okAt ps j := fun p hp => ⟨not_taken h.nd hp, fun z => by
  subst z
  rw [h.g] at hp
  cases hp
  rfl⟩
theorem OkS.good {ps : List Spot} (h : OkS ps) (i : Nat) : ¬ FstBad ps i := fun z => z.bad (h.at i)
def sp_places_of (P : Program) (w : World) (K : PySem.W.Frag) (a : Ad) : Sp := fun vs H Q E => ∃ (p : Addr) (ps : List Spot), vs = [.ref p] ∧ Sps K true H p ps ∧ 0 < ps.length ∧ ps.length ≤ 1000 ∧ (∀ s ∈ ps, PyData.strOk s.1 = true) ∧
  (OkS ps → ∀ H' d, Same H H' → Dtx P w K H' d (plc 0 ps) → H d = none → Q (.ref d) H') ∧ (∀ i, FstBad ps i → RaH H E a.BadSpot fun H' d => H' d = some (.xd [("place", .int (i : Nat))]))
theorem c_places_of (T : Txt K mg a) : ClN P w K mg base 3 "places_of" P_places_of (sp_places_of P w K a) [] :=
  T.d_places_of.clN sc_places_of (fun vs H Q E h => by obtain ⟨p, ps, rfl, _⟩ := h; rfl) fun f cdv A outer s H vs Q E hr h => by
    obtain ⟨p, ps, rfl, ⟨us, hp, pr⟩, pos, le, sk, k, kb⟩ := h
    have hl : us.length = ps.length := Paired.length pr
    refine ⟨_, ((pss_cons (ps_if (pt_cmpR op_eq (pe_callB call_len_seq (by rfl) T.n_len (by decide +kernel) (pa_cons (pv 0) pa_nil)) pe_int (nomark _))
 (pss_one (ps_raise1N rfl (L2N.takes_of rfl rfl rfl rfl) (x_BadSpot T) hr (by decide) rfl pe_int))
 pss_nil)
 (pss_cons (ps_set (i := 1) sc_places_of.nd rfl (Or.inl rfl) pe_dnewX)
 (pss_cons (ps_for (passes_of rfl) rfl (pi_enumX (by rfl) T.n_enumerate (pa_cons (pv 0) pa_nil)) (pg_tup rfl (pgs_cons (pg_name (i := 2) sc_places_of.nd rfl (Or.inl rfl)) (pgs_cons (pg_name (i := 3) sc_places_of.nd rfl (Or.inl rfl)) pgs_nil)))
 (pss_cons (ps_if (PW.pt (pw_or (pt_not (pt_val (pe_f (c_is_spot T) takes0 hr (by decide) rfl (pa_cons (pv 3) pa_nil)))) (pw_or1 (pt_cmp (pc_dinX (hu_of hr) (pv 3) (pv 1)) rfl))))
 (pss_one (ps_raise1N rfl (L2N.takes_of rfl rfl rfl rfl) (x_BadSpot T) hr (by decide) rfl (pv 2)))
 pss_nil)
 (pss_cons (ps_if (PW.pt (pw_and (pt_cmpR op_eq (pv 2) pe_int (nomark _)) (pw_and1 (pt_cmpR (op_neD hr.units) (pv 3) (pe_glob (by rfl) T.k_GROUND rfl (v := .ref a.aG)) (nomark _)))))
 (pss_one (ps_raise1N rfl (L2N.takes_of rfl rfl rfl rfl) (x_BadSpot T) hr (by decide) rfl (pv 2)))
 pss_nil)
 (pss_one (ps_dputX (hu_of hr) (pv 1) (pv 3) (pv 2) rfl)))))
 (pss_one (ps_ret (pv 1))))))), ?_⟩
    refine ⟨_, rfl, p, us, rfl, .inr hp, rfl, _, rfl, iteN (vint_ne (by omega)) ?_⟩
    refine fun D o0 hD d0 => ?_
    dsimp only [gName]
    refine seq_in ?_
    refine for_enum (t := true) (i := 0) rfl (hp.up (same_new hD)) (fun j σ' H' => ∃ c2 c3, σ' = [some (.ref p), some (.ref D), c2, c3] ∧ Same H H' ∧ Dtx P w K H' D (plc 0 (ps.take j)) ∧ ∀ i, i < j → okAt ps i) ?_ ?_ ?_ ?_
    · exact ⟨none, none, rfl, same_new hD, d0, fun i hi => absurd hi (Nat.not_lt_zero i)⟩
    · rintro j σ' H' ⟨c2, c3, _, e1, _⟩
      exact hp.up e1
    · rintro j _ _ H2 _ hj ⟨c2, c3, rfl, e1, d1, oks⟩ ⟨U, y, x, rfl, hU, rfl, ey, hx⟩
      cases ey
      obtain ⟨sj, hsj, q, rfl, hq⟩ := paired_get pr hx
      have e3 := e1.trans (same_new (o := .tup [.int (j : Nat), .ref q]) hU)
      have d3 := d1.up (same_new (o := .tup [.int (j : Nat), .ref q]) hU)
      refine ⟨U, _, rfl, sq_new, rfl, _, _, rfl, _, _, rfl, rfl, ?_⟩
      generalize upd H2 U (.tup [.int (j : Nat), .ref q]) = H3 at e3 d3
      have tl : (ps.take j).length = j := by rw [List.length_take]; omega
      have bad : ¬ okAt ps j → ∀ d, H3 d = none → E (.ref a.BadSpot) (some d) (upd H3 d (.xd [("place", .int (j : Nat))])) := fun z d hd => kb j ⟨by omega, oks, z⟩ _ d (e3.trans (same_new hd)) upd_same
      refine ⟨_, rfl, _, rfl, .inl ⟨q, sj, rfl, SqT.of (e3 _ _ hq), true, rfl, iteF ?_⟩⟩
      refine ⟨_, rfl, _, rfl, D, q, _, spK sj, rfl, rfl, d3, SqT.of (e3 _ _ hq), _, rfl, ?_⟩
      by_cases hin : sj ∈ ps.take j
      · rw [plc_in hin]
        refine iteT ⟨_, rfl, fun d hd => bad (fun z => (z sj hsj).1 hin) d hd⟩
      rw [plc_none hin]
      refine iteF ⟨_, rfl, rfl, _, rfl, ?_⟩
      have fin : okAt ps j → ∀ Dn : Ends, (∀ u, Dtx P w K (upd H3 D u) D (plc 0 (ps.take (j + 1))) → (∀ i, i < j + 1 → okAt ps i) → Dn.nx [some (.ref p), some (.ref D), some (.int (j : Nat)), some (.ref q)] (upd H3 D u)) →
          sDPutX P w K (tVar 1) (tVar 3) (tVar 2) Dn [some (.ref p), some (.ref D), some (.int (j : Nat)), some (.ref q)] H3 := fun hok Dn z => by
        refine ⟨_, rfl, _, rfl, _, rfl, D, q, _, spK sj, rfl, rfl, d3, SqT.of (e3 _ _ hq), plc_none hin, by rw [plc_len, tl, sizeLine_eq]; omega, fun u hu => z u ?_ fun i hi => ?_⟩
        · have : ps.take (j + 1) = ps.take j ++ [sj] := by
            rw [List.take_add_one, hsj]
            rfl
          rw [this, plc_snoc, tl, Nat.zero_add]
          exact hu
        · by_cases c : i < j
          · exact oks i c
          · rw [show i = j by omega]
            exact hok
      have last : ∀ u, Dtx P w K (upd H3 D u) D (plc 0 (ps.take (j + 1))) → (∀ i, i < j + 1 → okAt ps i) → ∃ c2 c3, ([some (.ref p), some (.ref D), some (.int (j : Nat)), some (.ref q)] : L2.St) = [some (.ref p), some (.ref D), c2, c3] ∧ Same H (upd H3 D u) ∧ Dtx P w K (upd H3 D u) D (plc 0 (ps.take (j + 1))) ∧ ∀ i, i < j + 1 → okAt ps i :=
        fun u hu ho => ⟨_, _, rfl, same_mut e3 hD, hu, ho⟩
      by_cases h0 : j = 0
      · subst h0
        refine iteY (vint_eq rfl) ⟨_, rfl, spD sj, spD ground, dp_sp (SqT.of (e3 _ _ hq)), dp_sp (T.t_GROUND _), (fl_sp (sk sj (List.mem_of_getElem? hsj))).sh (by decide), (fl_sp (by decide +kernel)).sh (by decide), _, rfl, ?_⟩
        rw [eqv_sp]
        by_cases hg : sj = ground
        · rw [decide_eq_true hg]
          exact iteF (fin (fun p hp => by rw [hsj] at hp; cases hp; exact ⟨hin, fun _ => hg⟩) _ last)
        · rw [decide_eq_false hg]
          exact iteT ⟨_, rfl, fun d hd => bad (fun z => hg ((z sj hsj).2 rfl)) d hd⟩
      · exact iteN (vint_ne (by omega)) (fin (fun p hp => by rw [hsj] at hp; cases hp; exact ⟨hin, fun z => absurd z h0⟩) _ last)
    · rintro _ H2 ⟨c2, c3, rfl, e1, d1, oks⟩
      rw [hl, List.take_length] at d1
      exact ⟨_, rfl, k (OkS.of_at (fun j hj => oks j (by omega)) sk le pos) _ _ e1 d1 hD⟩
end
end K52

set_option Elab.async false
set_option linter.all false
set_option maxRecDepth 100000
set_option maxHeartbeats 4000000
namespace Ew
open PySem PySem.Spec PyProof.Rows L2
/-! ### a token is out behind a test -/
section
variable {X : Cx}
structure PTk (X : Cx) (e : Expr) (t : TT) : Prop where
  run : ∀ (pins : List (Addr × Obj)) (s : Shared) (σ : L2.St) (H : Hp) (Q : Bool → Hp → Prop), Inv X pins σ H s → t σ H Q → wpAny (model X.prog X.w) X.A (isTrue e X.env (eval e X.env)) (fun b s' => 1 ≤ s'.toks ∧ TP X pins σ Q b s') X.xe s
theorem ptk_cmp {op : CmpOp} {r : R2} {a : Expr} {ta : TE} {i : Int} {j : Nat} {p pos : Pos} (ho : OpR X (compareOp op) r) (ha : PE X a ta) (hm : behindInMarks op (.Constant (.int i) j p) = false) :
    PTk X (.Compare a [op] [.Constant (.int i) j p] pos) (tTest (tOp r ta (tC (.int i)))) := by
  refine ⟨fun pins s σ H Q I h => wpAny_isTrue_Compare1 (thn (ha.run pins s σ H _ I h) fun v s1 ⟨x, H1, I1, r1, q1⟩ => wpAny_Constant_int ?_) hm⟩
  have I2 : Inv X pins σ H1 { s1 with toks := s1.toks + 1 } := I1.tok _
  have go := ho pins _ σ H1 x (.int i) v (.int i s1.toks) _ I2 r1 ⟨_, rfl⟩ q1
  refine wpAny_mono (PySem.wpAny_toks_of (n := 1) (by show 1 ≤ s1.toks + 1; omega) go) (fun c s3 ⟨hk, z, H3, I3, r3, k, e, q3⟩ => ?_) fun _ _ z => z.2
  subst e
  cases r3
  exact wpAny_truthy_bool ⟨hk, H3, I3, q3⟩
theorem ptk_or {a b : Expr} {rest : List Expr} {pos : Pos} {ta tb : TT} (ha : PTk X a ta) (hb : PW X (.BoolOp .Or (b :: rest) pos) tb) : PTk X (.BoolOp .Or (a :: b :: rest) pos) (tOr ta tb) := by
  refine ⟨fun pins s σ H Q I h => isTrue_or (thn (ha.run pins s σ H _ I h) fun c s1 ⟨hk, H1, I1, q1⟩ => ?_)⟩
  cases c with
  | true => exact ⟨hk, H1, I1, q1⟩
  | false => exact wpAny_mono (PySem.wpAny_toks_of hk (hb.run _ pins s1 σ H1 Q I1 q1)) (fun _ _ z => z) fun _ _ z => z.2
theorem pss_ifK {c : Expr} {a b rest : List Stmt} {pos : Pos} {tc : TT} {t u v : TS} (hc : PTk X c tc) (ha : PSs X a t) (hb : PSs X b u) (hr : PSsT X rest v) : PSs X (.If c a b pos :: rest) (tSeq (tIfS tc t u) v) := by
  refine ⟨fun pins s σ H D I h => ?_⟩
  refine wpAny_execs_cons (wpAny_If (thn (hc.run pins s σ H _ I h) fun d s1 ⟨hk, H1, I1, q1⟩ => ?_))
  have fin : ∀ {w : Sem Flow} {E : Value → Shared → Prop}, wpAny (model X.prog X.w) X.A w (SP X pins { D with nx := v D }) E s1 → wpAny (model X.prog X.w) X.A w (fun f s2 => 1 ≤ s2.toks ∧ SP X pins { D with nx := v D } f s2) E s1 := fun z => wpAny_mono (PySem.wpAny_toks_of hk z) (fun _ _ z => z) fun _ _ z => z.2
  have on : ∀ {f : Flow} {s2 : Shared}, 1 ≤ s2.toks ∧ SP X pins { D with nx := v D } f s2 → _ := fun {f s2} z => z
  cases d with
  | true =>
    refine thn (fin (ha.run pins s1 σ H1 { D with nx := v D } I1 q1)) fun f s2 ⟨k2, q⟩ => ?_
    cases f with
    | next =>
      obtain ⟨σ', H', I', q⟩ := q
      exact hr pins s2 σ' H' D k2 I' q
    | ret v => exact q
    | brk => exact q
    | cont => exact q
  | false =>
    refine thn (fin (hb.run pins s1 σ H1 { D with nx := v D } I1 q1)) fun f s2 ⟨k2, q⟩ => ?_
    cases f with
    | next =>
      obtain ⟨σ', H', I', q⟩ := q
      exact hr pins s2 σ' H' D k2 I' q
    | ret v => exact q
    | brk => exact q
    | cont => exact q
theorem pst_set {i : Nat} {x : Str} {e : Expr} {te : TE} {pos pos' : Pos} (hN : X.N.Nodup) (hi : X.N[i]? = some x) (hx : Loc X.env.scope x) (he : PET X e te) (hs : swapsWith e (some (.Name x pos')) pos.line X.env = pure false := by rfl) (hf : X.fn x = true ∨ X.env.scope.names.lookup x = some .local := by first | exact .inl rfl | exact .inr rfl | assumption) :
    PST X (.Assign [.Name x pos'] e pos) (tAsg te (gName i)) := fun pins s σ H D h0 I h =>
  wpAny_Assign_Name (thn (he pins s σ H _ h0 I h) fun v s1 ⟨y, H1, I1, r1, q1⟩ => store_ok I1 hN hi hx r1 (fun s2 I2 => ⟨_, H1, I2, q1⟩) hf) hs
theorem pet_m1 {nm : String} {name : Str} {o e : Expr} {to te : TE} {apos pos : Pos} {r : V → List V → Hp → VK → Prop} (slot : Slot "str" name nm) (ty : typeOf (.builtin nm) = pure (.type "method_descriptor")) (rule : MtR X nm r) (ho : PET X o to) (he : PE X e te)
    (hs : starEach [e] X.env = [(false, eval e X.env)] := by rfl) (hbase : attributeBase o name X.env (eval o X.env) = eval o X.env := by rfl) (hline : (apos.endLine == pos.line) = true := by rfl) :
    PET X (.Call (.Attribute o name apos) [e] [] pos) (tM1 r to te) := by
  intro pins s σ H Q h0 I h
  refine PySem.Call_method1 hbase hs hline (thn (ho pins s σ H _ h0 I h) fun v s1 ⟨x, H1, I1, r1, ⟨a, ex⟩, q1⟩ => ?_)
  subst ex
  obtain ⟨t, rfl⟩ := id r1
  refine ⟨"str", _, F.plainAttrs_str, slot, ty, typeIs_str _ _ _, (fun _ e => nomatch e), Calls.callWith_builtin rfl (Calls.evalArgs_plain (Calls.spliced_cons ?_))⟩
  exact thn (he.run pins s1 σ H1 _ I1 q1) fun u s2 ⟨y, H2, I2, r2, q2⟩ => Calls.spliced_nil (rule pins s2 σ H2 _ [y] _ [u] Q I2 r1 (.cons r2 .nil) q2)
end
end Ew

set_option Elab.async false
set_option linter.all false
set_option maxRecDepth 100000
set_option maxHeartbeats 4000000
namespace Ew
open PySem PySem.Spec PyProof.Rows L2
/-! ### tuples joined, cut, told many times: whichever object it is that comes out -/
section
variable {X : Cx}
def rCatF (K : PySem.W.Frag) : R2 := fun x y H Q => ∃ (F0 H0 F : Hp) (a b : Addr) (xs ys : List V), Stp F0 H0 F H ∧ x = .ref a ∧ y = .ref b ∧ SqT K F a xs ∧ SqT K F b ys ∧ xs.length + ys.length ≤ sizeLine ∧
  ∀ p F' H', Stp F0 H0 F' H' → Same F F' → SqT K F' p (xs ++ ys) → Q (.ref p) H'
theorem op_catF : OpR X (binaryOp .Add) (rCatF X.K) := by
  intro pins s σ H x y v u Q I rx ry h
  obtain ⟨F0, H0, F, a, b, xs, ys, s1, rfl, rfl, ha, hb, hl, q⟩ := h
  refine op_catA pins s σ H _ _ v u Q I rx ry ⟨a, b, xs, ys, rfl, rfl, upT s1.fh ha, upT s1.fh hb, hl, fun e => ?_, fun n e => ?_, fun n1 n2 p hp => ?_⟩
  · subst e; exact q b F H s1 (Same.refl F) hb
  · subst e; exact q a F H s1 (Same.refl F) (by rw [List.append_nil]; exact ha)
  · exact q p _ _ (s1.newP hp) (same_new (s1.fh.free hp)) sq_new
def rSlF (K : PySem.W.Frag) : V → Option Int → Option Int → Hp → VK → Prop := fun x lo hi H Q => ∃ (F0 H0 F : Hp) (a : Addr) (xs : List V), Stp F0 H0 F H ∧ x = .ref a ∧ SqT K F a xs ∧
  ∀ p F' H', Stp F0 H0 F' H' → Same F F' → SqT K F' p (cutV xs lo hi) → Q (.ref p) H'
theorem sl_tupF : SlR X (rSlF X.K) := by
  intro pins s σ H x v vl vu lo hi sl Q I rx hs pl pu h
  obtain ⟨F0, H0, F, a, xs, s1, rfl, ha, q⟩ := h
  refine sl_tupA pins s σ H _ v vl vu lo hi sl Q I rx hs pl pu ⟨a, xs, rfl, upT s1.fh ha, fun e => ?_, fun n p hp => ?_⟩
  · refine q a F H s1 (Same.refl F) ?_
    have : cutV xs lo hi = xs := by
      unfold cutV
      rw [e.1, e.2]
      simp
    rw [this]
    exact ha
  · exact q p _ _ (s1.newP hp) (same_new (s1.fh.free hp)) sq_new
def rRepF (K : PySem.W.Frag) : R2 := fun x y H Q => ∃ (F0 H0 F : Hp) (a : Addr) (k : Int) (xs : List V), Stp F0 H0 F H ∧ x = .ref a ∧ y = .int k ∧ SqT K F a xs ∧ xs ≠ [] ∧ 1 ≤ k ∧ k ≤ 1000 ∧ xs.length ≤ 1000 ∧
  ∀ p F' H', Stp F0 H0 F' H' → Same F F' → SqT K F' p (List.replicate k.toNat xs).flatten → Q (.ref p) H'
theorem op_repF : OpR X (binaryOp .Mult) (rRepF X.K) := by
  intro pins s σ H x y v u Q I rx ry h
  obtain ⟨F0, H0, F, a, k, xs, s1, rfl, rfl, ha, hn, k1, k2, hl, q⟩ := h
  refine op_repA pins s σ H _ _ v u Q I rx ry ?_
  by_cases e : k = 1
  · subst e
    refine .inr ⟨a, xs, rfl, rfl, upT s1.fh ha, q a F H s1 (Same.refl F) ?_⟩
    have : (List.replicate (1 : Int).toNat xs).flatten = xs := by simp
    rw [this]
    exact ha
  · exact .inl ⟨a, k, xs, rfl, rfl, upT s1.fh ha, hn, by omega, k2, hl, fun p hp => q p _ _ (s1.newP hp) (same_new (s1.fh.free hp)) sq_new⟩
end
/-! ### the text of a tuple of small ints -/
theorem showable_ints : ∀ {ds : List Int}, (∀ d ∈ ds, -9 ≤ d ∧ d ≤ 9) → PyData.showableAll (ds.map PyData.int) = true
  | [], _ => by rw [List.map_nil, PyData.showableAll]
  | d :: ds, h => by
    have := h d List.mem_cons_self
    have e : d.natAbs.log2 < 1920 := by
      have h1 : d.natAbs < 2 ^ 4 := by omega
      have := PySem.Flt.log2_lt_of (by decide : 0 < 4) h1
      omega
    rw [List.map_cons, PyData.showableAll, showable_ints fun x hx => h x (List.mem_cons_of_mem _ hx), PyData.showable, decide_eq_true e]
    rfl
theorem int_text {d : Int} (h : -9 ≤ d ∧ d ≤ 9) : (PyData.int d).shown.length ≤ 2 := by
  have : d = -9 ∨ d = -8 ∨ d = -7 ∨ d = -6 ∨ d = -5 ∨ d = -4 ∨ d = -3 ∨ d = -2 ∨ d = -1 ∨ d = 0 ∨ d = 1 ∨ d = 2 ∨ d = 3 ∨ d = 4 ∨ d = 5 ∨ d = 6 ∨ d = 7 ∨ d = 8 ∨ d = 9 := by omega
  rcases this with rfl | rfl | rfl | rfl | rfl | rfl | rfl | rfl | rfl | rfl | rfl | rfl | rfl | rfl | rfl | rfl | rfl | rfl | rfl <;> rw [PyData.shown] <;> decide +kernel
theorem piled_ints : ∀ {ds : List Int}, (∀ d ∈ ds, -9 ≤ d ∧ d ≤ 9) → piled (PyData.shownAll (ds.map PyData.int)) ≤ 4 * ds.length
  | [], _ => by rw [List.map_nil, PyData.shownAll]; exact Nat.zero_le _
  | d :: ds, h => by
    have h1 := int_text (h d List.mem_cons_self)
    have h2 := piled_ints fun x hx => h x (List.mem_cons_of_mem _ hx)
    rw [List.map_cons, PyData.shownAll, List.length_cons]
    unfold piled at h2 ⊢
    simp only [List.map_cons, List.sum_cons] at h2 ⊢
    omega
theorem shown_ints {ds : List Int} (h : ∀ d ∈ ds, -9 ≤ d ∧ d ≤ 9) (hl : ds.length ≤ 1000) : (intT ds).shown.length ≤ sizeLine := by
  unfold intT
  rw [PyData.shown]
  unfold tupleText
  have h2 := piled_ints h
  have e1 : (("(" : Str)).length = 1 := by decide +kernel
  have e2 : ∀ b : Bool, (Str.ofString (if b = true then ",)" else ")")).length ≤ 2 := by intro b; cases b <;> decide +kernel
  have e3 : (Str.join ", " (PyData.shownAll (ds.map PyData.int))).length ≤ 4 * ds.length := by
    by_cases hn : PyData.shownAll (ds.map PyData.int) = []
    · rw [hn]
      exact Nat.le_trans (by decide +kernel) (Nat.zero_le _)
    · have := join_length_add _ hn
      omega
  have e4 := e2 ((PyData.shownAll (ds.map PyData.int)).length == 1)
  rw [PySem.Str.length_append, PySem.Str.length_append, e1, sizeLine_eq]
  omega
end Ew

set_option Elab.async false
set_option linter.all false
set_option maxRecDepth 100000
set_option maxHeartbeats 4000000
namespace K52
open PySem PySem.Spec PyProof.Rows L2 Ew
/-! ### what a card is made of -/
theorem cut_to (xs : List V) (i : Nat) : cutV xs none (some (i : Int)) = xs.take i := by
  have e1 : HT.sIx xs.length 0 none = 0 := rfl
  have e2 : HT.sIx xs.length xs.length (some (i : Int)) = min i xs.length := by rw [HT.sIx_nat]
  unfold cutV
  rw [e1, e2, List.drop_zero, Nat.sub_zero]
  rcases Nat.le_total i xs.length with h | h
  · rw [Nat.min_eq_left h]
  · rw [Nat.min_eq_right h, List.take_of_length_le (Nat.le_refl _), List.take_of_length_le h]
section
variable {K : PySem.W.Frag} {t : Bool} {H : Hp} {p : Addr} {us : List V}
theorem slice_all {Q : VK} (hp : Sq K t H p us) (k : ∀ H' q, Same H H' → Sq K t H' q us → Q (.ref q) H') : rSlL K (.ref p) none (some ((us.length : Nat) : Int)) H Q ∨ rSlF K (.ref p) none (some ((us.length : Nat) : Int)) H Q := by
  have e : cutV us none (some ((us.length : Nat) : Int)) = us := by rw [cut_to, List.take_length]
  cases t
  · refine .inl ⟨p, us, rfl, hp, fun q hq => ?_⟩
    rw [e]
    exact k _ q (same_new hq) (SqL.of upd_same)
  · refine .inr ⟨H, H, H, p, us, .refl (.refl H), rfl, hp, fun q F' H' s1 e1 z => ?_⟩
    rw [e] at z
    exact k H' q (s1.ff.trans s1.fh) (upT s1.fh z)
theorem ix_sq {xs : List V} {i : Int} {x : V} {Q : VK} (hp : Sq K t H p xs) (h : atI xs i = some x) (k : Q x H) : rIx K (.ref p) (.int i) H Q := by
  cases t
  · exact .inl ⟨p, xs, i, x, rfl, rfl, hp, h, k⟩
  · exact .inr (.inl ⟨p, xs, i, x, rfl, rfl, hp, h, k⟩)
theorem for_enumS {σ : L2.St} {g : TG} {tb : TS} {D : Ends} {i j : Nat} (h0 : σ[i]? = some (some (.ref p))) (h1 : σ[j]? = some (some (.int ((us.length : Nat) : Int)))) (hp : Sq K t H p us) (Pv : Nat → L2.St → Hp → Prop) (a0 : ∀ H1, Same H H1 → Pv 0 σ H1)
    (hs : ∀ i x σ H2 H' (N : L2.St → Hp → Prop), i < us.length → Pv i σ H2 → YPair (fun i => some (.int (i : Nat))) (fun i => us[i]?) i H2 x H' → (∀ σ' H4, Same H2 H4 → Pv (i + 1) σ' H4 → N σ' H4) → g x σ H' fun σ2 H3 => tb { D with nx := N, ct := N, bk := D.nx } σ2 H3)
    (hd : ∀ σ H, Pv us.length σ H → D.nx σ H) :
    tFor (fun σ H R => iEnum K (tCons (tSl (fun x lo hi H Q => rSlL K x lo hi H Q ∨ rSlF K x lo hi H Q) (tVar i) tNoPart (tPart (tVar j))) tNil) σ H R ∨ iEnumT K (tCons (tSl (fun x lo hi H Q => rSlL K x lo hi H Q ∨ rSlF K x lo hi H Q) (tVar i) tNoPart (tPart (tVar j))) tNil) σ H R) g tb D σ H := by
  cases t
  · refine .inl ⟨_, h0, _, h1, _, rfl, slice_all (t := false) hp fun H1 q e1 hq => ⟨q, us, rfl, hq, ?_⟩⟩
    exact for_it walk_enum (fun i σ' H' => Pv i σ' H' ∧ Same H1 H') ⟨a0 H1 e1, .refl _⟩ (fun i σ' H' _ z => upL z.2 hq) (fun i x σ' H2 H' hi z y => hs i x σ' H2 H' _ hi z.1 y fun σ3 H4 e4 z4 => ⟨z4, z.2.trans e4⟩) fun σ' H' z => hd σ' H' z.1
  · refine .inr ⟨_, h0, _, h1, _, rfl, slice_all (t := true) hp fun H1 q e1 hq => ⟨q, us, rfl, hq, ?_⟩⟩
    exact for_it walk_enumT (fun i σ' H' => Pv i σ' H' ∧ Same H1 H') ⟨a0 H1 e1, .refl _⟩ (fun i σ' H' _ z => upT z.2 hq) (fun i x σ' H2 H' hi z y => hs i x σ' H2 H' _ hi z.1 y fun σ3 H4 e4 z4 => ⟨z4, z.2.trans e4⟩) fun σ' H' z => hd σ' H' z.1
end
section
variable {P : Program} {w : World} {K : PySem.W.Frag} {mg : Str → Option Value} {base : Heap} {a : Ad}
theorem is_row {H : Hp} {t : Bool} {p : Addr} {xs : List V} {Q : VK} {E : XK} (h : Sq K t H p xs) (k : ∀ H', Same H H' → Q (.bl true) H') : sp_is_row K [.ref p] H Q E :=
  ⟨H, p, xs, rfl, h.row, .refl H, fun F' H' v s1 e => by subst e; exact k H' (s1.ff.trans s1.fh)⟩
theorem arg1 (sp : Sp) {v : V} {σ : L2.St} {H : Hp} {Q : VK} {E : XK} (h : sp [v] H Q E) : tNil σ H fun xs H2 => sp ((v :: xs) ++ []) H2 Q E := h
theorem arg2 (sp : Sp) {u v : V} {σ : L2.St} {H : Hp} {Q : VK} {E : XK} (h : sp [u, v] H Q E) : tNil σ H fun xs H2 => sp ((u :: v :: xs) ++ []) H2 Q E := h
theorem arg3 (sp : Sp) {u v x : V} {σ : L2.St} {H : Hp} {Q : VK} {E : XK} (h : sp [u, v, x] H Q E) : tNil σ H fun xs H2 => sp ((u :: v :: x :: xs) ++ []) H2 Q E := h
def sp__judge_rows (K : PySem.W.Frag) (a : Ad) : Sp := fun vs H Q E => ∃ (t : Bool) (v : V) (n : Nat) (f : Tb2), vs = [v, .int (n : Nat)] ∧ Tb K t H v n f ∧ n ≤ 1000 ∧ (Cld n f → ∀ H', Same H H' → Q .non H') ∧
  (∀ j, j < n → (∀ i, i < j → f i i = 0) → f j j ≠ 0 → RaH H E a.BadCard fun H' d => H' d = some (.xd [("place", .int (j : Nat))])) ∧ ((∀ i, i < n → f i i = 0) → ¬ Tri n f → RaH H E a.BadCard fun H' d => H' d = some (.xd [("place", .int (-1))]))
theorem c__judge_rows (T : Txt K mg a) : Cl P w K mg base 3 "_judge_rows" P__judge_rows (sp__judge_rows K a) [] :=
  T.d__judge_rows.cl sc__judge_rows (fun vs H Q E h => by obtain ⟨t, v, n, f, rfl, _⟩ := h; rfl) fun f cdv A outer s H vs Q E hr h => by
    obtain ⟨t, _, n, f, rfl, ⟨p, us, rfl, hp, hl, hu⟩, hn, k, kd, kt⟩ := h
    refine ⟨_, ((pss_cons (ps_set (i := 2) sc__judge_rows.nd rfl (Or.inl rfl) (pe_ifExp (pt_val (pe_f (c_is_row T) (takes_of rfl rfl rfl rfl) hr (by decide) rfl (pa_cons (pv 0) pa_nil))) (pv 0) (pe_tup pa_nil)))
 (pss_cons (ps_for (passes_of rfl) rfl (pi_enumX (by rfl) T.n_enumerate (pa_cons (pe_slice (sl_list.or sl_tupF) (pv 2) po_none (po_some (pv 1))) pa_nil)) (pg_tup rfl (pgs_cons (pg_name (i := 3) sc__judge_rows.nd rfl (Or.inl rfl)) (pgs_cons (pg_name (i := 4) sc__judge_rows.nd rfl (Or.inl rfl)) pgs_nil)))
 (pss_one (ps_if (PW.pt (pw_or (pt_not (pt_val (pe_f (c_is_row T) (takes_of rfl rfl rfl rfl) hr (by decide) rfl (pa_cons (pv 4) pa_nil)))) (pw_or (pt_cmpR op_ne (pe_callB call_len_seq (by rfl) T.n_len (by decide +kernel) (pa_cons (pv 4) pa_nil)) (pv 1) (nomark _)) (pw_or (pt_not (pt_val (pe_callB (cr_all rfl) (by rfl) T.n_all (by decide +kernel) (pa_cons (pe_lc (own := [("bound", 5)]) (g := (gName 5)) (by rfl) sc__judge_rows.nd (pi_seq (pv 4)) (blkOk_by (own := [("bound", 5)]) (N := N__judge_rows) (sc := defScope s__judge_rows) (by decide +kernel)) (fun _ _ _ _ _ => (pg_name (i := 5) sc__judge_rows.nd rfl (Or.inl rfl) (hf := .inr rfl))) (fun _ _ _ _ _ => pts_nil) (fun _ _ _ _ _ => (pe_f (c_is_integer T) takes0 hr (by decide) rfl (pa_cons (pv 5) pa_nil)))) pa_nil)))) (pw_or1 (pt_cmpR op_ne (pe_ix ix_seq (pv 4) (pv 3) (fun _ _ => rfl)) pe_int (nomark _)))))))
 (pss_one (ps_raise1 rfl (takes_of rfl rfl rfl rfl) (x_BadCard T) hr (by decide) rfl (pv 3)))
 pss_nil)))
 (pss_one (ps_if (PW.pt (pw_or (pt_cmpR op_ne (pe_callB call_len_seq (by rfl) T.n_len (by decide +kernel) (pa_cons (pv 2) pa_nil)) (pv 1) (nomark _)) (pw_or1 (pt_not (pt_val (pe_f (c_is_closed T) (takes_of rfl rfl rfl rfl) hr (by decide) rfl (pa_cons (pv 2) pa_nil)))))))
 (pss_one (ps_raise1 rfl (takes_of rfl rfl rfl rfl) (x_BadCard T) hr (by decide) rfl (pe_un un_neg pe_int)))
 pss_nil))))), ?_⟩
    refine ⟨_, rfl, arg1 (sp_is_row K) (is_row hp fun H1 e1 => ⟨true, rfl, iteT ⟨_, rfl, ?_⟩⟩)⟩
    dsimp only [gName]
    subst hl
    refine seq_in (for_enumS (t := t) (i := 2) (j := 1) rfl rfl (hp.up e1) (fun j σ' H' => ∃ c3 c4 c5, σ' = [some (.ref p), some (.int (us.length : Nat)), some (.ref p), c3, c4, c5] ∧ Same H H' ∧ ∀ i, i < j → f i i = 0) (fun H2 e2 => ⟨none, none, none, rfl, e1.trans e2, fun i z => absurd z (Nat.not_lt_zero i)⟩) ?_ ?_)
    · rintro j x _ H2 _ N hj ⟨c3, c4, c5, rfl, e2, d2⟩ ⟨U, y, x, rfl, hU, rfl, ey, hx⟩ hN
      cases ey
      obtain ⟨q, rfl, hq⟩ := hu j x hx
      have e3 := same_new (o := .tup [.int (j : Nat), .ref q]) hU
      refine ⟨U, _, rfl, sq_new, rfl, _, _, rfl, _, _, rfl, rfl, ?_⟩
      generalize upd H2 U (.tup [.int (j : Nat), .ref q]) = H3 at e3
      refine ⟨_, rfl, arg1 (sp_is_row K) (is_row (hq.up (e2.trans e3)) fun H4 e4 => ⟨true, rfl, iteF ?_⟩)⟩
      have hq4 := hq.up (e2.trans (e3.trans e4))
      refine ⟨_, rfl, q, _, rfl, hq4.row, _, rfl, rfl, _, rfl, ?_⟩
      refine iteN (by rw [rowV_len]; simp) ?_
      refine cb1 (lc_sq (t := t) (i := 4) rfl hq4 (fun i _ y => y = V.bl true) (fun _ _ _ _ _ z => z) (by rw [rowV_len]; omega) ?_ ?_)
      · rintro i x F' _ H5 Kt Kn hi s5 ⟨rfl, hx⟩ kk
        obtain ⟨_, rfl⟩ := rowV_get hx
        exact ⟨rfl, lc_yes ⟨_, rfl, _, rfl, .inl ⟨_, rfl, kk _ _ _ (.refl s5.fh) rfl⟩⟩⟩
      · intro F' H5 ys D s5 _ hD' hy hr'
        rw [rowV_len] at hy
        have eb : ys = (List.replicate us.length true).map V.bl := List.ext_getElem? fun j => by
          rcases Nat.lt_or_ge j us.length with hj | hj
          · have : j < ys.length := by omega
            rw [List.getElem?_eq_getElem this, hr' j _ (List.getElem?_eq_getElem this), List.map_replicate, List.getElem?_replicate, if_pos hj]
          · rw [List.getElem?_eq_none (by omega), List.getElem?_eq_none (by simp; omega)]
        subst eb
        have e5 := s5.ff.trans s5.fh
        refine ⟨D, _, rfl, SqL.of (s5.fh _ _ hD'), _, rfl, ?_⟩
        have : (List.replicate us.length true).all id = true := by simp
        rw [this]
        have hj2 : j < us.length := hj
        have row := hq4.up e5
        have at_ : atI (rowV us.length (f j)) ((j : Nat) : Int) = some (.int (f j j)) := atI_int (by omega) (by rw [rowV_len]; omega) (by rw [Int.toNat_natCast, rowV_at hj2])
        have e35 := e2.trans (e3.trans (e4.trans e5))
        refine iteF ⟨_, rfl, _, rfl, ?_⟩
        refine ix_sq row at_ ⟨rfl, _, rfl, ?_⟩
        by_cases z : f j j = 0
        · refine iteN (by rw [z]; decide) ?_
          refine hN _ H5 (e3.trans (e4.trans e5)) ⟨_, _, _, rfl, e35, fun i hi => ?_⟩
          by_cases ei : i = j
          · rw [ei]
            exact z
          · exact d2 i (by omega)
        · refine iteY (by simp [z]) ⟨_, rfl, fun d hd => ?_⟩
          exact kd j hj2 d2 z _ d (e35.trans (same_new hd)) upd_same
    · rintro _ H2 ⟨c3, c4, c5, rfl, e2, d2⟩
      refine ⟨_, rfl, p, us, rfl, (hp.up e2).row, _, rfl, rfl, _, rfl, iteN (by simp) ?_⟩
      refine ⟨_, rfl, t, _, _, f, rfl, ⟨p, us, rfl, hp.up e2, rfl, fun i u z => by obtain ⟨q, h1, h2⟩ := hu i u z; exact ⟨q, h1, h2.up e2⟩⟩, hn, fun H3 e3 => ⟨fun tr => ⟨true, rfl, iteF ?_⟩, fun tr => ⟨false, rfl, iteT ?_⟩⟩⟩
      · exact k ⟨d2, tr⟩ H3 (e2.trans e3)
      · exact ⟨_, rfl, fun d hd => kt d2 tr _ d (e2.trans (e3.trans (same_new hd))) upd_same⟩
end
end K52

set_option Elab.async false
set_option linter.all false
set_option maxRecDepth 100000
set_option maxHeartbeats 4000000
namespace K52
open PySem PySem.Spec PyProof.Rows L2 Ew
/-! ### cards -/
/-- at v a card of the spots ps with the bounds f -/
def Cd (P : Program) (w : World) (K : PySem.W.Frag) (C : Addr) (F : Hp) (v : V) (ps : List Spot) (f : Tb2) : Prop := ∃ x dx sp d rw, v = .ref x ∧ F x = some (.ins C dx [("spots", .ref sp), ("_places", .ref d), ("rows", .ref rw)]) ∧ Sps K true F sp ps ∧ Dtx P w K F d (plc 0 ps) ∧ Tb K true F (.ref rw) ps.length f
theorem Cd.up {P : Program} {w : World} {K : PySem.W.Frag} {C : Addr} {F F' : Hp} {v : V} {ps : List Spot} {f : Tb2} (h : Cd P w K C F v ps f) (e : Same F F') : Cd P w K C F' v ps f := by
  obtain ⟨x, dx, sp, d, rw, h1, h2, h3, h4, h5⟩ := h
  exact ⟨x, dx, sp, d, rw, h1, e x _ h2, h3.up e, h4.up e, h5.up e⟩
section
variable {P : Program} {w : World} {K : PySem.W.Frag} {mg : Str → Option Value} {base : Heap} {a : Ad}
theorem Sps.row {t : Bool} {H : Hp} {p : Addr} {ps : List Spot} (h : Sps K t H p ps) : ∃ us, Sq K t H p us ∧ us.length = ps.length := by
  obtain ⟨us, h1, h2⟩ := h
  exact ⟨us, h1, Paired.length h2⟩
section
variable {H : Hp} {x dx : Addr} {C : Addr} {fs : List (Str × V)} {o : HO}
theorem sqT_ins {q : Addr} {xs : List V} (h : SqT K H q xs) (e : H x = some (.ins C dx fs)) : SqT K (upd H x o) q xs := by
  rcases h with h | h
  · refine .inl ?_
    rcases h with h | ⟨u, h⟩
    · exact .inl (by rw [upd_ne (fun z => by rw [z, e] at h; cases h)]; exact h)
    · exact .inr ⟨u, by rw [upd_ne (fun z => by rw [z, e] at h; cases h)]; exact h⟩
  · exact .inr h
theorem Sps.ins {q : Addr} {ps : List Spot} (h : Sps K true H q ps) (e : H x = some (.ins C dx fs)) : Sps K true (upd H x o) q ps := by
  obtain ⟨us, h1, h2⟩ := h
  exact ⟨us, sqT_ins h1 e, Paired.mapP h2 fun v p z => by obtain ⟨r, z1, z2⟩ := z; exact ⟨r, z1, by rw [upd_ne (fun z => by rw [z, e] at z2; cases z2)]; exact z2⟩⟩
theorem Dtx_ins {d : Addr} {kvs : List (List Key × V)} (h : Dtx P w K H d kvs) (e : H x = some (.ins C dx fs)) : Dtx P w K (upd H x o) d kvs := by
  obtain ⟨h1, ys, h2, h3⟩ := h
  exact ⟨h1, ys, Paired.mapP h2 fun _ _ z => ⟨z.1, sqT_ins z.2.1 e, z.2.2⟩, by rw [upd_ne (fun z => by rw [z, e] at h3; cases h3)]; exact h3⟩
theorem Tb.ins {v : V} {n : Nat} {f : Tb2} (h : Tb K true H v n f) (e : H x = some (.ins C dx fs)) : Tb K true (upd H x o) v n f := by
  obtain ⟨p, us, h1, h2, h3, h4⟩ := h
  exact ⟨p, us, h1, sqT_ins h2 e, h3, fun i u hu => by obtain ⟨q, z1, z2⟩ := h4 i u hu; exact ⟨q, z1, sqT_ins z2 e⟩⟩
end
/-- what is wrong first, as a number -/
inductive Flaw (ps : List Spot) (f : Tb2) : Int → Prop
  | spot {i : Nat} : FstBad ps i → Flaw ps f i
  | diag {j : Nat} : OkS ps → j < ps.length → (∀ i, i < j → f i i = 0) → f j j ≠ 0 → Flaw ps f j
  | tri : OkS ps → (∀ i, i < ps.length → f i i = 0) → ¬ Tri ps.length f → Flaw ps f (-1)
def sp_Cinit (P : Program) (w : World) (K : PySem.W.Frag) (a : Ad) : Sp := fun vs H Q E => ∃ (t1 t2 : Bool) (x dx p : Addr) (v : V) (ps : List Spot) (f : Tb2) (H0 : Hp), vs = [.ref x, .ref p, v] ∧ H x = some (.ins a.Card dx []) ∧ Same H0 H ∧ H0 x = none ∧ Sps K t1 H0 p ps ∧ 0 < ps.length ∧ ps.length ≤ 1000 ∧ (∀ s ∈ ps, PyData.strOk s.1 = true) ∧ Tb K t2 H0 v ps.length f ∧
  (OkS ps → Cld ps.length f → ∀ H' sp d rw, Same H0 H' → H' x = some (.ins a.Card dx [("spots", .ref sp), ("_places", .ref d), ("rows", .ref rw)]) → Sps K true H' sp ps → Dtx P w K H' d (plc 0 ps) → Tb K true H' (.ref rw) ps.length f → Q .non H') ∧
  (∀ z, Flaw ps f z → RaH H0 E a.BadCard fun H' d => H' d = some (.xd [("place", .int z)]))
/-- tuple(row) -/
theorem tuple_of {H : Hp} {t : Bool} {p : Addr} {xs : List V} {Q : VK} (hp : Sq K t H p xs) (k : ∀ H' q, Same H H' → SqT K H' q xs → Q (.ref q) H') : rTupS K [.ref p] H Q := by
  cases t
  · exact ⟨p, xs, rfl, .inl ⟨hp, fun l hl => k _ l (same_new hl) sq_new⟩⟩
  · exact ⟨p, xs, rfl, .inr ⟨hp, k H p (.refl H) hp⟩⟩
theorem fld_cb {r : List V → Hp → VK → Prop} {te ta : TE} {f : Str} {D : Ends} {σ : L2.St} {H : Hp} (h : te σ H fun v H1 => r [v] H1 fun y H2 => ta σ H2 fun x H3 => ∃ a C dx fs, x = .ref a ∧ H3 a = some (.ins C dx fs) ∧ Cls K C ∧ NoAttr K C f ∧ fs.length < 1000 ∧ D.nx σ (upd H3 a (.ins C dx (putF f y fs)))) :
    sFld K ta (tCB r (tCons te tNil)) f D σ H := h
theorem mk_Card (T : Txt K mg a) : Mkr P w K mg base 5 "Card" a.Card P_CardD_initD (sp_Cinit P w K a) := by
  obtain ⟨f, fd, M, F, b⟩ := T.i_Card.ex
  refine ⟨T.g_Card, f, fd, M, fun_ok F sc_CardD_initD (fun vs H Q E h => by obtain ⟨t1, t2, x, dx, p, v, ps, f, H0, rfl, _⟩ := h; rfl) fun f cdv A outer s H vs Q E hr h => ?_, b⟩
  obtain ⟨t1, t2, x, dx, p, _, ps, f, H0, rfl, hx, e0, x0, ⟨us, hp, pr⟩, pos, le, sk, ⟨r, rs, rfl, hr0, hrl, hrs⟩, k, kb⟩ := h
  refine ⟨_, ((pss_cons (ps_fld (pv 0) (pe_ifExp (pt_val (pe_f (c_is_row T) (takes_of rfl rfl rfl rfl) hr (by decide) rfl (pa_cons (pv 1) pa_nil))) (pe_callTy call_tupS (by rfl) T.n_tuple (by decide +kernel) (pa_cons (pv 1) pa_nil)) (pe_tup pa_nil)) rfl)
 (pss_cons (ps_tryX (i := 3) rfl rfl sc_CardD_initD.nd rfl rfl ⟨rfl, by decide, .inl T.g_BadSpot⟩ (takes_of rfl rfl rfl rfl)
 (fun W pn xe tk tkp => (pss_one (show PS _ _ (sFld K (tVar 0) (tF (sp_places_of P w K a) [] W (tCons (tFld K (tVar 0) "spots") tNil)) "_places") from (ps_fld (pv 0) (pe_fN (c_places_of T) tk hr (by decide) rfl (pa_cons (pe_fld (pv 0) rfl) pa_nil)) rfl))))
 (fun xa oe cls d pn hz hf tkS hot => (pss_one (ps_raise1H hot tkS (h_BadCard T) (L2H.roomH_mark (hr.mono (by decide)) _) rfl (pe_sx (pe_xf T.xf_BadSpot T.no_BadSpot_place hz.zc hf (pv 3)))))))
 (pss_cons (ps_expr (pe_f (c__judge_rows T) (takes_of rfl rfl rfl rfl) hr (by decide) rfl (pa_cons (pv 2) (pa_cons (pe_callB call_len_seq (by rfl) T.n_len (by decide +kernel) (pa_cons (pe_fld (pv 0) rfl) pa_nil)) pa_nil))))
 (pss_one (ps_fld (pv 0) (pe_callTy call_tupS (by rfl) T.n_tuple (by decide +kernel) (pa_cons (pe_lc (own := [("row", 4)]) (g := (gName 4)) (by rfl) sc_CardD_initD.nd (pi_seq (pv 2)) (blkOk_by (own := [("row", 4)]) (N := N_CardD_initD) (sc := defScope s_CardD_initD) (by decide +kernel)) (fun _ _ _ _ _ => (pg_name (i := 4) sc_CardD_initD.nd rfl (Or.inl rfl) (hf := .inr rfl))) (fun _ _ _ _ _ => pts_nil) (fun _ _ _ _ _ => (pe_callTy (T := "tuple") (r := rTupS K) call_tupS (by rfl) T.n_tuple (by decide +kernel) (pa_cons (pv 4) pa_nil)))) pa_nil)) rfl)))))), ?_⟩
  refine ⟨_, rfl, arg1 (sp_is_row K) (is_row (hp.up e0) fun H1 e1 => ⟨true, rfl, iteT ⟨_, rfl, ?_⟩⟩)⟩
  dsimp only [tNil]
  refine tuple_of (hp.up (e0.trans e1)) fun H2 sp e2 hsp => ?_
  refine ⟨_, rfl, x, a.Card, dx, [], rfl, (e1.trans e2) _ _ hx, T.ki.cl, T.nS, Nat.le_of_ble_eq_true rfl, ?_⟩
  have e02 := e0.trans (e1.trans e2)
  have x2 := (e1.trans e2) _ _ hx
  have sp3 : Sps K true (upd H2 x (.ins a.Card dx (putF "spots" (.ref sp) []))) sp ps := Sps.ins ⟨us, hsp, Paired.mapP pr fun _ _ z => z.up e02⟩ x2
  have e03 : Same H0 (upd H2 x (.ins a.Card dx (putF "spots" (.ref sp) []))) := same_mut e02 x0
  have x3 : (upd H2 x (.ins a.Card dx (putF "spots" (.ref sp) []))) x = some (.ins a.Card dx [("spots", .ref sp)]) := upd_same
  generalize upd H2 x (.ins a.Card dx (putF "spots" (.ref sp) [])) = H3 at sp3 e03 x3
  refine ⟨_, rfl, x, a.Card, dx, _, _, rfl, x3, T.ki.cl, T.nS, rfl, ?_⟩
  refine ⟨sp, ps, rfl, sp3, pos, le, sk, fun ok H4 d e4 d4 _ => ?_, fun i hi H4 d e4 hd => ⟨true, T.em_BadSpot, fun _ xa hxa => ?_, fun z => nomatch z⟩⟩
  rotate_left
  · exact ⟨_, rfl, rfl, rfl, d, _, _, rfl, hd, rfl, fun d2 hd2 => kb _ (.spot hi) _ d2 (e03.trans (e4.trans (same_new hd2))) upd_same⟩
  have x4 := e4 _ _ x3
  refine ⟨_, rfl, x, a.Card, dx, _, rfl, x4, T.ki.cl, T.nP, Nat.le_of_ble_eq_true rfl, ?_⟩
  have e04 := e03.trans e4
  have sp5 : Sps K true (upd H4 x (.ins a.Card dx (putF "_places" (.ref d) [("spots", .ref sp)]))) sp ps := Sps.ins (sp3.up e4) x4
  have d5 : Dtx P w K (upd H4 x (.ins a.Card dx (putF "_places" (.ref d) [("spots", .ref sp)]))) d (plc 0 ps) := Dtx_ins d4 x4
  have e05 : Same H0 (upd H4 x (.ins a.Card dx (putF "_places" (.ref d) [("spots", .ref sp)]))) := same_mut e04 x0
  have x5 : (upd H4 x (.ins a.Card dx (putF "_places" (.ref d) [("spots", .ref sp)]))) x = some (.ins a.Card dx [("spots", .ref sp), ("_places", .ref d)]) := upd_same
  generalize upd H4 x (.ins a.Card dx (putF "_places" (.ref d) [("spots", .ref sp)])) = H5 at sp5 d5 e05 x5
  obtain ⟨us5, s5, l5⟩ := sp5.row
  refine ⟨_, rfl, _, rfl, x, a.Card, dx, _, _, rfl, x5, T.ki.cl, T.nS, rfl, sp, us5, rfl, .inr s5, ?_⟩
  have tb : Tb K t2 H0 (.ref r) ps.length f := ⟨r, rs, rfl, hr0, hrl, hrs⟩
  refine ⟨t2, _, ps.length, f, by rw [l5]; rfl, tb.up e05, le, fun hc H6 e6 => ?_, fun j hj hb hne H6 d6 e6 hd => kb _ (.diag ok hj hb hne) _ d6 (e05.trans e6) hd, fun hz ht H6 d6 e6 hd => kb _ (.tri ok hz ht) _ d6 (e05.trans e6) hd⟩
  have e06 := e05.trans e6
  have hr6 := hr0.up e06
  refine fld_cb (lc_sq (t := t2) (i := 2) rfl hr6 (fun i F y => ∃ q, y = V.ref q ∧ SqT K F q (rowV ps.length (f i))) (fun _ _ _ _ e z => by obtain ⟨q, z1, z2⟩ := z; exact ⟨q, z1, upT e z2⟩) (by omega) ?_ ?_)
  · rintro i x F' _ H7 Kt Kn hi s7 ⟨rfl, hx⟩ kk
    obtain ⟨q, rfl, hq⟩ := hrs i x hx
    refine ⟨rfl, lc_yes ⟨_, rfl, ?_⟩⟩
    dsimp only [tNil]
    have hq7 := hq.up (e06.trans (s7.ff.trans s7.fh))
    cases t2
    · exact ⟨q, _, rfl, .inl ⟨hq7, fun l hl => kk _ _ _ ((Stm.refl s7.fh).newP hl) ⟨l, rfl, sq_new⟩⟩⟩
    · exact ⟨q, _, rfl, .inr ⟨hq7, kk _ _ _ (.refl s7.fh) ⟨q, rfl, upT ((e06.trans s7.ff)) hq⟩⟩⟩
  · intro F7 H7 ys D s7 _ hD hy hr7
    have hD7 := s7.fh _ _ hD
    have e7 : Same H6 H7 := s7.ff.trans s7.fh
    refine ⟨D, ys, rfl, .inl ⟨SqL.of hD7, fun l hl => ?_⟩⟩
    have e8 := e7.trans (same_new (o := .tup ys) hl)
    have x8 := e8 _ _ (e6 _ _ x5)
    refine ⟨_, rfl, x, a.Card, dx, _, rfl, x8, T.ki.cl, T.nR, Nat.le_of_ble_eq_true rfl, ?_⟩
    have sp8 := (sp5.up e6).up e8
    have d8 := (d5.up e6).up e8
    have t8 : Tb K true (upd H7 l (.tup ys)) (.ref l) ps.length f := ⟨l, ys, rfl, sq_new, hy.trans hrl, fun i u hu => by
      obtain ⟨q, z1, z2⟩ := hr7 i u hu
      exact ⟨q, z1, upT (same_new hl) (upT s7.fh z2)⟩⟩
    exact k ok hc _ sp d l (same_mut (e06.trans e8) x0) upd_same (Sps.ins sp8 x8) (Dtx_ins d8 x8) (t8.ins x8)
end
end K52

set_option Elab.async false
set_option linter.all false
set_option maxRecDepth 100000
set_option maxHeartbeats 4000000
namespace K52
open PySem PySem.Spec PyProof.Rows L2 Ew
section
variable {P : Program} {w : World} {K : PySem.W.Frag} {mg : Str → Option Value} {base : Heap} {a : Ad}
theorem Flaw.no {ps : List Spot} {f : Tb2} (ok : OkS ps) (hc : Cld ps.length f) {z : Int} : ¬ Flaw ps f z := fun h => by
  cases h with
  | spot h => exact ok.good _ h
  | diag _ hj _ hn => exact hn (hc.z _ hj)
  | tri _ _ ht => exact ht hc.t
/-- Card(spots, rows), what stands before the call -/
theorem mk_cdX {H : Hp} {t1 t2 : Bool} {p : Addr} {v : V} {ps : List Spot} {f : Tb2} {Q : Addr → Hp → Prop} {E : XK} (hp : Sps K t1 H p ps) (pos : 0 < ps.length) (le : ps.length ≤ 1000) (sk : ∀ s ∈ ps, PyData.strOk s.1 = true) (tb : Tb K t2 H v ps.length f)
    (k : OkS ps → Cld ps.length f → ∀ H' x, Same H H' → H x = none → Cd P w K a.Card H' (.ref x) ps f → Q x H') (kb : ∀ z, Flaw ps f z → RaH H E a.BadCard fun H' d => H' d = some (.xd [("place", .int z)])) :
    ∀ o d, H o = none → H d = none → d ≠ o → sp_Cinit P w K a (.ref o :: [.ref p, v]) (upd (upd H d (.own o)) o (.ins a.Card d [])) (fun v H2 => v = .non ∧ Q o H2) E := by
  intro o d ho hd ne
  have ho' : (upd H d (.own o)) o = none := by rw [upd_ne (Ne.symm ne)]; exact ho
  refine ⟨t1, t2, o, d, p, v, ps, f, H, rfl, upd_same, (same_new hd).trans (same_new ho'), ho, hp, pos, le, sk, tb, fun ok hc H' sp dd rw e x1 h1 h2 h3 => ⟨rfl, ?_⟩, kb⟩
  exact k ok hc H' o e ho ⟨o, d, sp, dd, rw, rfl, x1, h1, h2, h3⟩
theorem mk_cd {H : Hp} {t1 t2 : Bool} {p : Addr} {v : V} {ps : List Spot} {f : Tb2} {Q : Addr → Hp → Prop} {E : XK} (hp : Sps K t1 H p ps) (ok : OkS ps) (tb : Tb K t2 H v ps.length f) (hc : Cld ps.length f)
    (k : ∀ H' x, Same H H' → H x = none → Cd P w K a.Card H' (.ref x) ps f → Q x H') :
    ∀ o d, H o = none → H d = none → d ≠ o → sp_Cinit P w K a (.ref o :: [.ref p, v]) (upd (upd H d (.own o)) o (.ins a.Card d [])) (fun v H2 => v = .non ∧ Q o H2) E :=
  mk_cdX hp ok.pos ok.le ok.ok tb (fun _ _ => k) fun _ z => absurd z (Flaw.no ok hc)
/-! ### len, in, [ ], == -/
def sp_len (P : Program) (w : World) (K : PySem.W.Frag) (a : Ad) : Sp := fun vs H Q _ => ∃ (x : V) (ps : List Spot) (f : Tb2), vs = [x] ∧ Cd P w K a.Card H x ps f ∧ Q (.int (ps.length : Nat)) H
theorem o_Card_len (T : Txt K mg a) : OwC P w K mg base 1 a.Card "__len__" P_CardD_lenD (sp_len P w K a) := by
  obtain ⟨f, fd, M, hfn, F, b⟩ := T.o_len.ex
  refine ⟨f, fd, M, hfn, fun_ok F sc_CardD_lenD (fun vs H Q E h => by obtain ⟨x, ps, f, rfl, _⟩ := h; rfl) fun f cdv A outer s H vs Q E hr h => ?_, b⟩
  obtain ⟨_, ps, f, rfl, ⟨x, dx, sp, d, rw, rfl, hx, ⟨us, h1, h2⟩, _⟩, k⟩ := h
  refine ⟨_, ((pss_one (ps_ret (pe_callB call_len_seq (by rfl) T.n_len (by decide +kernel) (pa_cons (pe_fld (pv 0) rfl) pa_nil))))), ?_⟩
  refine ⟨_, rfl, x, a.Card, dx, _, _, rfl, hx, T.ki.cl, T.nS, rfl, sp, us, rfl, .inr h1, ?_⟩
  rw [Paired.length h2]
  exact k
def sp_has (P : Program) (w : World) (K : PySem.W.Frag) (a : Ad) : Sp := fun vs H Q _ => ∃ (x v : V) (ps : List Spot) (f : Tb2) (s : Spot), vs = [x, v] ∧ Cd P w K a.Card H x ps f ∧ ps.Nodup ∧ Spt K H v s ∧ Q (.bl (decide (s ∈ ps))) H
theorem plc_is {ps : List Spot} (nd : ps.Nodup) (s : Spot) : (valV (plc 0 ps) (spK s)).isSome = decide (s ∈ ps) := by
  by_cases h : s ∈ ps
  · obtain ⟨i, hi⟩ := List.mem_iff_getElem?.mp h
    rw [plc_some nd hi, decide_eq_true h]
    rfl
  · rw [plc_none h, decide_eq_false h]
    rfl
theorem o_Card_contains (T : Txt K mg a) : OwC P w K mg base 3 a.Card "__contains__" P_CardD_containsD (sp_has P w K a) := by
  obtain ⟨f, fd, M, hfn, F, b⟩ := T.o_contains.ex
  refine ⟨f, fd, M, hfn, fun_ok F sc_CardD_containsD (fun vs H Q E h => by obtain ⟨x, v, ps, f, s, rfl, _⟩ := h; rfl) fun f cdv A outer s H vs Q E hr h => ?_, b⟩
  obtain ⟨_, _, ps, f, sp, rfl, ⟨x, dx, spa, d, rw, rfl, hx, _, hd, _⟩, nd, ⟨q, rfl, hq⟩, k⟩ := h
  refine ⟨_, ((pss_one (ps_ret (pe_and (pe_f (c_is_spot T) (takes_of rfl rfl rfl rfl) hr (by decide) rfl (pa_cons (pv 1) pa_nil)) (pe_one (pe_cmp (pc_dinX (hu_of hr) (pv 1) (pe_fld (pv 0) rfl)) rfl)))))), ?_⟩
  refine ⟨_, rfl, _, rfl, .inl ⟨q, sp, rfl, SqT.of hq, true, rfl, iteT ?_⟩⟩
  refine ⟨_, rfl, _, rfl, x, a.Card, dx, _, _, rfl, hx, T.ki.cl, T.nP, rfl, d, q, _, spK sp, rfl, rfl, hd, SqT.of hq, ?_⟩
  rw [plc_is nd]
  exact k
def sp_place (P : Program) (w : World) (K : PySem.W.Frag) (a : Ad) : Sp := fun vs H Q E => ∃ (x v : V) (ps : List Spot) (f : Tb2) (s : Spot), vs = [x, v] ∧ Cd P w K a.Card H x ps f ∧ ps.Nodup ∧ Spt K H v s ∧ (∀ i : Nat, ps[i]? = some s → Q (.int i) H) ∧ (s ∉ ps → RaH H E a.NoSpot fun F' d => F' d = some (.xd [("spot", v)]))
theorem m_Card__place (T : Txt K mg a) : Mt P w K mg base 4 a.Card "_place" P_Card__place (sp_place P w K a) [] := by
  obtain ⟨f, fd, M, F, b⟩ := T.m__place.ex
  refine ⟨T.ki.cl, f, fd, [], M, fun_ok F sc_Card__place (fun vs H Q E h => by obtain ⟨x, v, ps, f, s, rfl, _⟩ := h; rfl) fun f cdv A outer s H vs Q E hr h => ?_, b, .nil⟩
  obtain ⟨x, _, ps, f, sp, rfl, cd, nd, ⟨q, rfl, hq⟩, k1, k2⟩ := h
  obtain ⟨x, dx, spa, d, rw, rfl, hx, h1, hd, h2⟩ := id cd
  refine ⟨_, ((pss_cons (ps_if (pt_cmp (pc_ninC (o_Card_contains T) (takes_of rfl rfl rfl rfl) hr (by decide) (pv 1) (pv 0)) rfl)
 (pss_one (ps_raise1 rfl (takes_of rfl rfl rfl rfl) (x_NoSpot T) hr (by decide) rfl (pv 1)))
 pss_nil)
 (pss_one (ps_ret (pe_dgetX (hu_of hr) (pe_fld (pv 0) rfl) (pv 1) (fun _ _ => rfl)))))), ?_⟩
  refine ⟨_, rfl, _, rfl, x, dx, _, rfl, hx, _, _, ps, f, sp, rfl, cd, nd, ⟨q, rfl, hq⟩, _, rfl, ?_⟩
  by_cases h : sp ∈ ps
  · rw [decide_eq_true h]
    obtain ⟨i, hi⟩ := List.mem_iff_getElem?.mp h
    refine ⟨_, rfl, iteF ⟨_, rfl, x, a.Card, dx, _, _, rfl, hx, T.ki.cl, T.nP, rfl, _, rfl, d, q, _, spK sp, _, rfl, rfl, hd, SqT.of hq, plc_some nd hi, ?_⟩⟩
    rw [Nat.zero_add]
    exact k1 i hi
  · rw [decide_eq_false h]
    exact ⟨_, rfl, iteT ⟨_, rfl, fun d hd => k2 h _ d (same_new hd) upd_same⟩⟩
def sp_at (P : Program) (w : World) (K : PySem.W.Frag) (a : Ad) : Sp := fun vs H Q _ => ∃ (x u v : V) (q : Addr) (ps : List Spot) (f : Tb2) (s1 s2 : Spot) (i j : Nat), vs = [x, .ref q] ∧ Cd P w K a.Card H x ps f ∧ ps.Nodup ∧ SqT K H q [u, v] ∧ Spt K H u s1 ∧ Spt K H v s2 ∧ ps[i]? = some s1 ∧ ps[j]? = some s2 ∧ Q (.int (f i j)) H
theorem o_Card_getitem (T : Txt K mg a) : OwC P w K mg base 5 a.Card "__getitem__" P_CardD_getitemD (sp_at P w K a) := by
  obtain ⟨f, fd, M, hfn, F, b⟩ := T.o_getitem.ex
  refine ⟨f, fd, M, hfn, fun_ok F sc_CardD_getitemD (fun vs H Q E h => by obtain ⟨x, u, v, q, ps, f, s1, s2, i, j, rfl, _⟩ := h; rfl) fun f cdv A outer s H vs Q E hr h => ?_, b⟩
  obtain ⟨x, u, v, q, ps, f, s1, s2, i, j, rfl, cd, nd, hq, hu, hv, hi, hj, k⟩ := h
  obtain ⟨x, dx, spa, d, rw, rfl, hx, h1, hd, ⟨_, us, er, hrw, hl, hus⟩⟩ := id cd
  cases er
  have il := (List.getElem?_eq_some_iff.mp hi).1
  have jl := (List.getElem?_eq_some_iff.mp hj).1
  have same : ∀ {i j : Nat} {s : Spot}, ps[i]? = some s → ps[j]? = some s → i = j := fun {i j s} e1 e2 => (List.getElem?_inj (List.getElem?_eq_some_iff.mp e1).1 nd).mp (e1.trans e2.symm)
  obtain ⟨xi, hxi⟩ : ∃ y, us[i]? = some y := ⟨_, List.getElem?_eq_getElem (by omega)⟩
  obtain ⟨qi, rfl, hqi⟩ := hus i xi hxi
  refine ⟨_, ((pss_cons (ps_asg (pv 1) (pg_tup rfl (pgs_cons (pg_name (i := 2) sc_CardD_getitemD.nd rfl (Or.inl rfl)) (pgs_cons (pg_name (i := 3) sc_CardD_getitemD.nd rfl (Or.inl rfl)) pgs_nil))))
 (pss_one (ps_ret (pe_ix ix_tup (pe_ix ix_tup (pe_fld (pv 0) rfl) (pe_mf (m_Card__place T) (takes_of rfl rfl rfl rfl) hr (by decide) (pv 0) (pa_cons (pv 2) pa_nil)) (fun _ _ => rfl)) (pe_mf (m_Card__place T) (takes_of rfl rfl rfl rfl) hr (by decide) (pv 0) (pa_cons (pv 3) pa_nil)) (fun _ _ => rfl)))))), ?_⟩
  refine ⟨_, rfl, q, _, rfl, hq, rfl, _, _, rfl, _, _, rfl, rfl, ?_⟩
  refine ⟨_, rfl, x, a.Card, dx, _, _, rfl, hx, T.ki.cl, T.nR, rfl, _, rfl, x, dx, _, rfl, hx, rfl, _, rfl, ?_⟩
  refine ⟨_, u, ps, f, s1, rfl, cd, nd, hu, fun i' hi' => ?_, fun z => absurd (List.mem_of_getElem? hi) z⟩
  obtain rfl := same hi hi'
  refine ⟨rw, us, _, _, rfl, rfl, hrw, atI_int (by omega) (by omega) (by rw [Int.toNat_natCast]; exact hxi), ?_⟩
  refine ⟨_, rfl, x, dx, _, rfl, hx, rfl, _, rfl, ?_⟩
  refine ⟨_, v, ps, f, s2, rfl, cd, nd, hv, fun j' hj' => ?_, fun z => absurd (List.mem_of_getElem? hj) z⟩
  obtain rfl := same hj hj'
  exact ⟨qi, _, _, _, rfl, rfl, hqi, atI_int (by omega) (by rw [rowV_len]; omega) (by rw [Int.toNat_natCast]; exact rowV_at jl), k⟩
/-! ### == -/
theorem dp_row {K : PySem.W.Frag} {H : Hp} {q : Addr} {n : Nat} {g : Nat → Int} (h : SqT K H q (rowV n g)) : Dp K H (.ref q) (intT ((List.range n).map g)) := by
  refine dp_ints ?_
  rw [List.map_map]
  exact h
def tabD (n : Nat) (f : Tb2) : PyData := .tuple ((List.range n).map fun i => intT ((List.range n).map (f i)))
theorem dp_of {K : PySem.W.Frag} {H : Hp} : ∀ {us : List V} {ds : List PyData}, us.length = ds.length → (∀ (i : Nat) u d, us[i]? = some u → ds[i]? = some d → Dp K H u d) → DpAll K H us ds
  | [], [], _, _ => .nil
  | [], _ :: _, h, _ => by simp at h
  | _ :: _, [], h, _ => by simp at h
  | u :: us, d :: ds, h, k => .cons (k 0 u d rfl rfl) (dp_of (by simpa using h) fun i u d h1 h2 => k (i + 1) u d h1 h2)
theorem Tb.dp {K : PySem.W.Frag} {H : Hp} {v : V} {n : Nat} {f : Tb2} (h : Tb K true H v n f) : Dp K H v (tabD n f) := by
  obtain ⟨p, us, rfl, h2, h3, h4⟩ := h
  refine .tup h2 (dp_of (by rw [List.length_map, List.length_range, h3]) fun i u d e1 e2 => ?_)
  obtain ⟨q, rfl, hq⟩ := h4 i u e1
  have hi : i < n := by have := (List.getElem?_eq_some_iff.mp e1).1; omega
  rw [List.getElem?_map, List.getElem?_range hi] at e2
  cases e2
  exact dp_row hq
def spsD (ps : List Spot) : PyData := .tuple (ps.map spD)
theorem Sps.dp {K : PySem.W.Frag} {H : Hp} {p : Addr} {ps : List Spot} (h : Sps K true H p ps) : Dp K H (.ref p) (spsD ps) := by
  obtain ⟨us, h1, h2⟩ := h
  refine .tup h1 (dp_of (by rw [List.length_map, Paired.length h2]) fun i u d e1 e2 => ?_)
  obtain ⟨s, hs, hq⟩ := paired_get h2 e1
  rw [List.getElem?_map, hs] at e2
  cases e2
  exact hq.dp
theorem fl_ints (ds : List Int) : Fl 1 (intT ds) := Fl.tup (FlA.all fun d hd => by
  obtain ⟨i, _, rfl⟩ := List.mem_map.mp hd
  exact Fl.int)
theorem fl_tab {n : Nat} {f : Tb2} : Fl 2 (tabD n f) := Fl.tup (FlA.all fun d hd => by
  obtain ⟨i, _, rfl⟩ := List.mem_map.mp hd
  exact fl_ints _)
theorem fl_sps {ps : List Spot} (h : ∀ p ∈ ps, PyData.strOk p.1 = true) : Fl 2 (spsD ps) := Fl.tup (FlA.all fun d hd => by
  obtain ⟨p, hp, rfl⟩ := List.mem_map.mp hd
  exact fl_sp (h p hp))
theorem eqvAll_map {α : Type} [DecidableEq α] {g : α → PyData} (hg : ∀ x y, PyData.eqv (g x) (g y) = decide (x = y)) : ∀ xs ys : List α, PyData.eqvAll (xs.map g) (ys.map g) = decide (xs = ys)
  | [], [] => by simp [PyData.eqvAll]
  | [], _ :: _ => by simp [PyData.eqvAll]
  | _ :: _, [] => by simp [PyData.eqvAll]
  | x :: xs, y :: ys => by
    rw [List.map_cons, List.map_cons, PyData.eqvAll, hg, eqvAll_map hg]
    by_cases h1 : x = y <;> by_cases h2 : xs = ys <;> simp [h1, h2]
theorem eqv_sps (ps qs : List Spot) : PyData.eqv (spsD ps) (spsD qs) = decide (ps = qs) := by
  unfold spsD
  rw [PyData.eqv, eqvAll_map eqv_sp]
theorem eqv_tab {n : Nat} {f g : Tb2} : PyData.eqv (tabD n f) (tabD n g) = true ↔ ∀ i j, i < n → j < n → f i j = g i j := by
  unfold tabD
  have e : ∀ h : Tb2, ((List.range n).map fun i => intT ((List.range n).map (h i))) = ((List.range n).map fun i => (List.range n).map (h i)).map intT := fun h => by rw [List.map_map]; rfl
  rw [PyData.eqv, e f, e g, eqvAll_map eqv_ints, decide_eq_true_iff]
  constructor
  · intro z i j hi hj
    have z1 := congrArg (fun l => l[i]?) z
    simp only [List.getElem?_map, List.getElem?_range hi, Option.map_some, Option.some.injEq] at z1
    have z2 := congrArg (fun l => l[j]?) z1
    simpa only [List.getElem?_map, List.getElem?_range hj, Option.map_some, Option.some.injEq] using z2
  · intro z
    refine List.map_congr_left fun i hi => List.map_congr_left fun j hj => z i j (List.mem_range.mp hi) (List.mem_range.mp hj)
theorem ty_card (T : Txt K mg a) {H : Hp} {x dx : Addr} {fs : List (Str × V)} (h : H x = some (.ins a.Card dx fs)) : TyX K H (.ref x) (.ref a.Card) := T.ki.ty h
def sp_eq (P : Program) (w : World) (K : PySem.W.Frag) (a : Ad) : Sp := fun vs H Q _ => ∃ (x y : V) (ps : List Spot) (f g : Tb2), vs = [x, y] ∧ Cd P w K a.Card H x ps f ∧ Cd P w K a.Card H y ps g ∧ OkS ps ∧ Q (.bl (PyData.eqv (tabD ps.length f) (tabD ps.length g))) H
theorem o_Card_eq (T : Txt K mg a) : OwC P w K mg base 1 a.Card "__eq__" P_CardD_eqD (sp_eq P w K a) := by
  obtain ⟨f, fd, M, hfn, F, b⟩ := T.o_eq.ex
  refine ⟨f, fd, M, hfn, fun_ok F sc_CardD_eqD (fun vs H Q E h => by obtain ⟨x, y, ps, f, g, rfl, _⟩ := h; rfl) fun f cdv A outer s H vs Q E hr h => ?_, b⟩
  obtain ⟨_, _, ps, f, g, rfl, ⟨x, dx, sx, d, rx, rfl, hx, h1, h2, h3⟩, ⟨y, dy, sy, d', ry, rfl, hy, h4, h5, h6⟩, ok, k⟩ := h
  refine ⟨_, ((pss_one (ps_ret (pe_and (pe_callB call_isi (by rfl) T.n_isinstance (by decide +kernel) (pa_cons (pv 1) (pa_cons (pe_glob (v := .ref a.Card) rfl T.g_Card rfl) pa_nil))) (pe_and (pe_cmpR (op_eqD hr.units) (pe_fld (pv 0) rfl) (pe_fld (pv 1) rfl) (nomark _)) (pe_one (pe_cmpR (op_eqD hr.units) (pe_fld (pv 0) rfl) (pe_fld (pv 1) rfl) (nomark _)))))))), ?_⟩
  refine ⟨_, rfl, _, _, _, _, true, rfl, .own _, ty_card T hy, kit_same, true, rfl, iteT ?_⟩
  refine ⟨_, rfl, x, a.Card, dx, _, _, rfl, hx, T.ki.cl, T.nS, rfl, _, rfl, y, a.Card, dy, _, _, rfl, hy, T.ki.cl, T.nS, rfl, spsD ps, spsD ps, h1.dp, h4.dp, (fl_sps ok.ok).sh (by decide), (fl_sps ok.ok).sh (by decide), ?_⟩
  rw [eqv_sps, decide_eq_true rfl]
  refine ⟨true, rfl, iteT ?_⟩
  exact ⟨_, rfl, x, a.Card, dx, _, _, rfl, hx, T.ki.cl, T.nR, rfl, _, rfl, y, a.Card, dy, _, _, rfl, hy, T.ki.cl, T.nR, rfl, tabD ps.length f, tabD ps.length g, h3.dp, h6.dp, fl_tab.sh (by decide), fl_tab.sh (by decide), k⟩
end
end K52

set_option Elab.async false
set_option linter.all false
set_option maxRecDepth 100000
set_option maxHeartbeats 4000000
namespace K52
open PySem PySem.Spec PyProof.Rows L2 Ew
open SX (S)
/-! ### a line of words as a text -/
def J (us : List Tk) : Tk := TL.joinL [32] us
def jv (us : List Tk) : V := .str (S (J us))
theorem J_one (u : Tk) : J [u] = u := rfl
theorem J_cons {u : Tk} {us : List Tk} (h : us ≠ []) : J (u :: us) = u ++ 32 :: J us := by
  cases us with
  | nil => exact absurd rfl h
  | cons v us => rfl
theorem J_spl {us : List Tk} (h : ∀ w ∈ us, 32 ∉ w) (hn : us ≠ []) : TL.spl [32] 0 [] (J us) = us := SX.spl_join hn h
theorem split_J {us : List Tk} (h : ∀ w ∈ us, 32 ∉ w) (hn : us ≠ []) : Txt.split (S (J us)) " " = us.map S := by
  rw [e32, SX.split_S (by decide) (by decide), J_spl h hn]
theorem J_len : ∀ {us : List Tk} {b : Nat}, (∀ w ∈ us, w.length ≤ b) → (J us).length ≤ us.length * (b + 1)
  | [], _, _ => Nat.zero_le _
  | [u], b, h => by
    have := h u List.mem_cons_self
    rw [J_one, List.length_singleton]
    omega
  | u :: v :: us, b, h => by
    have h1 := h u List.mem_cons_self
    have h2 := J_len (us := v :: us) (b := b) fun w hw => h w (List.mem_cons_of_mem _ hw)
    rw [J_cons (by simp), List.length_append, List.length_cons, List.length_cons (a := u), Nat.succ_mul]
    omega
structure WdOk (us : List Tk) : Prop where
  ne : us ≠ []
  le : us.length ≤ 250
  w : ∀ w ∈ us, TkOk w
theorem WdOk.split {us : List Tk} (h : WdOk us) : Txt.split (S (J us)) " " = us.map S := split_J (fun w hw => (h.w w hw).sp) h.ne
theorem WdOk.len {us : List Tk} (h : WdOk us) : (J us).length ≤ 50250 := by
  have h1 := J_len (us := us) (b := 200) fun w hw => (h.w w hw).le
  have := h.le
  have h2 : us.length * (200 + 1) ≤ 250 * (200 + 1) := Nat.mul_le_mul_right _ this
  omega
theorem LsOk.of {ls : List (List Tk)} (h : ∀ us ∈ ls, WdOk us) (n : ls.length ≤ 1000) : LsOk ls := ⟨n, fun us hu => (h us hu).le, fun us hu => (h us hu).ne, fun us hu => (h us hu).w⟩
theorem LsOk.wd {ls : List (List Tk)} (h : LsOk ls) {us : List Tk} (hu : us ∈ ls) : WdOk us := ⟨h.pos us hu, h.ne us hu, h.w us hu⟩
theorem tsS (us : List Tk) : (us.map S).map V.str = tsL us := by unfold tsL; rw [List.map_map]; rfl
theorem paired_of {α β : Type} {F : α → β → Prop} : ∀ {xs : List α} {ys : List β}, xs.length = ys.length → (∀ (j : Nat) x, xs[j]? = some x → ∃ y, ys[j]? = some y ∧ F x y) → Paired F xs ys
  | [], [], _, _ => .nil
  | [], _ :: _, h, _ => by simp at h
  | _ :: _, [], h, _ => by simp at h
  | x :: xs, y :: ys, h, q => by
    obtain ⟨y', e, hf⟩ := q 0 x rfl
    cases e
    exact .cons hf (paired_of (by simpa using h) fun j z hz => q (j + 1) z hz)
theorem sqL_del {K : PySem.W.Frag} {H : Hp} {x p C dx : Addr} {fs : List (Str × V)} {xs : List V} (e : H x = some (.ins C dx fs)) (h : SqL K H p xs) : SqL K (del H x) p xs := by
  rcases h with h | h
  · refine .inl ?_
    rcases h with h | ⟨u, h⟩
    · exact .inl (by rw [del_ne (fun z => by rw [z, e] at h; cases h)]; exact h)
    · exact .inr ⟨u, by rw [del_ne (fun z => by rw [z, e] at h; cases h)]; exact h⟩
  · exact .inr h
/-- at p a row of lines -/
def Lns (K : PySem.W.Frag) (t : Bool) (H : Hp) (p : Addr) (ls : List (List Tk)) : Prop := Sq K t H p (ls.map jv)
theorem Same.del {H H' : Hp} {x : Addr} (e : Same H H') : Same (del H x) H' := fun b u h => by
  by_cases c : b = x
  · rw [c, del_same] at h; cases h
  · rw [del_ne c] at h
    exact e b u h
section
variable {P : Program} {w : World} {K : PySem.W.Frag} {mg : Str → Option Value} {base : Heap} {a : Ad}
theorem fld_in {te ta : TE} {f : Str} {D : Ends} {σ : L2.St} {H : Hp} (h : te σ H fun y H2 => ta σ H2 fun x H3 => ∃ a C dx fs, x = .ref a ∧ H3 a = some (.ins C dx fs) ∧ Cls K C ∧ NoAttr K C f ∧ fs.length < 1000 ∧ D.nx σ (upd H3 a (.ins C dx (putF f y fs)))) :
    sFld K ta te f D σ H := h
def sp_Rinit (K : PySem.W.Frag) (a : Ad) : Sp := fun vs H Q _ => ∃ (t : Bool) (x dx p : Addr) (ls : List (List Tk)) (H0 : Hp), vs = [.ref x, .ref p] ∧ H x = some (.ins a.Reader dx []) ∧ Same H0 H ∧ H0 x = none ∧ Lns K t H0 p ls ∧ LsOk ls ∧
  ∀ F' H', Same H0 H' → Same H0 F' → Rd K a x ls 0 0 F' H' → Q .non H'
theorem mk_Reader (T : Txt K mg a) : Mkr P w K mg base 1 "Reader" a.Reader P_ReaderD_initD (sp_Rinit K a) := by
  obtain ⟨f, fd, M, F, b⟩ := T.i_Reader.ex
  refine ⟨T.g_Reader, f, fd, M, fun_ok F sc_ReaderD_initD (fun vs H Q E h => by obtain ⟨t, x, dx, p, ls, H0, rfl, _⟩ := h; rfl) fun f cdv A outer s H vs Q E hr h => ?_, b⟩
  obtain ⟨t, x, dx, p, ls, H0, rfl, hx, e0, x0, hp, ok, k⟩ := h
  have hp0 : Sq K t H p (ls.map jv) := Sq.up hp e0
  refine ⟨_, ((pss_cons (ps_fld (pv 0) (pe_lc (own := [("line", 2)]) (g := (gName 2)) (by rfl) sc_ReaderD_initD.nd (pi_seq (pv 1)) (blkOk_by (own := [("line", 2)]) (N := N_ReaderD_initD) (sc := defScope s_ReaderD_initD) (by decide +kernel)) (fun _ _ _ _ _ => (pg_name (i := 2) sc_ReaderD_initD.nd rfl (Or.inl rfl) (hf := .inr rfl))) (fun _ _ _ _ _ => pts_nil) (fun _ _ _ _ _ => (pe_m1 PySem.F.slot_str_split PySem.F.type_str_split mt_split (pv 2) pe_str))) rfl)
 (pss_cons (ps_fld (pv 0) pe_int rfl)
 (pss_one (ps_fld (pv 0) pe_int rfl))))), ?_⟩
  refine seq_in (fld_in (lc_sq (t := t) (i := 1) rfl hp0 (fun i F y => ∃ us W, ls[i]? = some us ∧ y = V.ref W ∧ SqL K F W (tsL us)) (fun i F F' y e z => by obtain ⟨us, W, z1, z2, z3⟩ := z; exact ⟨us, W, z1, z2, upL e z3⟩) (by rw [List.length_map]; have := ok.n; omega) ?_ ?_))
  · rintro i y F' _ H2 Kt Kn hi s2 ⟨rfl, hy⟩ kk
    rw [List.getElem?_map] at hy
    obtain ⟨us, hus, rfl⟩ := Option.map_eq_some_iff.mp hy
    have wd := ok.wd (List.mem_of_getElem? hus)
    refine ⟨rfl, lc_yes ⟨_, rfl, ⟨_, rfl⟩, _, _, rfl, rfl, by decide +kernel, by rw [SX.S_len, sizeLine_eq]; have := wd.len; omega, fun W hW => ?_⟩⟩
    rw [wd.split, tsS]
    exact kk _ _ _ ((Stm.refl s2.fh).newP hW) ⟨us, W, hus, rfl, SqL.of upd_same⟩
  · intro F' H2 ys R s2 hR0 hR hy hr
    rw [List.length_map] at hy
    have e2 : Same H H2 := s2.ff.trans s2.fh
    have hx2 := e2 _ _ hx
    have R2 := s2.fh _ _ hR
    refine ⟨_, rfl, x, a.Reader, dx, [], rfl, hx2, T.cl, T.rR, Nat.le_of_ble_eq_true rfl, ?_⟩
    refine ⟨_, rfl, x, a.Reader, dx, _, rfl, upd_same, T.cl, T.rL, Nat.le_of_ble_eq_true rfl, ?_⟩
    refine ⟨_, rfl, x, a.Reader, dx, _, rfl, upd_same, T.cl, T.rW, Nat.le_of_ble_eq_true rfl, ?_⟩
    have e02 := e0.trans e2
    have e3 := same_mut (u := .ins a.Reader dx (putF "_word" (V.int 0) (putF "_line" (V.int 0) (putF "_rows" (V.ref R) [])))) (same_mut (u := .ins a.Reader dx (putF "_line" (V.int 0) (putF "_rows" (V.ref R) []))) (same_mut (u := .ins a.Reader dx (putF "_rows" (V.ref R) [])) e02 x0) x0) x0
    refine k (del H2 x) _ e3 (fun b u h => ?_) ⟨ok, del_same, fun b u h => ?_, R, ys, dx, upd_same, sqL_del hx2 (SqL.of R2), paired_of hy fun j v hv => ?_⟩
    · rw [del_ne (fun z => by rw [z, x0] at h; cases h)]
      exact e02 b u h
    · have c : b ≠ x := fun z => by rw [z, del_same] at h; cases h
      rw [del_ne c] at h
      rw [upd_ne c, upd_ne c, upd_ne c]
      exact h
    · obtain ⟨us, W, z1, z2, z3⟩ := hr j v hv
      exact ⟨us, z1, W, z2, sqL_del hx2 (upL s2.fh z3)⟩
/-- Reader(lines), what stands before the call -/
theorem mk_rd {H : Hp} {t : Bool} {p : Addr} {ls : List (List Tk)} {Q : Addr → Hp → Prop} {E : XK} (hp : Lns K t H p ls) (ok : LsOk ls) (k : ∀ F' H' x, Same H H' → Same H F' → H x = none → Rd K a x ls 0 0 F' H' → Q x H') :
    ∀ o d, H o = none → H d = none → d ≠ o → sp_Rinit K a (.ref o :: [.ref p]) (upd (upd H d (.own o)) o (.ins a.Reader d [])) (fun v H2 => v = .non ∧ Q o H2) E := by
  intro o d ho hd ne
  have ho' : (upd H d (.own o)) o = none := by rw [upd_ne (Ne.symm ne)]; exact ho
  exact ⟨t, o, d, p, ls, H, rfl, upd_same, (same_new hd).trans (same_new ho'), ho, hp, ok, fun F' H' e1 e2 rd => ⟨rfl, k F' H' o e1 e2 ho rd⟩⟩
end
end K52

set_option Elab.async false
set_option linter.all false
set_option maxRecDepth 100000
set_option maxHeartbeats 4000000
namespace K52
open PySem PySem.Spec PyProof.Rows L2 Ew
open SX (S)
def tbl (R : List (List Int)) : Tb2 := fun a b => (R.getD a []).getD b 0
theorem row_tbl {n : Nat} {ws : List Int} (h : ws.length = n) : rowV n (fun b => ws.getD b 0) = ws.map V.int := by
  refine (rowV_of (by rw [List.length_map, h]) fun j y e => ?_).symm
  rw [List.getElem?_map] at e
  obtain ⟨d, h1, rfl⟩ := Option.map_eq_some_iff.mp e
  rw [List.getD_eq_getElem?_getD, h1]
  rfl
/-! ### what the lines tell -/
abbrev Rst (α : Type) := Except (Nat × Nat) α
def tkN (N : Nat) (sh : List Shp) : Nat → List Ln → Rst (List (List Tk) × List Ln)
  | 0, l => .ok ([], l)
  | k + 1, l => match tk1 N sh l with
    | .error e => .error e
    | .ok (us, l1) => match tkN N sh k l1 with
      | .error e => .error e
      | .ok (uss, l2) => .ok (us :: uss, l2)
def app (uss : List (List Tk)) : Rst (List (List Tk) × List Ln) → Rst (List (List Tk) × List Ln)
  | .error e => .error e
  | .ok (vss, l) => .ok (uss ++ vss, l)
theorem tkN_bad {N k : Nat} {sh : List Shp} {l : List Ln} {e : Nat × Nat} (h : tk1 N sh l = .error e) : tkN N sh (k + 1) l = .error e := by simp only [tkN, h]
theorem tkN_ok {N k : Nat} {sh : List Shp} {l l1 : List Ln} {us : List Tk} (h : tk1 N sh l = .ok (us, l1)) : tkN N sh (k + 1) l = app [us] (tkN N sh k l1) := by
  simp only [tkN, h]
  cases tkN N sh k l1 with
  | error e => rfl
  | ok x => rfl
theorem app_app (u v : List (List Tk)) (x : Rst (List (List Tk) × List Ln)) : app u (app v x) = app (u ++ v) x := by
  cases x with
  | error e => rfl
  | ok x => simp only [app, List.append_assoc]
/-- what a row of words that a line has told is like -/
theorem fl_len {us : List Tk} : ∀ {ss : List Shp} {j : Nat}, j ≤ us.length → fl us j ss = none → us.length = j + ss.length
  | [], j, hj, h => by
    rcases Nat.lt_or_ge j us.length with c | c
    · rw [fl_more c] at h; cases h
    · rw [List.length_nil]; omega
  | s :: ss, j, hj, h => by
    cases e : us[j]? with
    | none => rw [fl_none e] at h; cases h
    | some u =>
      have hl := (List.getElem?_eq_some_iff.mp e).1
      cases c : s.ok u with
      | false => rw [fl_no e c] at h; cases h
      | true =>
        rw [fl_ok e c] at h
        rw [fl_len (by omega) h, List.length_cons]
        omega
theorem tk1_of {N : Nat} {sh : List Shp} {l l1 : List Ln} {us : List Tk} (h : tk1 N sh l = .ok (us, l1)) : (∃ m, l = (m, us) :: l1) ∧ fl us 0 sh = none := by
  cases l with
  | nil => cases h
  | cons x l =>
    obtain ⟨m, vs⟩ := x
    cases c : fl vs 0 sh with
    | some i => rw [tk1_bad c] at h; cases h
    | none =>
      rw [tk1_good c] at h
      cases h
      exact ⟨⟨m, rfl⟩, c⟩
def rdc (ls : List (List Tk)) : Rst (List Spot × List (List Int)) :=
  match tk1 ls.length shC (lf ls 0) with
  | .error e => .error e
  | .ok (us, l1) => match tkN ls.length shS (wholeVal (us.getD 1 [])).toNat l1 with
    | .error e => .error e
    | .ok (ss, l2) => match tkN ls.length (shR (wholeVal (us.getD 1 [])).toNat) (wholeVal (us.getD 1 [])).toNat l2 with
      | .error e => .error e
      | .ok (rs, []) => .ok (ss.map spotOf, rs.map rowOf)
      | .ok (_, (m, _) :: _) => .error (m, 0)
theorem wv_many {u : Tk} (h : isWh 30 u = true) (h1 : u.head? ≠ some 45) (h2 : u ≠ [48]) : 1 ≤ wholeVal u := by
  unfold isWh at h
  rw [decide_eq_false h2, Bool.false_or] at h
  have dn : dropNeg u = u := by
    unfold dropNeg
    split
    · exact absurd rfl h1
    · rfl
  rw [dn] at h
  unfold isDig at h
  rw [Bool.and_eq_true, Bool.and_eq_true, Bool.and_eq_true] at h
  obtain ⟨g1, g2, g3, g4⟩ := h
  cases u with
  | nil => exact absurd (of_decide_eq_true g1) (by simp)
  | cons c r =>
    have hc : isFig c = true := List.all_eq_true.mp g4 c List.mem_cons_self
    unfold isFig at hc
    rw [Bool.and_eq_true] at hc
    have c48 : c ≠ 48 := fun z => by rw [z] at g3; simp at g3
    have := of_decide_eq_true hc.1
    have p := NumText.digitsVal_pos (c := c) (cs := r) (by omega)
    have e : wholeVal (c :: r) = ((NumText.digitsVal (c :: r) : Nat) : Int) := by
      unfold wholeVal
      split
      · rename_i heq
        injection heq with heq _
        exact absurd (by rw [heq]; rfl) h1
      · rfl
    rw [e]
    omega
theorem nel_mem {m : Nat} {us : List Tk} : ∀ {n : Nat} {l : List (List Tk)}, (m, us) ∈ nel n l → us ∈ l
  | _, [], h => (nomatch h)
  | n, vs :: l, h => by
    rw [nel] at h
    split at h
    · exact List.mem_cons_of_mem _ (nel_mem h)
    · rcases List.mem_cons.mp h with h | h
      · injection h with h1 h2
        rw [h2]
        exact List.mem_cons_self
      · exact List.mem_cons_of_mem _ (nel_mem h)
theorem lf_mem {ls : List (List Tk)} {n m : Nat} {us : List Tk} {l : List Ln} (h : lf ls n = (m, us) :: l) : us ∈ ls := by
  have : (m, us) ∈ nel n (ls.drop n) := by
    show (m, us) ∈ lf ls n
    rw [h]
    exact List.mem_cons_self
  exact List.mem_of_mem_drop (nel_mem this)
/-! ### read_card -/
section
variable {r B : Addr} {H H' : Hp} {xs xs' : List V} {K : PySem.W.Frag}
theorem spt_sx {v : V} {s : Spot} {C dx : Addr} {fs : List (Str × V)} (h : Spt K H v s) (a : Sx r H H') (e : H r = some (.ins C dx fs)) : Spt K H' v s := by
  obtain ⟨q, h1, h2⟩ := h
  exact ⟨q, h1, a q _ (fun z => by rw [z, e] at h2; cases h2) h2⟩
theorem spt_upd {v : V} {s : Spot} {o : HO} (h : Spt K H v s) (hB : H B = some (.lst xs)) : Spt K (upd H B o) v s := by
  obtain ⟨q, h1, h2⟩ := h
  exact ⟨q, h1, by rw [upd_ne (fun z => by rw [z, hB] at h2; cases h2)]; exact h2⟩
/-- a row of bounds, not the list at B -/
def RowA (H : Hp) (B : Addr) (v : V) (ws : List Int) : Prop := ∃ q, v = .ref q ∧ q ≠ B ∧ H q = some (.lst (ws.map V.int))
theorem rowA_sx {v : V} {ws : List Int} {C dx : Addr} {fs : List (Str × V)} (h : RowA H B v ws) (a : Sx r H H') (e : H r = some (.ins C dx fs)) : RowA H' B v ws := by
  obtain ⟨q, h1, h2, h3⟩ := h
  exact ⟨q, h1, h2, a q _ (fun z => by rw [z, e] at h3; cases h3) h3⟩
theorem rowA_upd {v : V} {ws : List Int} {o : HO} (h : RowA H B v ws) : RowA (upd H B o) B v ws := by
  obtain ⟨q, h1, h2, h3⟩ := h
  exact ⟨q, h1, h2, by rw [upd_ne h2]; exact h3⟩
theorem paired_snoc {α β : Type} {F : α → β → Prop} {x : α} {y : β} (h : F x y) : ∀ {xs : List α} {ys : List β}, Paired F xs ys → Paired F (xs ++ [x]) (ys ++ [y])
  | [], [], .nil => .cons h .nil
  | _ :: _, _ :: _, .cons a b => .cons a (paired_snoc h b)
end
section
variable {P : Program} {w : World} {K : PySem.W.Frag} {mg : Str → Option Value} {base : Heap} {a : Ad}
def sp_read_card (P : Program) (w : World) (K : PySem.W.Frag) (a : Ad) : Sp := fun vs H Q E => ∃ (t : Bool) (p : Addr) (ls : List (List Tk)), vs = [.ref p] ∧ Lns K t H p ls ∧ LsOk ls ∧
  (∀ m i, rdc ls = .error (m, i) → RaH H E a.BadLine fun H' d => H' d = some (.xd [("word", .int (i : Nat)), ("line", .int (m : Nat))])) ∧
  (∀ ps rs, rdc ls = .ok (ps, rs) → (∀ z, Flaw ps (tbl rs) z → RaH H E a.BadCard fun H' d => H' d = some (.xd [("place", .int z)])) ∧
    (OkS ps → Cld ps.length (tbl rs) → ∀ H' x, Same H H' → H x = none → Cd P w K a.Card H' (.ref x) ps (tbl rs) → Q (.ref x) H'))
theorem c_read_card (T : Txt K mg a) : Cl P w K mg base 7 "read_card" P_read_card (sp_read_card P w K a) [] :=
  T.d_read_card.cl sc_read_card (fun vs H Q E h => by obtain ⟨t, p, ls, rfl, _⟩ := h; rfl) fun f cdv A outer s H vs Q E hr h => by
    obtain ⟨t, p, ls, rfl, hp, ok, kb, kg⟩ := h
    refine ⟨_, ((pss_cons (ps_set (i := 1) sc_read_card.nd rfl (Or.inl rfl) (pe_mkf (mk_Reader T) hr (by decide) rfl (pa_cons (pv 0) pa_nil)))
 (pss_cons (ps_expr (pe_mf0 (m_Reader_head T) hr (by decide) (pv 1)))
 (pss_cons (ps_expr (pe_mr (m_Reader_take_word T) (takes_of rfl rfl rfl rfl) hr (by decide) (pv 1) (pa_cons pe_str pa_nil)))
 (pss_cons (ps_if (pt_cmpR op_eq (pe_mf0 (m_Reader_peek T) hr (by decide) (pv 1)) pe_str (nomark _))
 (pss_one (ps_expr (pe_mw0 (m_Reader_refuse T) (takes_of rfl rfl rfl rfl) hr (by decide) (pv 1))))
 pss_nil)
 (pss_cons (ps_set (i := 2) sc_read_card.nd rfl (Or.inl rfl) (pe_mw0 (m_Reader_take_number T) (takes_of rfl rfl rfl rfl) hr (by decide) (pv 1)))
 (pss_cons (ps_expr (pe_mw0 (m_Reader_end_line T) (takes_of rfl rfl rfl rfl) hr (by decide) (pv 1)))
 (pss_cons (ps_set (i := 3) sc_read_card.nd rfl (Or.inl rfl) (pe_lst pa_nil))
 (pss_cons (ps_while (passes_of rfl) (pt_cmpR op_lt (pe_callB call_len_seq (by rfl) T.n_len (by decide +kernel) (pa_cons (pv 3) pa_nil)) (pv 2) (nomark _))
 (pss_one (ps_expr (pe_bm PySem.F.plainAttrs_list PySem.F.slot_list_append PySem.F.type_list_append mt_append (pv 3) (pa_cons (pe_f (c__take_spot T) (takes_of rfl rfl rfl rfl) hr (by decide) rfl (pa_cons (pv 1) pa_nil)) pa_nil)))))
 (pss_cons (ps_set (i := 4) sc_read_card.nd rfl (Or.inl rfl) (pe_lst pa_nil))
 (pss_cons (ps_while (passes_of rfl) (pt_cmpR op_lt (pe_callB call_len_seq (by rfl) T.n_len (by decide +kernel) (pa_cons (pv 4) pa_nil)) (pv 2) (nomark _))
 (pss_one (ps_expr (pe_bm PySem.F.plainAttrs_list PySem.F.slot_list_append PySem.F.type_list_append mt_append (pv 4) (pa_cons (pe_f (c__take_row T) (takes_of rfl rfl rfl rfl) hr (by decide) rfl (pa_cons (pv 1) (pa_cons (pv 2) pa_nil))) pa_nil)))))
 (pss_cons (ps_expr (pe_mw0 (m_Reader_end_lines T) (takes_of rfl rfl rfl rfl) hr (by decide) (pv 1)))
 (pss_one (ps_ret (pe_mkW (mk_Card T) (takes_of rfl rfl rfl rfl) hr (by decide) rfl (pa_cons (pv 3) (pa_cons (pv 4) pa_nil))))))))))))))))), ?_⟩
    refine ⟨_, rfl, mk_rd hp ok fun F0 H1 r e1 ef r0 h1 => ?_⟩
    have sx : ∀ {H'}, Sx r H1 H' → Same H H' := fun s b u e => s b u (fun z => by rw [z, r0] at e; cases e) (e1 b u e)
    have no : ∀ {m i : Nat} {H'}, Sx r H1 H' → rdc ls = .error (m, i) → No a r m i H' E := fun {m i H'} s z H2 d s2 hd => kb m i z H2 d (sx (s.trans s2)) hd
    have fresh : ∀ {B : Addr} {H'}, Sx r H1 H' → H' r ≠ none → H' B = none → H1 B = none := fun {B H'} s n z => by
      cases e : H1 B with
      | none => rfl
      | some o =>
        have c : B ≠ r := fun c => n (c ▸ z)
        rw [s B o c e] at z
        cases z
    obtain ⟨R, rows, dx, hx, _, _⟩ := id h1.ex
    refine ⟨_, rfl, r, dx, _, rfl, hx, rfl, F0, r, ls, 0, rfl, h1, fun H2 s2 h2 => ?_⟩
    obtain ⟨R, rows, dx, hx, _, _⟩ := id h2.ex
    rcases nx_lf _ 0 rfl (Nat.zero_le _) with ⟨en, el⟩ | ⟨ge, hl, el⟩
    · have ec : cur ls (nx ls 0) = [] := by unfold cur; rw [en, List.getElem?_eq_none (Nat.le_refl _)]; rfl
      refine ⟨_, rfl, r, dx, _, rfl, hx, rfl, F0, r, ls, nx ls 0, 0, lC, by rw [eC], h2, fun z => ?_, fun _ => ?_⟩
      · rw [ec] at z; cases z
      · rw [en]
        exact no s2 (by simp only [rdc, el, tk1])
    generalize nx ls 0 = n1 at *
    generalize eu : cur ls n1 = us at *
    have b1 : ∀ {i : Nat} {H'}, Sx r H1 H' → fl us 0 shC = some i → No a r n1 i H' E := fun {i H'} s z => no s (by simp only [rdc, el, tk1_bad z])
    refine ⟨_, rfl, r, dx, _, rfl, hx, rfl, F0, r, ls, n1, 0, lC, by rw [eC], h2, fun e0 H3 s3 h3 => ?_, fun z => b1 s2 (fl_noh (by rw [← eu]; exact z))⟩
    rw [eu] at e0
    have f0 : fl us 0 shC = fl us 1 [.many] := fl_ok e0 ok_h
    have s13 := s2.trans s3
    obtain ⟨R, rows, dx, hx, _, _⟩ := id h3.ex
    refine ⟨_, rfl, r, dx, _, rfl, hx, rfl, F0, r, ls, n1, 1, rfl, h3, fun H4 e4 => ?_⟩
    rw [eu]
    have h4 := h3.up e4
    have s14 := s13.trans (Sx.of e4)
    obtain ⟨R, rows, dx, hx, _, _⟩ := id h4.ex
    have e48 : ("0" : Str) = S [48] := by decide +kernel
    have sc0 : scal (wv us[1]?) (.str "0") = true := by cases us[1]? <;> rfl
    refine ⟨sc0, _, rfl, ?_⟩
    by_cases c0 : us[1]? = some [48]
    · refine iteY (by rw [c0]; exact decide_eq_true (congrArg V.str e48.symm)) ?_
      refine ⟨_, rfl, r, dx, _, rfl, hx, rfl, F0, r, ls, n1, 1, rfl, h4, b1 s14 (f0.trans (fl_no c0 (by decide +kernel)))⟩
    refine iteN (fun z => c0 ?_) ?_
    · have z := of_decide_eq_true z
      cases e : us[1]? with
      | none => rw [e] at z; cases z
      | some u =>
        rw [e] at z
        have z : V.str (S u) = V.str "0" := z
        rw [e48] at z
        rw [S_inj (V.str.inj z)]
    refine ⟨_, rfl, r, dx, _, rfl, hx, rfl, F0, r, ls, n1, 1, rfl, h4, fun u e1 w1 n45 H5 s5 h5 => ?_, fun z => b1 s14 (f0.trans ?_)⟩
    rotate_left
    · cases e : us[1]? with
      | none => exact fl_none e
      | some u =>
        refine fl_no e ?_
        have q := z u (by rw [eu]; exact e)
        show (isWh 30 u && (!decide (u.head? = some 45) && !decide (u = [48]))) = false
        cases c : isWh 30 u with
        | false => rfl
        | true =>
          have : u.head? = some 45 := Classical.byContradiction fun y => q ⟨c, y⟩
          rw [decide_eq_true this]
          rfl
    rw [eu] at e1
    have n48 : u ≠ [48] := fun z => c0 (by rw [e1, z])
    have m1 := wv_many w1 n45 n48
    have f1 : fl us 1 [.many] = fl us 2 [] := fl_ok e1 (by
      show (isWh 30 u && (!decide (u.head? = some 45) && !decide (u = [48]))) = true
      rw [w1, decide_eq_false n45, decide_eq_false n48]
      rfl)
    have s15 := s14.trans s5
    obtain ⟨R, rows, dx, hx, _, _⟩ := id h5.ex
    refine ⟨_, rfl, r, dx, _, rfl, hx, rfl, F0, r, ls, n1, 2, rfl, h5, hl, fun z H6 s6 h6 => ?_, fun z => b1 s15 (f0.trans (f1.trans (fl_more (by rw [← eu]; exact z))))⟩
    rw [eu] at z
    have fz : fl us 0 shC = none := f0.trans (f1.trans (fl_end z))
    have s16 := s15.trans s6
    have gu : us.getD 1 [] = u := getD_of e1
    generalize hM : (wholeVal u).toNat = M at *
    have eM : wholeVal u = ((M : Nat) : Int) := by omega
    have R1 : ∀ e, tkN ls.length shS M (lf ls (n1 + 1)) = .error e → rdc ls = .error e := fun e y => by simp only [rdc, el, tk1_good fz, gu, hM, y]
    have R2 : ∀ ss l2 e, tkN ls.length shS M (lf ls (n1 + 1)) = .ok (ss, l2) → tkN ls.length (shR M) M l2 = .error e → rdc ls = .error e := fun ss l2 e y y2 => by simp only [rdc, el, tk1_good fz, gu, hM, y, y2]
    have R3 : ∀ ss l2 rs, tkN ls.length shS M (lf ls (n1 + 1)) = .ok (ss, l2) → tkN ls.length (shR M) M l2 = .ok (rs, []) → rdc ls = .ok (ss.map spotOf, rs.map rowOf) := fun ss l2 e y y2 => by simp only [rdc, el, tk1_good fz, gu, hM, y, y2]
    have R4 : ∀ ss l2 rs m x l, tkN ls.length shS M (lf ls (n1 + 1)) = .ok (ss, l2) → tkN ls.length (shR M) M l2 = .ok (rs, (m, x) :: l) → rdc ls = .error (m, 0) := fun ss l2 e m x l y y2 => by simp only [rdc, el, tk1_good fz, gu, hM, y, y2]
    rw [eM]
    refine ⟨Nat.zero_le _, fun B hB => ?_⟩
    obtain ⟨R, rows, dx, hx6, _, _⟩ := id h6.ex
    have b0 := fresh s16 (by rw [hx6]; exact fun z => nomatch z) hB
    have bR : B ≠ r := fun z => by rw [z, hx6] at hB; cases hB
    have fB : F0 B = none := h6.fh.free hB
    dsimp only [gName]
    refine seq_in ?_
    refine ⟨fun k σ' H' => ∃ n' uss vs, k = ls.length - n' ∧ σ' = [some (.ref p), some (.ref r), some (.int (M : Nat)), some (.ref B), none] ∧ Sx r H1 H' ∧ Rd K a r ls n' 0 F0 H' ∧ n' ≤ ls.length ∧ uss.length ≤ M ∧ uss.length ≤ n' ∧ H' B = some (.lst vs) ∧ Paired (Spt K H') vs (uss.map spotOf) ∧
      tkN ls.length shS M (lf ls (n1 + 1)) = app uss (tkN ls.length shS (M - uss.length) (lf ls n')) ∧ ∀ x ∈ uss, x ∈ ls ∧ fl x 0 shS = none, ?_, ?_⟩
    · refine ⟨_, n1 + 1, [], [], rfl, rfl, s16.new b0, h6.up (same_new hB), by omega, Nat.zero_le _, Nat.zero_le _, upd_same, .nil, ?_, fun x hx => nomatch hx⟩
      cases tkN ls.length shS M (lf ls (n1 + 1)) with
      | error e => rfl
      | ok x => rfl
    rintro k _ H7 ⟨n', uss, vs, rfl, rfl, s7, h7, hn7, uM, un, hB7, pr7, tk7, ml7⟩
    obtain ⟨R, rows, dx, hx7, _, _⟩ := id h7.ex
    have lv : vs.length = uss.length := by rw [Paired.length pr7, List.length_map]
    refine ⟨_, rfl, B, _, rfl, .inl (SqL.of hB7), _, rfl, _, _, rfl, rfl, _, rfl, ?_⟩
    rw [lv]
    by_cases c : uss.length < M
    · refine iteY (decide_eq_true (by omega)) ⟨_, fun σ' H' z => z, ?_⟩
      have k1 : M - uss.length = (M - (uss.length + 1)) + 1 := by omega
      rw [k1] at tk7
      refine ⟨_, rfl, .inl ⟨rfl, _, SqL.of hB7⟩, _, rfl, F0, r, ls, n', rfl, h7, hn7, fun m i z => no s7 (R1 _ (by rw [tk7, tkN_bad z]; rfl)), fun us' l' z n'' H8 q s8 h8 le8 lt8 lf8 hq => ?_⟩
      have hB8 := s8 B _ bR hB7
      obtain ⟨⟨mm, el'⟩, fl'⟩ := tk1_of z
      refine ⟨B, _, _, rfl, rfl, hB8, by rw [lv, sizeLine_eq]; have := ok.n; omega, ?_⟩
      refine ⟨_, (by omega : ls.length - n'' < ls.length - n'), n'', uss ++ [us'], vs ++ [.ref q], rfl, rfl, (s7.trans s8).new b0, h8.mut fB bR, le8, by rw [List.length_append]; exact c, by rw [List.length_append, List.length_singleton]; omega, upd_same, ?_, ?_, fun x hx => ?_⟩
      · rw [List.map_append]
        refine paired_snoc ⟨q, rfl, ?_⟩ (Paired.mapP pr7 fun v s y => spt_upd (spt_sx y s8 hx7) hB8)
        rw [upd_ne (fun y => by rw [y, hB8] at hq; cases hq)]
        exact hq
      · rw [tk7, tkN_ok z, app_app, List.length_append, lf8]
        rfl
      · rcases List.mem_append.mp hx with hx | hx
        · exact ml7 x hx
        · rw [List.mem_singleton] at hx
          subst hx
          exact ⟨lf_mem el', fl'⟩
    refine iteN (by rw [decide_eq_false (by omega)]; exact fun z => nomatch z) ?_
    have uM' : uss.length = M := by omega
    rw [uM', Nat.sub_self] at tk7
    have tk7 : tkN ls.length shS M (lf ls (n1 + 1)) = .ok (uss, lf ls n') := by rw [tk7]; show Except.ok (uss ++ [], lf ls n') = _; rw [List.append_nil]
    clear c
    refine ⟨Nat.zero_le _, fun B2 hB2 => ?_⟩
    have r7 : H7 r ≠ none := by rw [hx7]; exact fun z => nomatch z
    have b20 := fresh s7 r7 hB2
    have b2R : B2 ≠ r := fun z => r7 (z ▸ hB2)
    have fB2 : F0 B2 = none := h7.fh.free hB2
    have bb : B2 ≠ B := fun z => by rw [z, hB7] at hB2; cases hB2
    dsimp only [gName]
    refine seq_in ?_
    refine ⟨fun k σ' H' => ∃ n2 rss ws, k = ls.length - n2 ∧ σ' = [some (.ref p), some (.ref r), some (.int (M : Nat)), some (.ref B), some (.ref B2)] ∧ Sx r H1 H' ∧ Rd K a r ls n2 0 F0 H' ∧ n2 ≤ ls.length ∧ rss.length ≤ M ∧ H' B = some (.lst vs) ∧ Paired (Spt K H') vs (uss.map spotOf) ∧
      H' B2 = some (.lst ws) ∧ Paired (RowA H' B2) ws (rss.map rowOf) ∧ tkN ls.length (shR M) M (lf ls n') = app rss (tkN ls.length (shR M) (M - rss.length) (lf ls n2)) ∧ ∀ x ∈ rss, fl x 0 (shR M) = none, ?_, ?_⟩
    · refine ⟨_, n', [], [], rfl, rfl, s7.new b20, h7.up (same_new hB2), hn7, Nat.zero_le _, by rw [upd_ne (Ne.symm bb)]; exact hB7, Paired.mapP pr7 fun v s y => y.up (same_new hB2), upd_same, .nil, ?_, fun x hx => nomatch hx⟩
      cases tkN ls.length (shR M) M (lf ls n') with
      | error e => rfl
      | ok x => rfl
    rintro k _ H8 ⟨n2, rss, ws, rfl, rfl, s8, h8, hn8, rM, hB8, pr8, hC8, pw8, tk8, ml8⟩
    obtain ⟨R, rows, dx, hx8, _, _⟩ := id h8.ex
    have lw : ws.length = rss.length := by rw [Paired.length pw8, List.length_map]
    refine ⟨_, rfl, B2, _, rfl, .inl (SqL.of hC8), _, rfl, _, _, rfl, rfl, _, rfl, ?_⟩
    rw [lw]
    by_cases c : rss.length < M
    · refine iteY (decide_eq_true (by omega)) ⟨_, fun σ' H' z => z, ?_⟩
      have k1 : M - rss.length = (M - (rss.length + 1)) + 1 := by omega
      rw [k1] at tk8
      have N1 := ok.n
      refine ⟨_, rfl, .inl ⟨rfl, _, SqL.of hC8⟩, _, rfl, _, rfl, F0, r, ls, n2, M, rfl, h8, hn8, by omega, fun m i z => no s8 (R2 _ _ _ tk7 (by rw [tk8, tkN_bad z]; rfl)), fun us' l' z n3 H9 q s9 h9 le9 lt9 lf9 q8 hq => ?_⟩
      have hB9 := s9 B _ bR hB8
      have hC9 := s9 B2 _ b2R hC8
      obtain ⟨_, fl'⟩ := tk1_of z
      have qB : q ≠ B2 := fun y => by rw [y, hC8] at q8; cases q8
      refine ⟨B2, _, _, rfl, rfl, hC9, by rw [lw, sizeLine_eq]; omega, ?_⟩
      refine ⟨_, (by omega : ls.length - n3 < ls.length - n2), n3, rss ++ [us'], ws ++ [.ref q], rfl, rfl, (s8.trans s9).new b20, h9.mut fB2 b2R, le9, by rw [List.length_append]; exact c, by rw [upd_ne (Ne.symm bb)]; exact hB9, Paired.mapP pr8 fun v s y => spt_upd (spt_sx y s9 hx8) hC9, upd_same, ?_, ?_, fun x hx => ?_⟩
      · rw [List.map_append]
        exact paired_snoc ⟨q, rfl, qB, by rw [upd_ne qB]; exact hq⟩ (Paired.mapP pw8 fun v s y => rowA_upd (rowA_sx y s9 hx8))
      · rw [tk8, tkN_ok z, app_app, List.length_append, lf9]
        rfl
      · rcases List.mem_append.mp hx with hx | hx
        · exact ml8 x hx
        · rw [List.mem_singleton] at hx
          subst hx
          exact fl'
    refine iteN (by rw [decide_eq_false (by omega)]; exact fun z => nomatch z) ?_
    have rM' : rss.length = M := by omega
    rw [rM', Nat.sub_self] at tk8
    have tk8 : tkN ls.length (shR M) M (lf ls n') = .ok (rss, lf ls n2) := by rw [tk8]; show Except.ok (rss ++ [], lf ls n2) = _; rw [List.append_nil]
    refine ⟨_, rfl, r, dx, _, rfl, hx8, rfl, F0, r, ls, n2, rfl, h8, hn8, fun z H9 s9 => ?_, fun m x l z => no s8 (R4 _ _ _ _ _ _ tk7 (by rw [tk8, z]))⟩
    rw [z] at tk8
    have rk := R3 _ _ _ tk7 tk8
    have ls_ : (uss.map spotOf).length = M := by rw [List.length_map, uM']
    obtain ⟨kf, kc⟩ := kg _ _ rk
    have s19 := sx (s8.trans s9)
    have hB9 := s9 B _ bR hB8
    have hC9 := s9 B2 _ b2R hC8
    have sps : Sps K false H9 B (uss.map spotOf) := ⟨vs, SqL.of hB9, Paired.mapP pr8 fun v s y => spt_sx y s9 hx8⟩
    have N1 := ok.n
    have tb : Tb K false H9 (.ref B2) (uss.map spotOf).length (tbl (rss.map rowOf)) := by
      refine ⟨B2, ws, rfl, SqL.of hC9, by rw [lw, ls_, rM'], fun i u hu => ?_⟩
      obtain ⟨row, hr1, q, rfl, _, hq⟩ := paired_get (Paired.mapP pw8 fun v s y => rowA_sx y s9 hx8) hu
      refine ⟨q, rfl, SqL.of ?_⟩
      have e : tbl (rss.map rowOf) i = fun b => row.getD b 0 := by
        unfold tbl
        rw [List.getD_eq_getElem?_getD, hr1]
        rfl
      rw [List.getElem?_map] at hr1
      obtain ⟨x, hx1, rfl⟩ := Option.map_eq_some_iff.mp hr1
      have hl := fl_len (Nat.zero_le _) (ml8 x (List.mem_of_getElem? hx1))
      rw [e, row_tbl (by unfold rowOf; rw [List.length_map, List.length_drop, hl]; unfold shR; rw [List.length_cons, List.length_replicate, ls_]; omega)]
      exact hq
    refine ⟨_, rfl, _, rfl, mk_cdX (Q := fun x H' => Q (.ref x) H') sps (by rw [ls_]; omega) (by rw [ls_]; omega) (fun s hs => ?_) tb (fun ok2 hc H10 x e10 x0 cd => ?_) fun z hz H10 d e10 hd => ?_⟩
    · obtain ⟨x, hx, rfl⟩ := List.mem_map.mp hs
      obtain ⟨hm, _⟩ := ml7 x hx
      show PyData.strOk (S (x.getD 1 [])) = true
      refine strOk_S fun c hc => ?_
      rw [List.getD_eq_getElem?_getD] at hc
      cases e : x[1]? with
      | none => rw [e] at hc; exact absurd hc (by simp)
      | some w =>
        rw [e] at hc
        exact (ok.w x hm w (List.mem_of_getElem? e)).lt c hc
    · refine kc ok2 hc H10 x (s19.trans e10) ?_ cd
      exact s19.free x0
    · exact kf z hz H10 d (s19.trans e10) hd
end
end K52

set_option Elab.async false
set_option linter.all false
set_option maxRecDepth 100000
set_option maxHeartbeats 4000000
namespace K52
open PySem PySem.Spec PyProof.Rows L2 Ew
/-! ### the law's own tables, that it writes -/
structure Raw (H0 H : Hp) (p : Addr) (qs : List Addr) (n : Nat) (f : Tb2) : Prop where
  at_ : H p = some (.lst (qs.map V.ref))
  len : qs.length = n
  nd : qs.Nodup
  np : p ∉ qs
  p0 : H0 p = none
  q0 : ∀ q ∈ qs, H0 q = none
  row : ∀ i q, qs[i]? = some q → H q = some (.lst (rowV n (f i)))
section
variable {K : PySem.W.Frag} {H0 H H' : Hp} {p q : Addr} {qs : List Addr} {n i j : Nat} {f g : Tb2} {x : Int}
theorem Raw.tb (h : Raw H0 H p qs n f) : Tb K false H (.ref p) n f :=
  ⟨p, _, rfl, SqL.of h.at_, by rw [List.length_map, h.len], fun i u hu => by
    rw [List.getElem?_map] at hu
    obtain ⟨q, h1, rfl⟩ := Option.map_eq_some_iff.mp hu
    exact ⟨q, rfl, SqL.of (h.row i q h1)⟩⟩
theorem Raw.up (h : Raw H0 H p qs n f) (e : Same H H') : Raw H0 H' p qs n f := ⟨e _ _ h.at_, h.len, h.nd, h.np, h.p0, h.q0, fun i q z => e _ _ (h.row i q z)⟩
theorem Raw.congr (h : Raw H0 H p qs n f) (e : ∀ a b, a < n → b < n → f a b = g a b) : Raw H0 H p qs n g := ⟨h.at_, h.len, h.nd, h.np, h.p0, h.q0, fun i q z => by
  have hi : i < n := by rw [← h.len]; exact (List.getElem?_eq_some_iff.mp z).1
  rw [h.row i q z, rowV_congr fun j hj => e i j hi hj]⟩
theorem rowV_set {r : Nat → Int} : (rowV n r).set j (.int x) = rowV n fun b => if b = j then x else r b := by
  refine rowV_of (by rw [List.length_set, rowV_len]) fun k y e => ?_
  rw [List.getElem?_set] at e
  by_cases h : j = k
  · subst h
    rw [if_pos rfl] at e
    split at e
    · cases e
      rw [if_pos rfl]
    · cases e
  · rw [if_neg h] at e
    obtain ⟨_, rfl⟩ := rowV_get e
    rw [if_neg (Ne.symm h)]
theorem Raw.put (h : Raw H0 H p qs n f) (hq : qs[i]? = some q) : Raw H0 (upd H q (.lst ((rowV n (f i)).set j (.int x)))) p qs n (fun a b => if a = i ∧ b = j then x else f a b) where
  at_ := by rw [upd_ne (fun z => h.np (by rw [z]; exact List.mem_of_getElem? hq))]; exact h.at_
  len := h.len
  nd := h.nd
  np := h.np
  p0 := h.p0
  q0 := h.q0
  row := fun k r hr => by
    by_cases e : k = i
    · subst e
      rw [hq] at hr
      cases hr
      rw [upd_same, rowV_set]
      congr 3
      funext b
      by_cases z : b = j <;> simp [z]
    · have ne : r ≠ q := fun z => e (by
        subst z
        exact (List.getElem?_inj (List.getElem?_eq_some_iff.mp hr).1 h.nd).mp (hr.trans hq.symm))
      rw [upd_ne ne, h.row k r hr]
      congr 3
      funext b
      rw [if_neg fun z => e z.1]
theorem Raw.same (h : Raw H0 H p qs n f) (hq : qs[i]? = some q) (e : Same H0 H) {o : HO} : Same H0 (upd H q o) := same_mut e (h.q0 q (List.mem_of_getElem? hq))
theorem refs_of {P : Nat → Addr → Prop} : ∀ {ys : List V}, (∀ (j : Nat) y, ys[j]? = some y → ∃ q, y = V.ref q ∧ P j q) → ∃ qs : List Addr, ys = qs.map V.ref ∧ ∀ (j : Nat) q, qs[j]? = some q → P j q := by
  intro ys
  induction ys generalizing P with
  | nil => exact fun _ => ⟨[], rfl, fun j q z => by simp at z⟩
  | cons y ys ih =>
    intro h
    obtain ⟨q, rfl, hq⟩ := h 0 y rfl
    obtain ⟨qs, rfl, hqs⟩ := ih (P := fun j q => P (j + 1) q) fun j y z => h (j + 1) y z
    exact ⟨q :: qs, rfl, fun j r z => by
      cases j with
      | zero => cases z; exact hq
      | succ j => exact hqs j r z⟩
/-- [list(row) for row in rows] -/
theorem copy_tab {v : V} {σ : L2.St} {vs : List Nat} {Q : VK} {i j : Nat} (h0 : σ[i]? = some (some v)) (hv : ∀ x, ((wipe σ vs).set j (some x))[j]? = some (some x)) (hw : ∀ x, wipe ((wipe σ vs).set j (some x)) vs = wipe σ vs) (tb : Tb K false H v n f) (hn : n ≤ 1000)
    (k : ∀ H' p qs, Same H H' → Raw H H' p qs n f → Q (.ref p) H') : tLc (iList K (tVar i)) (gName j) tYes (tCB (rLstS K) (tCons (tVar j) tNil)) vs σ H Q := by
  obtain ⟨p, us, rfl, hp, hl, hu⟩ := tb
  refine ⟨_, h0, p, rfl, ⟨us, hp⟩, fun D hD => ?_⟩
  refine lcS memP walk_list (fun acc => acc.Nodup) (.refl H) trivial .nil hD (fun i F y => ∃ q, y = V.ref q ∧ H q = none ∧ F q = some (.lst (rowV n (f i)))) (fun _ _ _ _ e z => by obtain ⟨q, z1, z2, z3⟩ := z; exact ⟨q, z1, z2, e _ _ z3⟩) (by omega) (fun F' H' e1 e2 => upL (e1.trans e2) hp) ?_ ?_
  · rintro i x F' _ H1 acc Kt Kn hi s1 _ hacc nd hr ⟨rfl, hx⟩ kk
    obtain ⟨q, rfl, hq⟩ := hu i x hx
    refine ⟨hw _, lc_yes ⟨_, hv _, ?_⟩⟩
    dsimp only [tNil]
    refine ⟨q, _, rfl, .inl (upL (s1.ff.trans s1.fh) hq), fun l hl => ?_⟩
    have l0 : H l = none := s1.freshP hl
    refine kk (.ref l) _ _ ((Stm.refl s1.fh).newP hl) trivial ⟨l, rfl, l0, upd_same⟩ ?_
    rw [List.nodup_append]
    refine ⟨nd, by simp, fun a ha b hb => ?_⟩
    rw [List.mem_singleton] at hb
    subst hb
    rintro rfl
    obtain ⟨j, hj⟩ := List.mem_iff_getElem?.mp ha
    obtain ⟨q', e, _, z⟩ := hr j _ hj
    cases e
    rw [s1.fh _ _ z] at hl
    cases hl
  · intro F1 H1 ys s1 _ _ hD' hy nd hr
    obtain ⟨qs, rfl, hqs⟩ := refs_of (P := fun i q => H q = none ∧ F1 q = some (.lst (rowV n (f i)))) fun j y z => by obtain ⟨q, z1, z2, z3⟩ := hr j y z; exact ⟨q, z1, z2, z3⟩
    rw [List.length_map] at hy
    have ql : qs.length = n := hy.trans hl
    refine k H1 D qs (s1.ff.trans s1.fh) ⟨s1.fh _ _ hD', ql, (List.pairwise_map.mp nd).imp fun z e => z (congrArg _ e), fun m => ?_, hD, fun q m => ?_, fun i q z => s1.fh _ _ (hqs i q z).2⟩
    · obtain ⟨j, hj⟩ := List.mem_iff_getElem?.mp m
      have z := (hqs j D hj).2
      rw [hD'] at z
      injection z with z
      injection z with z
      have jn : j < n := by rw [← ql]; exact (List.getElem?_eq_some_iff.mp hj).1
      have := congrArg (fun l => l[j]?) z
      simp only [List.getElem?_map, hj, Option.map_some] at this
      rw [rowV_at jn] at this
      cases this
    · obtain ⟨j, hj⟩ := List.mem_iff_getElem?.mp m
      exact (hqs j q hj).1
end
end K52

set_option Elab.async false
set_option linter.all false
set_option maxRecDepth 100000
set_option maxHeartbeats 4000000
namespace K52
open PySem PySem.Spec PyProof.Rows L2 Ew
/-! ### the law's closing -/
/-- row a is done as far as column b, by way of m -/
def mid (m : Nat) (g : Tb2) (a b : Nat) : Tb2 := fun i j => if i < a ∨ (i = a ∧ j < b) then via m g i j else g i j
section
variable {P : Program} {w : World} {K : PySem.W.Frag} {mg : Str → Option Value} {base : Heap} {a : Ad}
theorem Raw.get {H0 H : Hp} {p : Addr} {qs : List Addr} {n i : Nat} {f : Tb2} (h : Raw H0 H p qs n f) (hi : i < n) : ∃ q, qs[i]? = some q ∧ atI (qs.map V.ref) ((0 : Int) + (i : Nat)) = some (.ref q) := by
  obtain ⟨q, hq⟩ : ∃ q, qs[i]? = some q := ⟨_, List.getElem?_eq_getElem (by rw [h.len]; exact hi)⟩
  refine ⟨q, hq, atI_int (by omega) (by rw [List.length_map, h.len]; omega) ?_⟩
  have : ((0 : Int) + (i : Nat)).toNat = i := by omega
  rw [this, List.getElem?_map, hq]
  rfl
theorem row_at {n j : Nat} {g : Nat → Int} (h : j < n) : atI (rowV n g) ((0 : Int) + (j : Nat)) = some (.int (g j)) := by
  refine atI_int (by omega) (by rw [rowV_len]; omega) ?_
  have : ((0 : Int) + (j : Nat)).toNat = j := by omega
  rw [this, rowV_at h]
theorem row_ix {n j : Nat} {g : Nat → Int} (h : j < n) : ixN (rowV n g).length ((0 : Int) + (j : Nat)) = some j := by
  unfold ixN
  rw [if_pos (by omega), if_pos (by rw [rowV_len]; omega)]
  congr 1
  omega
theorem seq_asg {te : TE} {g : TG} {u : TS} {D : Ends} {σ : L2.St} {H : Hp} (h : te σ H fun v H1 => g v σ H1 fun σ2 H2 => u D σ2 H2) : tSeq (tAsg te g) u D σ H := h
def sp__law_closing (K : PySem.W.Frag) : Sp := fun vs H Q _ => ∃ (v : V) (n : Nat) (f : Tb2), vs = [v] ∧ Tb K false H v n f ∧ n ≤ 1000 ∧ ∀ H' p qs, Same H H' → Raw H H' p qs n (fw n f) → Q (.ref p) H'
theorem c__law_closing (T : Txt K mg a) : Cl P w K mg base 1 "_law_closing" P__law_closing (sp__law_closing K) [] :=
  T.d__law_closing.cl sc__law_closing (fun vs H Q E h => by obtain ⟨v, n, f, rfl, _⟩ := h; rfl) fun f cdv A outer s H vs Q E hr h => by
    obtain ⟨v, n, f, rfl, tb, hn, k⟩ := h
    refine ⟨_, ((pss_cons (ps_setLc (i := 1) (own := [("_law_row", 5)]) (g := (gName 5)) (by rfl) sc__law_closing.nd rfl rfl (sw_true rfl rfl rfl (by decide +kernel)) (pi_list (pv 0)) (blkOk_by (own := [("_law_row", 5)]) (N := N__law_closing) (sc := defScope s__law_closing) (by decide +kernel)) (fun _ _ _ _ _ => (pg_name (i := 5) sc__law_closing.nd rfl (Or.inl rfl) (hf := .inr rfl))) (fun _ _ _ _ _ => pts_nil) (fun _ _ _ _ _ => (pe_callTy (T := "list") (r := rLstS K) call_lstS (by rfl) T.n_list (by decide +kernel) (pa_cons (pv 5) pa_nil))))
 (pss_cons (ps_for (passes_of rfl) rfl (pi_range1 (by rfl) T.n_range (pa_cons (pe_callB call_len_seq (by rfl) T.n_len (by decide +kernel) (pa_cons (pv 1) pa_nil)) pa_nil)) (pg_name (i := 2) sc__law_closing.nd rfl (Or.inl rfl))
 (pss_cons (ps_set (i := 3) sc__law_closing.nd rfl (Or.inl rfl) (pe_callTy (T := "list") (r := rLstS K) call_lstS (by rfl) T.n_list (by decide +kernel) (pa_cons (pe_ix ix_list (pv 1) (pv 2) (fun _ _ => rfl)) pa_nil)))
 (pss_one (ps_for (passes_of rfl) rfl (pi_range1 (by rfl) T.n_range (pa_cons (pe_callB call_len_seq (by rfl) T.n_len (by decide +kernel) (pa_cons (pv 1) pa_nil)) pa_nil)) (pg_name (i := 4) sc__law_closing.nd rfl (Or.inl rfl))
 (pss_cons (ps_set (i := 5) sc__law_closing.nd rfl (Or.inl rfl) (pe_ix ix_list (pv 1) (pv 4) (fun _ _ => rfl)))
 (pss_cons (ps_set (i := 6) sc__law_closing.nd rfl (Or.inl rfl) (pe_ix ix_list (pv 5) (pv 2) (fun _ _ => rfl)))
 (pss_one (ps_for (passes_of rfl) rfl (pi_range1 (by rfl) T.n_range (pa_cons (pe_callB call_len_seq (by rfl) T.n_len (by decide +kernel) (pa_cons (pv 1) pa_nil)) pa_nil)) (pg_name (i := 7) sc__law_closing.nd rfl (Or.inl rfl))
 (pss_one (ps_if (pt_cmpR op_lt (pe_op op_add (pv 6) (pe_ix ix_list (pv 3) (pv 7) (fun _ _ => rfl))) (pe_ix ix_list (pv 5) (pv 7) (fun _ _ => rfl)) (nomark _))
 (pss_one (ps_asg (pe_op op_add (pv 6) (pe_ix ix_list (pv 3) (pv 7) (fun _ _ => rfl))) (pg_sub (pv 5) (pv 7) set_list)))
 pss_nil))))))))))
 (pss_one (ps_ret (pv 1)))))), ?_⟩
    refine seq_asg (copy_tab (i := 0) (j := 5) rfl (by intro _; rfl) (by intro _; rfl) tb hn fun H1 p qs e1 r1 => ?_)
    dsimp only [gName]
    refine ⟨_, rfl, p, _, rfl, .inl (SqL.of r1.at_), _, rfl, by omega, by rw [List.length_map, r1.len]; omega, ?_⟩
    rw [show ((((qs.map V.ref).length : Nat) : Int)).toNat = n by rw [List.length_map, r1.len]; omega]
    refine for_it walk_range (fun m σ' H' => ∃ c2 c3 c4 c5 c6 c7, σ' = [some v, some (.ref p), c2, c3, c4, c5, c6, c7] ∧ Same H H' ∧ Raw H H' p qs n (fw m f)) ?_ (fun _ _ _ _ _ => trivial) ?_ ?_
    · exact ⟨none, none, none, none, none, none, rfl, e1, r1⟩
    · rintro m _ _ _ H2 hm ⟨c2, c3, c4, c5, c6, c7, rfl, e2, r2⟩ ⟨rfl, rfl⟩
      obtain ⟨qm, hqm, am⟩ := r2.get hm
      refine ⟨_, rfl, _, rfl, p, _, _, _, rfl, rfl, SqL.of r2.at_, am, qm, _, rfl, .inl (SqL.of (r2.row m qm hqm)), fun th nth => ?_⟩
      dsimp only [gName]
      have e3 := e2.trans (same_new (o := .lst (rowV n (fw m f m))) nth)
      have r3 := r2.up (same_new (o := .lst (rowV n (fw m f m))) nth)
      have h3 : (upd H2 th (.lst (rowV n (fw m f m)))) th = some (.lst (rowV n (fw m f m))) := upd_same
      have nt : ∀ q ∈ p :: qs, th ≠ q := fun q hq z => by
        subst z
        rcases List.mem_cons.mp hq with e | hq
        · have := r2.at_
          rw [← e, nth] at this
          cases this
        · obtain ⟨i, hi⟩ := List.mem_iff_getElem?.mp hq
          have := r2.row i th hi
          rw [nth] at this
          cases this
      generalize hg : fw m f = g at e3 r3 h3 ⊢
      generalize upd H2 th (.lst (rowV n (g m))) = H3 at e3 r3 h3 ⊢
      refine ⟨_, rfl, p, _, rfl, .inl (SqL.of r3.at_), _, rfl, by omega, by rw [List.length_map, r3.len]; omega, ?_⟩
      rw [show ((((qs.map V.ref).length : Nat) : Int)).toNat = n by rw [List.length_map, r3.len]; omega]
      refine for_it walk_range (fun i σ' H' => ∃ c4 c5 c6 c7, σ' = [some v, some (.ref p), some (.int (0 + (m : Nat))), some (.ref th), c4, c5, c6, c7] ∧ Same H H' ∧ Raw H H' p qs n (mid m g i 0) ∧ H' th = some (.lst (rowV n (g m)))) ?_ (fun _ _ _ _ _ => trivial) ?_ ?_
      · exact ⟨_, _, _, _, rfl, e3, r3.congr fun i j _ _ => by unfold mid; rw [if_neg (by omega)], h3⟩
      · rintro i _ _ _ H4 hi ⟨c4, c5, c6, c7, rfl, e4, r4, h4⟩ ⟨rfl, rfl⟩
        obtain ⟨qi, hqi, ai⟩ := r4.get hi
        refine ⟨_, rfl, _, rfl, p, _, _, _, rfl, rfl, SqL.of r4.at_, ai, ?_⟩
        have ri := r4.row i qi hqi
        refine ⟨_, rfl, _, rfl, qi, _, _, _, rfl, rfl, SqL.of ri, row_at hm, ?_⟩
        refine ⟨_, rfl, p, _, rfl, .inl (SqL.of r4.at_), _, rfl, by omega, by rw [List.length_map, r4.len]; omega, ?_⟩
        rw [show ((((qs.map V.ref).length : Nat) : Int)).toNat = n by rw [List.length_map, r4.len]; omega]
        have em : mid m g i 0 i m = g i m := by unfold mid; rw [if_neg (by omega)]
        rw [em]
        refine for_it walk_range (fun j σ' H' => ∃ c7, σ' = [some v, some (.ref p), some (.int (0 + (m : Nat))), some (.ref th), some (.int (0 + (i : Nat))), some (.ref qi), some (.int (g i m)), c7] ∧ Same H H' ∧ Raw H H' p qs n (mid m g i j) ∧ H' th = some (.lst (rowV n (g m)))) ?_ (fun _ _ _ _ _ => trivial) ?_ ?_
        · exact ⟨_, rfl, e4, r4, h4⟩
        · rintro j _ _ _ H5 hj ⟨c7, rfl, e5, r5, h5⟩ ⟨rfl, rfl⟩
          have rj := r5.row i qi hqi
          have ej : mid m g i j i j = g i j := by unfold mid; rw [if_neg (by omega)]
          refine ⟨_, rfl, _, rfl, _, rfl, th, _, _, _, rfl, rfl, SqL.of h5, row_at hj, _, _, rfl, rfl, ?_⟩
          refine ⟨_, rfl, _, rfl, qi, _, _, _, rfl, rfl, SqL.of rj, row_at hj, _, _, rfl, rfl, _, rfl, ?_⟩
          rw [ej]
          by_cases lt : g i m + g m j < g i j
          · rw [decide_eq_true lt]
            refine iteT ⟨_, rfl, _, rfl, _, rfl, th, _, _, _, rfl, rfl, SqL.of h5, row_at hj, _, _, rfl, rfl, ?_⟩
            refine ⟨_, rfl, _, rfl, qi, _, _, _, rfl, rfl, rj, row_ix hj, ?_⟩
            refine ⟨_, rfl, r5.same hqi e5, (r5.put hqi).congr fun x y hx hy => ?_, by rw [upd_ne (nt qi (List.mem_cons_of_mem _ (List.mem_of_getElem? hqi)))]; exact h5⟩
            unfold mid
            by_cases z : x = i ∧ y = j
            · obtain ⟨rfl, rfl⟩ := z
              rw [if_pos ⟨rfl, rfl⟩, if_pos (by omega)]
              unfold via
              rw [if_pos lt]
            · rw [if_neg z]
              by_cases z1 : x < i ∨ (x = i ∧ y < j)
              · rw [if_pos z1, if_pos (by omega)]
              · rw [if_neg z1, if_neg (by omega)]
          · rw [decide_eq_false lt]
            refine iteF ⟨_, rfl, e5, r5.congr fun x y hx hy => ?_, h5⟩
            unfold mid
            by_cases z : x = i ∧ y = j
            · obtain ⟨rfl, rfl⟩ := z
              rw [if_neg (by omega), if_pos (by omega)]
              unfold via
              rw [if_neg lt]
            · by_cases z1 : x < i ∨ (x = i ∧ y < j)
              · rw [if_pos z1, if_pos (by omega)]
              · rw [if_neg z1, if_neg (by omega)]
        · rintro _ H5 ⟨c7, rfl, e5, r5, h5⟩
          refine ⟨_, _, _, _, rfl, e5, r5.congr fun x y hx hy => ?_, h5⟩
          unfold mid
          by_cases z1 : x < i ∨ (x = i ∧ y < n)
          · rw [if_pos z1, if_pos (by omega)]
          · rw [if_neg z1, if_neg (by omega)]
      · rintro _ H4 ⟨c4, c5, c6, c7, rfl, e4, r4, h4⟩
        refine ⟨_, _, _, _, _, _, rfl, e4, ?_⟩
        refine r4.congr fun i j hi hj => ?_
        unfold mid
        rw [if_pos (.inl hi), ← hg]
        rfl
    · rintro _ H2 ⟨c2, c3, c4, c5, c6, c7, rfl, e2, r2⟩
      exact ⟨_, rfl, k H2 p qs e2 r2⟩
end
end K52

set_option Elab.async false
set_option linter.all false
set_option maxRecDepth 100000
set_option maxHeartbeats 4000000
namespace Ew
open PySem PySem.Spec PyProof.Rows L2
open PySem.W (EachIs AllAlike Sortable dataLe dataKind SortsAt)
/-! ### sorted of keys that are tuples -/
def keyD : Key → PyData
  | .inl n => .int n
  | .inr s => .str s
def keyP (k : List Key) : PyData := .tuple (k.map keyD)
/-- keys, and where each stands -/
abbrev KAs := List (List Key × Addr)
def srt (ps : KAs) : KAs := ps.mergeSort (dataLe false fun q => keyP q.1)
def refsOf (ps : KAs) : List V := ps.map fun q => V.ref q.2
theorem dp_keys {K : PySem.W.Frag} {H : Hp} : ∀ k : List Key, DpAll K H (k.map kV) (k.map keyD)
  | [] => .nil
  | .inl n :: k => .cons (.int n) (dp_keys k)
  | .inr s :: k => .cons (.str s) (dp_keys k)
theorem dp_key {K : PySem.W.Frag} {H : Hp} {b : Addr} {k : List Key} (h : SqT K H b (k.map kV)) : Dp K H (.ref b) (keyP k) := .tup h (dp_keys k)
theorem depth_keys : ∀ k : List Key, PyData.depthAll (k.map keyD) = 0
  | [] => by rw [List.map_nil, PyData.depthAll]
  | .inl n :: k => by rw [List.map_cons, PyData.depthAll, depth_keys k]; rfl
  | .inr s :: k => by rw [List.map_cons, PyData.depthAll, depth_keys k]; rfl
theorem depth_key (k : List Key) : (keyP k).depth ≤ 1 := by
  unfold keyP
  rw [PyData.depth, depth_keys]
  exact Nat.le_refl _
theorem each_refs {R : Value → List Key × Addr → Prop} : ∀ {vs : List Value} {ps : KAs}, vs = ps.map (fun q => Value.ref q.2) → (∀ q ∈ ps, R (.ref q.2) q) → EachIs R vs ps
  | _, [], rfl, _ => .nil
  | _, q :: ps, rfl, h => .cons (h q List.mem_cons_self) (each_refs rfl fun x hx => h x (List.mem_cons_of_mem _ hx))
theorem refs_each : ∀ {vs : List Value} {ps : KAs}, EachIs (fun v q => v = Value.ref q.2) vs ps → Vals (refsOf ps) vs
  | _, _, .nil => .nil
  | _, _, .cons rfl h => .cons rfl (refs_each h)
theorem refs_vals : ∀ {ps : KAs} {us : List Value}, Vals (refsOf ps) us → us = ps.map fun q => Value.ref q.2
  | [], _, .nil => rfl
  | q :: ps, _, .cons rfl h => by rw [refs_vals h]; rfl
section
variable {X : Cx}
/-- sorted(xs), xs a list of such tuples -/
def rSortL (K : PySem.W.Frag) : List V → Hp → VK → Prop := fun vs H Q => ∃ (a : Addr) (ps : KAs), vs = [V.ref a] ∧ SqL K H a (refsOf ps) ∧ (∀ q ∈ ps, SqT K H q.2 (q.1.map kV)) ∧ AllAlike (ps.map fun q => keyP q.1) ∧ Sortable (ps.map fun q => keyP q.1) ∧
  ∀ p, H p = none → Q (.ref p) (upd H p (.lst (refsOf (srt ps))))
theorem call_sortL (hu : X.A.units + 64 < cLine) : CallR X (.builtin "sorted") (rSortL X.K) := by
  intro pins s σ H vs us Q I r h
  obtain ⟨a, ps, rfl, hs, hx, hal, hk, q⟩ := h
  obtain ⟨its, rv, hl, hz⟩ := I.list hs
  obtain ⟨u, rfl, ru⟩ := vals1 r
  obtain rfl : u = Value.ref a := ru
  have ei := refs_vals rv
  have lz : ps.length ≤ sizeLine := by unfold refsOf at hz; rwa [List.length_map] at hz
  have rd : ∀ q ∈ ps, ∃ as, Reads s.heap (.ref q.2) (keyP q.1) as := fun q hq => Dp.reads I _ _ _ (dp_key (hx q hq)) rfl
  refine PySem.W.sorted_data (R := fun v q => v = Value.ref q.2) (enc := fun q : List Key × Addr => keyP q.1) hl.isList (each_refs ei fun _ _ => rfl) (each_refs ei fun q hq => rd q hq) hal hk lz (fun b _ => ?_) fun out ho hR => ?_
  · have := depth_key b.1
    show X.A.units + 2 + (keyP b.1).depth < cLine
    omega
  · obtain ⟨n, hn⟩ := sortedAll_at s.heap its out.toArray
    refine ⟨.ref _, upd H (s.heap.objs.size + 1) (.lst (refsOf (srt ps))), I.laid (t' := s.toks) (fun b o e => sortedAll_old e) (Nat.le_succ _) ⟨?_, out, n, refs_each hR, hn⟩, rfl, q _ (I.hok.fresh (Nat.le_succ _))⟩
    unfold refsOf srt
    rw [List.length_map, List.length_mergeSort]
    exact lz
end
/-! ### the keys of a dict, collected -/
section
variable {P : Program} {w : World} {A : Around} {E : Value → Shared → Prop} {s : Shared} {d : Addr} {o : Obj} {es : Array DictEntry} {ep : Nat}
theorem collect_keys {R : List Value → Shared → Prop} (hh : A.handled = none) (lo : (d == sysModules) = false) (hx : o.ExactDict) (hd : o.data = .dict es ep) (ho : s.heap.get? d = some o) (hn : es.size ≤ sizeLine)
    (h : ∀ (h' : Heap) (tk : Nat) (vs : List Value), (∀ b u, s.heap.get? b = some u → h'.get? b = some u) → s.heap.objs.size ≤ h'.objs.size → vs.length = es.size → (∀ (i : Nat) v, vs[i]? = some v → ∃ en : DictEntry, es[i]? = some en ∧ v = en.key) → R vs { s with heap := h', toks := tk }) :
    wpAny (model P w) A (collect (.ref d)) R E s := by
  have below : d < s.heap.objs.size := Heap.lt_size ho
  unfold collect
  refine wpAny_bind
    (wpAny_runValue (codeAny_builtin PySem.F.entry_proto_collect ?_))
  rw [Around.under_plainId
    PySem.F.plain_proto_collect _]
  show wpAny _ A.in1 (newList [] >>= fun l => again (.builtin "list.__iadd__" ⟨[l, .ref d], []⟩)) _ _ s
  refine wpAny_bind
    (wpAny_newObj_type (wpAny_pure ⟨plainId_quiet PySem.F.plain_list_iadd _, codeAny_builtin PySem.F.entry_list_iadd ?_⟩))
  rw [Around.under_plainId
    PySem.F.plain_list_iadd _]
  have at0 : (s.heap.push { cls := .type "list", data := .seq ([] : List Value).toArray }).get? s.heap.objs.size = some { cls := .type "list", data := .seq #[] } := Heap.get?_push_size _ rfl
  show wpAny _ A.in1 (Builtin.List.listExtendWith (.ref s.heap.objs.size) (.ref d) (.ref s.heap.objs.size)) _ _ _
  have run := PySem.W.kdl_extend (prog := P) (w := w) (A := A) (s := { s with heap := s.heap.push { cls := .type "list", data := .seq ([] : List Value).toArray } })
    (R := fun (q : Result) (s' : Shared) => ∃ (h' : Heap) (tk : Nat) (acc : Array Value) (c : Nat), q = .ok (.ret (.ref s.heap.objs.size)) ∧ s' = { s with heap := h', toks := tk } ∧
      (∀ b u, s.heap.get? b = some u → h'.get? b = some u) ∧ h'.get? s.heap.objs.size = some { cls := .type "list", dict := none, data := .seq acc c, slots := #[] } ∧ ItemsOf (fun i v => ∃ en : DictEntry, es[i]? = some en ∧ v = en.key) acc es.size)
    (kdl_raw (prog := P) (w := w) lo hx hd) hh (Heap.get?_push_of_some _ ho) s.heap.objs.size (Nat.ne_of_gt below) (Nat.ne_of_gt below) (.ref s.heap.objs.size) 0 at0
    (fun h' tk acc c k e it => ⟨h', tk, acc, c, rfl, rfl, fun b u z => k b u (Nat.ne_of_lt (Heap.lt_size z)) (Heap.get?_push_of_some _ z), e, it⟩) hn
  have fin : ∀ (q : Result) (s' : Shared), (∃ (h' : Heap) (tk : Nat) (acc : Array Value) (c : Nat), q = .ok (.ret (.ref s.heap.objs.size)) ∧ s' = { s with heap := h', toks := tk } ∧
      (∀ b u, s.heap.get? b = some u → h'.get? b = some u) ∧ h'.get? s.heap.objs.size = some { cls := .type "list", dict := none, data := .seq acc c, slots := #[] } ∧ ItemsOf (fun i v => ∃ en : DictEntry, es[i]? = some en ∧ v = en.key) acc es.size) →
      q = .ok (.ret (.ref s.heap.objs.size)) ∧ wpAny (model P w) A (do let o ← load s.heap.objs.size; match o.data with | .seq xs _ => pure xs.toList | _ => unsupported "internal:collect") R E s' := by
    rintro q s' ⟨h', tk, acc, c, rfl, rfl, k, e, it⟩
    refine ⟨rfl, wpAny_bind (wpAny_load e (wpAny_pure ?_))⟩
    exact h h' tk acc.toList k (Nat.le_of_lt (Heap.lt_size e)) (by rw [Array.length_toList]; exact it.1) fun i v z => it.2 i v (by rw [← Array.getElem?_toList]; exact z)
  refine wpAny_mono run (fun f s' z => ?_) fun e s' z => ?_
  · cases f with
    | done f =>
      have y := fin _ s' z
      cases y.1
      exact y.2
    | again c =>
      refine ⟨z.1, codeAny_mono z.2 fun q s2 y => ?_⟩
      have y2 := fin _ s2 y
      cases y2.1
      exact y2.2
  · obtain ⟨_, _, _, _, e, _⟩ := z
    cases e
end
/-! ### a new list of such tuples, sorted -/
section
variable {P : Program} {w : World} {A : Around} {E : Value → Shared → Prop} {s : Shared}
theorem sort_fresh {vs : List Value} {ps : KAs} {Q : Value → Shared → Prop} (hv : vs = ps.map fun q => Value.ref q.2) (rd : ∀ q ∈ ps, ∃ as, Reads s.heap (.ref q.2) (keyP q.1) as) (hal : AllAlike (ps.map fun q => keyP q.1)) (hk : Sortable (ps.map fun q => keyP q.1))
    (hL : ps.length ≤ sizeLine) (hu : A.units + 3 < cLine) (h : ∀ (h' : Heap) (out : List Value) (n : Nat), Vals (refsOf (srt ps)) out → (∀ b u, s.heap.get? b = some u → h'.get? b = some u) → h'.get? s.heap.objs.size = some (seqObj "list" out.toArray n) → Q .none { s with heap := h' }) :
    wpAny (model P w) A (call (.builtin "list.sort") [.ref s.heap.objs.size]) Q E { s with heap := s.heap.push (seqObj "list" vs.toArray 0) } := by
  have ho : (s.heap.push (seqObj "list" vs.toArray 0)).get? s.heap.objs.size = some (seqObj "list" vs.toArray 0) := Heap.get?_push_size _ rfl
  have old : ∀ b u, s.heap.get? b = some u → (s.heap.push (seqObj "list" vs.toArray 0)).get? b = some u := fun b u e => Heap.get?_push_of_some _ e
  generalize s.heap.push (seqObj "list" vs.toArray 0) = H1 at ho old ⊢
  have rd1 : EachIs (fun v q => ∃ as, Reads (PySem.W.sortingHeap H1 s.heap.objs.size vs) v (keyP q.1) as) vs ps := each_refs hv fun q hq => by
    obtain ⟨as, r⟩ := rd q hq
    exact ⟨as, PyProof.Rows.Reads.keeps (fun b u e => PySem.W.sortingHeap_old (Nat.ne_of_lt (Heap.lt_size e)) (old b u e)) r⟩
  have e0 : EachIs (fun v q => v = Value.ref q.2) vs ps := each_refs hv fun _ _ => rfl
  have srtAt : SortsAt P w A.in1 { s with heap := PySem.W.sortingHeap H1 s.heap.objs.size vs } (dataKind (PySem.W.sortingHeap H1 s.heap.objs.size vs) (ps.map fun q => keyP q.1)) vs :=
    SortsAt.data (s := { s with heap := PySem.W.sortingHeap H1 s.heap.objs.size vs })
      (PySem.W.each_map (R := fun v d => ∃ as, Reads (PySem.W.sortingHeap H1 s.heap.objs.size vs) v d as) (fun q : List Key × Addr => keyP q.1) rd1) hal hk fun d hd => by
        obtain ⟨q, _, rfl⟩ := List.mem_map.mp hd
        have := depth_key q.1
        show A.units + 1 + (keyP q.1).depth < cLine
        omega
  refine wpAny_call_entry slot_list_sort ⟨_, ho, rfl⟩ entry_list_sort
    (PySem.W.list_sort_vals ho srtAt (by rw [e0.length]; exact hL) ⟨.none, rfl, ?_⟩) (args_list_sort _)
  obtain ⟨n, hn⟩ := sortedHeap_at (vs := vs) (out := (PySem.W.sortVals (dataKind (PySem.W.sortingHeap H1 s.heap.objs.size vs) (ps.map fun q => keyP q.1)) false vs vs).toArray) ho
  refine h _ _ n (refs_each (PySem.W.sortVals_data false e0 rd1 hal)) (fun b u e => ?_) hn
  rw [sortedHeap_old (Nat.ne_of_lt (Heap.lt_size e)) (Heap.lt_size (old b u e))]
  exact old b u e
end
/-! ### sorted of such a dict -/
section
variable {X : Cx}
theorem keys_alike {H : Hp} : ∀ {kvs : List (List Key × V)} {bs : List Addr}, IsKeys H kvs bs → ((kvs.map (·.1)).zip bs).map (·.1) = kvs.map (·.1) ∧ ((kvs.map (·.1)).zip bs).map (·.2) = bs ∧ ∀ q ∈ (kvs.map (·.1)).zip bs, H q.2 = some (.tup (q.1.map kV))
  | _, _, .nil => ⟨rfl, rfl, fun q h => by cases h⟩
  | c :: kvs, b :: bs, .cons h t => by
    obtain ⟨h1, h2, h3⟩ := keys_alike t
    rw [List.map_cons, List.zip_cons_cons]
    refine ⟨by rw [List.map_cons, h1], by rw [List.map_cons, h2], fun q hq => ?_⟩
    rcases List.mem_cons.mp hq with rfl | hq
    · exact h
    · exact h3 q hq
def rSortD : List V → Hp → VK → Prop := fun vs H Q => ∃ (d : Addr) (kvs : List (List Key × V)), vs = [.ref d] ∧ H d = some (.dT kvs) ∧ AllAlike (kvs.map fun c => keyP c.1) ∧ Sortable (kvs.map fun c => keyP c.1) ∧
  ∀ p bs, H p = none → IsKeys H kvs bs → Q (.ref p) (upd H p (.lst (refsOf (srt ((kvs.map (·.1)).zip bs)))))
theorem call_sortD (hc : X.calm = true) (hu : X.A.units + 64 < cLine) : CallR X (.builtin "sorted") rSortD := by
  intro pins s σ H vs us Q I r h
  obtain ⟨d, kvs, rfl, hd, hal, hk, q⟩ := h
  obtain ⟨u, rfl, rx⟩ := r.one
  cases rx
  obtain ⟨z, hs, ks, pr, o, es, ep, ho, hx, hdt, he, hn⟩ := dt_of I.hok hd
  have l1 : es.size = ks.length := size_of_entries he
  have l2 : kvs.length = ks.length := Paired.length pr
  have ik := isKeys_of pr
  obtain ⟨k1, k2, k3⟩ := keys_alike ik
  generalize eB : ks.map (fun x => x.2.1) = bs at ik k1 k2 k3
  refine Calls.call_function_entry kind_sorted plain_sorted
    entry_sorted (args_sorted1 _) ?_
  unfold Builtin.«sorted»
  refine wpAny_bind (m := checkCount "sorted" 1 1 _)
    (wpAny_pure (wpAny_bind (collect_keys (A := X.A.in1) (show X.A.in1.handled = none from I.ok.hd hc) hs hx hdt ho (by omega) fun h' tk vs kp big vl it => ?_)))
  have ev : vs = ((kvs.map (·.1)).zip bs).map fun q => Value.ref q.2 := by
    have : ((kvs.map (·.1)).zip bs).map (fun q => Value.ref q.2) = (((kvs.map (·.1)).zip bs).map (·.2)).map Value.ref := by rw [List.map_map]; rfl
    rw [this, k2, ← eB, List.map_map]
    apply List.ext_getElem?
    intro j
    rw [List.getElem?_map]
    cases hj : vs[j]? with
    | none =>
      have h1 := List.getElem?_eq_none_iff.mp hj
      rw [List.getElem?_eq_none (by omega)]
      all_goals rfl
    | some v =>
      obtain ⟨en, hen, hv⟩ := it j v hj
      have qe := entry_at he j
      rw [hen] at qe
      cases hb : ks[j]? with
      | none =>
        rw [hb] at qe
        exact nomatch (show some en = none from qe)
      | some b =>
        rw [hb] at qe
        have e2 : en = entryOfKey (tupleKind (mixKind X.prog X.w)) b := Option.some.inj qe
        rw [hv, e2]
        all_goals rfl
  have hz : ((kvs.map (·.1)).zip bs).length = kvs.length := by rw [← List.length_map (f := (·.1)), k1, List.length_map]
  have el : vs.length = kvs.length := by rw [ev, List.length_map, hz]
  refine wpAny_bind (wpAny_newList ?_ (by omega))
  have al2 : ((kvs.map (·.1)).zip bs).map (fun q => keyP q.1) = kvs.map fun c => keyP c.1 := by
    have : ((kvs.map (·.1)).zip bs).map (fun q => keyP q.1) = (((kvs.map (·.1)).zip bs).map (·.1)).map keyP := by rw [List.map_map]; rfl
    rw [this, k1, List.map_map]
    rfl
  have rd : ∀ q ∈ (kvs.map (·.1)).zip bs, ∃ as, Reads h' (.ref q.2) (keyP q.1) as := fun q hq => by
    obtain ⟨as, r⟩ := Dp.reads I _ _ _ (dp_key (SqT.of (k3 q hq))) rfl
    exact ⟨as, PyProof.Rows.Reads.keeps kp r⟩
  refine wpAny_bind (wpAny_holding (sort_fresh (s := { s with heap := h', toks := tk }) ev rd (by rw [al2]; exact hal) (by rw [al2]; exact hk) (by omega) (by show X.A.units + 1 + 3 < cLine; omega) fun h2 out n rv kp2 at2 => ?_))
  refine wpAny_pure ⟨_, rfl, .ref h'.objs.size, upd H h'.objs.size (.lst (refsOf (srt ((kvs.map (·.1)).zip bs)))), ?_, rfl, q _ bs (I.hok.fresh ?_) ik⟩
  · refine I.laid (t' := tk) (fun b u e => kp2 b u (kp b u e)) ?_ ⟨?_, out, n, rv, at2⟩
    · exact big
    · unfold refsOf srt
      rw [List.length_map, List.length_mergeSort]
      omega
  · exact big
end
end Ew

set_option Elab.async false
set_option linter.all false
set_option maxRecDepth 100000
set_option maxHeartbeats 4000000
namespace Ew
open PySem PySem.Spec PyProof.Rows L2
section
variable {F H F' H' F2 H2 : Hp} {J : It} {n : Nat} {G : Hp → Prop} {Y : Nat → Hp → V → Hp → Prop}
/-- [.. for x in xs if ..], nothing is changed: the turns that are kept give an item each -/
theorem lcF (w : Walk J n G Y) {g : TG} {tt : TT} {te : TE} {vs : List Nat} {σ : L2.St} {D : Addr} {Qd : Hp → Prop} (keep : Nat → Bool) (hf : Same F H) (hD : H D = none) (R : Nat → Hp → V → Prop) (hR : ∀ i F F' y, Same F F' → R i F y → R i F' y)
    (hn : n ≤ 1000000) (hG : ∀ F' H', Same F F' → Same F' H' → G H')
    (hs : ∀ i x F' H' H'' (Kt : VK) (Kn : Hp → Prop), i < n → Stp F H F' H' → Y i H' x H'' → (keep i = true → ∀ y F4 H4, Stp F' H' F4 H4 → R i F4 y → Kt y H4) → (keep i = false → ∀ F4 H4, Stp F' H' F4 H4 → Kn H4) →
      g x (wipe σ vs) H'' fun σ2 H2 => wipe σ2 vs = wipe σ vs ∧ tt σ2 H2 fun b H3 => if b = true then te σ2 H3 Kt else Kn H3)
    (hd : ∀ F' H' ys, Stp F H F' H' → F' D = some (.lst ys) → Paired (fun y i => R i F' y) ys ((List.range n).filter keep) → Qd H') :
    ∃ W : Nat → Nat → Hp → Prop, (∃ k, W 0 k (upd H D (.lst []))) ∧ ∀ i k H, W i k H →
      (J.stop i H ∧ Qd H) ∨ (J.go i H ∧ ∃ Nx : Hp → Prop, (∀ H', Nx H' → ∃ k', k' < k ∧ W (i + 1) k' H') ∧ ∀ x H', J.yld i H x H' → g x (wipe σ vs) H' fun σ2 H2 => wipe σ2 vs = wipe σ vs ∧ tt σ2 H2 fun b H3 =>
        if b = true then te σ2 H3 fun y H4 => ∃ acc, H4 D = some (.lst acc) ∧ acc.length < sizeLine ∧ Nx (upd H4 D (.lst (acc ++ [y]))) else Nx H3) := by
  have fD : F D = none := hf.free hD
  have step : ∀ i, (List.range (i + 1)).filter keep = (List.range i).filter keep ++ if keep i = true then [i] else [] := fun i => by
    rw [List.range_succ, List.filter_append]
    congr 1
    cases q : keep i <;> simp [q]
  refine lc_it w (fun i H' => ∃ F' acc, Stp F H F' H' ∧ F' D = none ∧ H' D = some (.lst acc) ∧ Paired (fun y i => R i F' y) acc ((List.range i).filter keep)) ?_ ?_ ?_ ?_
  · exact ⟨F, [], (Stm.refl hf).raw hD hD, fD, upd_same, .nil⟩
  · rintro i H' _ ⟨F', acc, s, _⟩
    exact hG F' H' s.ff s.fh
  · rintro i x H' H'' hi ⟨F', acc, s, f', h', pr⟩ y
    refine hs i x F' H' H'' _ _ hi s y (fun kp y F4 H4 s4 r4 => ?_) fun kp F4 H4 s4 => ?_
    · have f4 : F4 D = none := s4.nw D f' (by rw [h']; exact fun z => nomatch z)
      have h4 : H4 D = some (.lst acc) := s4.hh D _ (fun z => z) h'
      have al : acc.length ≤ i := by
        have e := Paired.length pr
        have := List.length_filter_le keep (List.range i)
        rw [List.length_range] at this
        omega
      refine ⟨acc, h4, by rw [sizeLine_eq]; omega, F4, acc ++ [y], (s.transP s4).mut f4 hD, f4, upd_same, ?_⟩
      rw [step i, if_pos kp]
      exact Paired.snoc (Paired.mapP pr fun a b z => hR _ _ _ _ s4.ff z) r4
    · refine ⟨F4, acc, s.transP s4, s4.nw D f' (by rw [h']; exact fun z => nomatch z), s4.hh D _ (fun z => z) h', ?_⟩
      rw [step i, if_neg (by rw [kp]; decide), List.append_nil]
      exact Paired.mapP pr fun a b z => hR _ _ _ _ s4.ff z
  · rintro H' ⟨F', acc, s, f', h', pr⟩
    exact hd (upd F' D (.lst acc)) H' acc (s.freeze f' hD h') upd_same (Paired.mapP pr fun a b z => hR _ _ _ _ (same_new f') z)
end
end Ew

set_option Elab.async false
set_option linter.all false
set_option maxRecDepth 100000
set_option maxHeartbeats 4000000
namespace K52
open PySem PySem.Spec PyProof.Rows L2 Ew
section
variable {P : Program} {w : World} {K : PySem.W.Frag} {mg : Str → Option Value} {base : Heap} {a : Ad}
theorem Sps.at_ {t : Bool} {H : Hp} {p : Addr} {ps : List Spot} (h : Sps K t H p ps) {i : Nat} (hi : i < ps.length) : ∃ us u s, Sq K t H p us ∧ us.length = ps.length ∧ ps[i]? = some s ∧ Spt K H u s ∧ atI us ((0 : Int) + (i : Nat)) = some u := by
  obtain ⟨us, h1, h2⟩ := h
  have hl := Paired.length h2
  obtain ⟨u, hu⟩ : ∃ u, us[i]? = some u := ⟨_, List.getElem?_eq_getElem (by omega)⟩
  obtain ⟨s, hs, hq⟩ := paired_get h2 hu
  refine ⟨us, u, s, h1, hl, hs, hq, atI_int (by omega) (by omega) ?_⟩
  have : ((0 : Int) + (i : Nat)).toNat = i := by omega
  rw [this, hu]
theorem Tb.at_ {t : Bool} {H : Hp} {p : Addr} {n : Nat} {f : Tb2} (h : Tb K t H (.ref p) n f) {i : Nat} (hi : i < n) : ∃ us q, Sq K t H p us ∧ us.length = n ∧ Sq K t H q (rowV n (f i)) ∧ atI us ((0 : Int) + (i : Nat)) = some (.ref q) := by
  obtain ⟨_, us, er, h1, hl, h2⟩ := h
  cases er
  obtain ⟨u, hu⟩ : ∃ u, us[i]? = some u := ⟨_, List.getElem?_eq_getElem (by omega)⟩
  obtain ⟨q, rfl, hq⟩ := h2 i u hu
  refine ⟨us, q, h1, hl, hq, atI_int (by omega) (by omega) ?_⟩
  have : ((0 : Int) + (i : Nat)).toNat = i := by omega
  rw [this, hu]
end
end K52

set_option Elab.async false
set_option linter.all false
set_option maxRecDepth 100000
set_option maxHeartbeats 4000000
namespace K52
open PySem PySem.Spec PyProof.Rows L2 Ew
section
variable {P : Program} {w : World} {K : PySem.W.Frag} {mg : Str → Option Value} {base : Heap} {a : Ad}
theorem any_sp (ss : List Spot) (s : Spot) : ((ss.map spD).any fun z => PyData.eqv z (spD s)) = decide (s ∈ ss) := by
  induction ss with
  | nil => simp
  | cons m ls ih =>
    rw [List.map_cons, List.any_cons, ih, eqv_sp]
    by_cases h : m = s <;> by_cases h2 : s ∈ ls <;> simp [h, h2]
    exact fun z => h z.symm
theorem dps {R : V → Spot → Prop} {H : Hp} {ys : List V} {ls : List Spot} (h : Paired R ys ls) (k : ∀ v l, R v l → Dp K H v (spD l)) : DpAll K H ys (ls.map spD) := by
  induction h with
  | nil => exact .nil
  | cons h _ ih => exact .cons (k _ _ h) ih
end
end K52

set_option Elab.async false
set_option linter.all false
set_option maxRecDepth 100000
set_option maxHeartbeats 4000000
namespace K52
open PySem PySem.Spec PyProof.Rows L2 Ew
section
variable {K : PySem.W.Frag} {b p : Addr} {F H F' H' : Hp} {o : HO}
theorem rawB (s : Sb b F H F' H') (B : Bag K b F' H') (hp : H' p = none) : Sb b F H F' (upd H' p o) ∧ Bag K b F' (upd H' p o) := by
  have nb : ¬ p = b := fun z => (memB K b).there B z hp
  exact ⟨s.raw hp (s.fresh (fun x z => (memB K b).there B z) hp), (memB K b).put B nb⟩
theorem mutB (s : Sb b F H F' H') (B : Bag K b F' H') (hf : F' p = none) (h0 : H p = none) (nb : p ≠ b) : Sb b F H F' (upd H' p o) ∧ Bag K b F' (upd H' p o) := ⟨s.mut hf h0, (memB K b).put B nb⟩
theorem freezeB (s : Sb b F H F' H') (B : Bag K b F' H') (hf : F' p = none) (h0 : H p = none) (nb : p ≠ b) (e : H' p = some o) : Sb b F H (upd F' p o) H' ∧ Bag K b (upd F' p o) H' := by
  refine ⟨s.freeze hf h0 e, (memB K b).grow B (same_new hf) fun x z => ?_⟩
  rw [upd_ne (fun q => nb (by rw [← q]; exact z))]
  exact (memB K b).off B z
end
theorem gn {i : Nat} {x : V} {σ : L2.St} {H : Hp} {R : L2.St → Hp → Prop} (h : R (σ.set i (some x)) H) : gName i x σ H R := h
section
variable {P : Program} {w : World} {K : PySem.W.Frag} {mg : Str → Option Value} {base : Heap} {a : Ad}
def sp__law_one_in (K : PySem.W.Frag) : Sp := fun vs H Q _ => ∃ (F : Hp) (b : Addr) (many : Int), vs = [.ref b, .int many] ∧ Bag K b F H ∧ Same F H ∧ 0 < many ∧ Sz 8000 many ∧
  ∀ H' (c : Bool), Sb b F H F H' → Bag K b F H' → Q (.bl c) H'
theorem c__law_one_in (T : Txt K mg a) : Cl P w K mg base 2 "_law_one_in" P__law_one_in (sp__law_one_in K) [] :=
  T.d__law_one_in.cl sc__law_one_in (fun vs H Q E h => by obtain ⟨F, b, u, rfl, _⟩ := h; rfl) fun f cdv A outer s H vs Q E hr h => by
    obtain ⟨F, b, many, rfl, hB, hf, h0, hz, k⟩ := h
    refine ⟨_, ((pss_one (ps_ret (pe_cmpR op_eq (pe_f (c__law_pick T) (takes_of rfl rfl rfl rfl) hr (by decide) rfl (pa_cons (pv 0) (pa_cons (pv 1) pa_nil))) pe_int (nomark _))))), ?_⟩
    exact ⟨_, rfl, _, rfl, F, b, _, rfl, hB, hf, h0, hz, fun H' i s1 B1 h1 h2 => ⟨rfl, k H' _ s1 B1⟩⟩

end
theorem int_item {ns : List Int} {i : Nat} {x : V} (h : (ns.map V.int)[i]? = some x) : ∃ d, ns[i]? = some d ∧ x = V.int d := by
  rw [List.getElem?_map, Option.map_eq_some_iff] at h
  obtain ⟨d, h1, h2⟩ := h
  exact ⟨d, h1, h2.symm⟩
section
variable {P : Program} {w : World} {K : PySem.W.Frag} {mg : Str → Option Value} {base : Heap} {a : Ad}
def sp__law_bag_of (K : PySem.W.Frag) : Sp := fun vs H Q _ => ∃ (F : Hp) (p : Addr) (ns : List Int), vs = [.ref p] ∧ SqL K F p (ns.map V.int) ∧ ns.length ≤ 1000 ∧ Same F H ∧ ∀ F' H' b, Stp F H F' H' → Bag K b F' H' → Q (.ref b) H'
theorem c__law_bag_of (T : Txt K mg a) : Cl P w K mg base 1 "_law_bag_of" P__law_bag_of (sp__law_bag_of K) [] :=
  T.d__law_bag_of.cl sc__law_bag_of (fun vs H Q E h => by obtain ⟨F, p, ns, rfl, _⟩ := h; rfl) fun f cdv A outer s H vs Q E hr h => by
    obtain ⟨F, p, ns, rfl, hp, hn, hf, k⟩ := h
    refine ⟨_, ((pss_cons (ps_set (i := 1) sc__law_bag_of.nd rfl (Or.inl rfl) pe_int)
 (pss_cons (ps_for (passes_of rfl) rfl (pi_list (pv 0)) (pg_name (i := 2) sc__law_bag_of.nd rfl (Or.inl rfl))
 (pss_one (ps_set (i := 1) sc__law_bag_of.nd rfl (Or.inl rfl) (pe_op op_mod (pe_callTy call_int1 (by rfl) T.n_int (by decide +kernel) (pa_cons (pe_op op_add (pe_op op_add (pe_op op_mul (pv 1) pe_int) (pv 2)) pe_int) pa_nil)) pe_int))))
 (pss_one (ps_ret (pe_disp (pps_cons pe_str (pe_lc (own := [("_law_cell", 2)]) (g := (gName 2)) (by rfl) sc__law_bag_of.nd (pi_list (pv 0)) (blkOk_by (own := [("_law_cell", 2)]) (N := N__law_bag_of) (sc := defScope s__law_bag_of) (by decide +kernel)) (fun _ _ _ _ _ => (pg_name (i := 2) sc__law_bag_of.nd rfl (Or.inl rfl) (hf := .inr rfl))) (fun _ _ _ _ _ => pts_nil) (fun _ _ _ _ _ => (pv 2))) (pps_cons pe_str pe_int (pps_cons pe_str pe_int (pps_cons pe_str (pv 1) (pps_cons pe_str pe_int pps_nil))))) (by rfl) (by rfl) (fun z => by cases z) (by decide))))))), ?_⟩
    refine ⟨_, rfl, p, rfl, ⟨_, upL hf hp⟩, ?_⟩
    refine for_list (fun i σ' H' => H = H' ∧ ∃ (m : Int) (c : Option V), σ' = [some (.ref p), some (.int m), c]) ⟨rfl, 7, none, rfl⟩ (fun i σ' H' _ q => by rw [← q.1]; exact upL hf hp) ?_ ?_
    · rintro i x _ _ hx ⟨rfl, m, c, rfl⟩
      obtain ⟨d, hd, rfl⟩ := int_item hx
      refine ⟨_, rfl, _, _, rfl, rfl, .inr ⟨by decide, by decide⟩, _, rfl, _, _, rfl, rfl, _, _, rfl, rfl, .inl ⟨_, rfl, _, _, rfl, rfl, (by decide : (0 : Int) < 1000003), ?_⟩⟩
      exact ⟨rfl, _, _, rfl⟩
    · rintro _ _ ⟨rfl, m, c, rfl⟩
      intro b hb
      have s0 : Stp F H F (upd H b (.dK [])) := (Stm.refl hf).raw hb hb
      refine ⟨_, rfl, p, rfl, ⟨_, upL s0.fh hp⟩, fun D hD => ?_⟩
      refine lcM memP walk_list s0.fh trivial hD (fun i _ y => ∃ d, ns[i]? = some d ∧ y = V.int d) (fun _ _ _ _ _ z => z) (by rw [List.length_map]; omega) (fun F' H' e1 e2 => upL e2 (upL e1 hp)) ?_ ?_
      · rintro i x F' H1 H'' Kt Kn hi s1 _ ⟨rfl, hx⟩ kk
        obtain ⟨d, hd, rfl⟩ := int_item hx
        exact ⟨rfl, lc_yes ⟨_, rfl, kk _ _ _ (.refl s1.fh) trivial ⟨d, hd, rfl⟩⟩⟩
      · intro F' H1 ys s1 _ hD' hy hr'
        rw [List.length_map] at hy
        obtain rfl := map_of hy hr'
        have fb : F' b = none := s1.nw b (hf.free hb) (by rw [upd_same]; exact fun z => nomatch z)
        refine ⟨_, rfl, s1.same b _ upd_same, bk D 0 0 m 0, rfl, (by show 5 ≤ 15; decide), ?_⟩
        refine k F' _ b ((s0.transP s1).mut fb hb) ⟨fb, D, ns, 0, 0, m, 0, by decide, hn, SqL.of hD', ?_⟩
        rw [upd_same]
        rfl
end
end K52

set_option Elab.async false
set_option linter.all false
set_option maxRecDepth 100000
set_option maxHeartbeats 4000000
namespace K52
open PySem PySem.Spec PyProof.Rows L2 Ew
open SX (S)

theorem g_S : ground.1 = S gL := by decide +kernel
section
variable {P : Program} {w : World} {K : PySem.W.Frag} {mg : Str → Option Value} {base : Heap} {a : Ad}
def sp__law_ground : Sp := fun vs H Q _ => vs = [] ∧ ∀ p, H p = none → Q (.ref p) (upd H p (.tup (spV ground)))
theorem c__law_ground (T : Txt K mg a) : Cl P w K mg base 1 "_law_ground" P__law_ground sp__law_ground [] :=
  T.d__law_ground.cl sc__law_ground (fun vs H Q E h => by obtain ⟨rfl, _⟩ := h; rfl) fun f cdv A outer s H vs Q E hr h => by
    obtain ⟨rfl, k⟩ := h
    exact ⟨_, ((pss_one (ps_ret (pe_tup (pa_cons pe_str (pa_cons pe_int (pa_cons pe_int pa_nil))))))), by show 3 ≤ sizeLine; decide, fun p hp => k p hp⟩
/-- a plain list of spots at l -/
def Spl (K : PySem.W.Frag) (H : Hp) (l : Addr) (ps : List Spot) : Prop := ∃ us, H l = some (.lst us) ∧ Paired (fun v q => Spt K H v q) us ps
theorem Spl.up {H H' : Hp} {l : Addr} {ps : List Spot} (h : Spl K H l ps) (e : Same H H') : Spl K H' l ps := by
  obtain ⟨us, h1, h2⟩ := h
  exact ⟨us, e _ _ h1, Paired.mapP h2 fun _ _ z => z.up e⟩
theorem Spl.sps {H : Hp} {l : Addr} {ps : List Spot} (h : Spl K H l ps) : Sps K false H l ps := by
  obtain ⟨us, h1, h2⟩ := h
  exact ⟨us, SqL.of h1, h2⟩
/-- a spot that can be written -/
structure SpW (p : Spot) : Prop where
  nm : ∃ n, p.1 = S n ∧ (n = gL ∨ Nm n)
  st : p.2.1.natAbs < 10 ^ 30
  dy : p.2.2.natAbs < 10 ^ 30
theorem SpW.ok {p : Spot} (h : SpW p) : PyData.strOk p.1 = true := by
  obtain ⟨n, e, q⟩ := h.nm
  rw [e]
  refine strOk_S fun c hc => ?_
  rcases q with rfl | q
  · have : ∀ c ∈ gL, c < 1114112 := by decide
    exact this c hc
  · have := q.lt c hc
    omega
def sp__law_some_spots (K : PySem.W.Frag) : Sp := fun vs H Q _ => ∃ (F : Hp) (b : Addr) (many : Int), vs = [.ref b, .int many] ∧ Bag K b F H ∧ Same F H ∧ 0 ≤ many ∧ many ≤ 20 ∧
  ∀ F' H' l ps, Sb b F H F' H' → Bag K b F' H' → Spl K F' l ps → OkS ps → ps.length ≤ 21 → (∀ p ∈ ps, SpW p) → Q (.ref l) H'
theorem c__law_some_spots (T : Txt K mg a) : Cl P w K mg base 4 "_law_some_spots" P__law_some_spots (sp__law_some_spots K) [] :=
  T.d__law_some_spots.cl sc__law_some_spots (fun vs H Q E h => by obtain ⟨F, b, m, rfl, _⟩ := h; rfl) fun f cdv A outer s H vs Q E hr h => by
    obtain ⟨F, b, many, rfl, hB, hf, m0, m1, k⟩ := h
    refine ⟨_, ((pss_cons (ps_set (i := 2) sc__law_some_spots.nd rfl (Or.inl rfl) (pe_f (c__law_names_of T) (takes_of rfl rfl rfl rfl) hr (by decide) rfl (pa_cons (pv 0) (pa_cons pe_int pa_nil))))
 (pss_cons (ps_set (i := 3) sc__law_some_spots.nd rfl (Or.inl rfl) (pe_lst (pa_cons (pe_f0 (c__law_ground T) hr (by decide) rfl) pa_nil)))
 (pss_cons (ps_for (passes_of rfl) rfl (pi_range1 (by rfl) T.n_range (pa_cons (pv 1) pa_nil)) (pg_name (i := 4) sc__law_some_spots.nd rfl (Or.inl rfl))
 (pss_cons (ps_set (i := 5) sc__law_some_spots.nd rfl (Or.inl rfl) (pe_f (c__law_choice T) (takes_of rfl rfl rfl rfl) hr (by decide) rfl (pa_cons (pv 0) (pa_cons (pe_op op_cat (pe_op op_cat (pv 2) (pv 2)) (pe_lst (pa_cons pe_str pa_nil))) pa_nil))))
 (pss_cons (ps_set (i := 6) sc__law_some_spots.nd rfl (Or.inl rfl) (pe_tup (pa_cons (pv 5) (pa_cons (pe_op op_sub (pe_f (c__law_pick T) (takes_of rfl rfl rfl rfl) hr (by decide) rfl (pa_cons (pv 0) (pa_cons pe_int pa_nil))) pe_int) (pa_cons (pe_f (c__law_pick T) (takes_of rfl rfl rfl rfl) hr (by decide) rfl (pa_cons (pv 0) (pa_cons pe_int pa_nil))) pa_nil)))))
 (pss_cons (ps_if (pt_val (pe_f (c__law_one_in T) (takes_of rfl rfl rfl rfl) hr (by decide) rfl (pa_cons (pv 0) (pa_cons pe_int pa_nil))))
 (pss_one (ps_set (i := 6) sc__law_some_spots.nd rfl (Or.inl rfl) (pe_tup (pa_cons (pv 5) (pa_cons (pe_op op_add (pe_op op_pow pe_int pe_int) (pe_f (c__law_pick T) (takes_of rfl rfl rfl rfl) hr (by decide) rfl (pa_cons (pv 0) (pa_cons pe_int pa_nil)))) (pa_cons (pe_op op_sub pe_int (pe_op op_pow pe_int pe_int)) pa_nil))))))
 pss_nil)
 (pss_one (ps_if (pt_cmpR (op_notInD (units5 hr)) (pv 6) (pv 3) (by rfl))
 (pss_one (ps_expr (pe_bm PySem.F.plainAttrs_list PySem.F.slot_list_append PySem.F.type_list_append mt_append (pv 3) (pa_cons (pv 6) pa_nil))))
 pss_nil))))))
 (pss_one (ps_ret (pv 3))))))), ?_⟩
    refine ⟨_, rfl, F, b, 3, rfl, hB, hf, by decide, by decide, fun F1 H1 pn ns s1 B1 hpn nl nams => ?_⟩
    obtain ⟨n0, n1, n2, rfl⟩ : ∃ n0 n1 n2, ns = [n0, n1, n2] := by
      match ns, nl with
      | [n0, n1, n2], _ => exact ⟨n0, n1, n2, rfl⟩
    refine gn ?_
    refine ⟨rfl, fun t ht => ⟨by show 1 ≤ sizeLine; decide, fun l hl => ?_⟩⟩
    obtain ⟨s2, B2⟩ := newB (o := .tup (spV ground)) s1 B1 ht
    have sg : Spt K (upd F1 t (.tup (spV ground))) (.ref t) ground := ⟨t, rfl, upd_same⟩
    have hpn2 : (upd F1 t (.tup (spV ground))) pn = some (.lst (tsL [n0, n1, n2])) := same_new (s1.fh.free ht) _ _ hpn
    have nlb : l ≠ b := fun z => (memB K b).there B2 z hl
    have h0l : H l = none := s2.fresh (fun x z => (memB K b).there B2 z) hl
    have f2l := s2.fh.free hl
    obtain ⟨s3, B3⟩ := rawB (o := .lst [.ref t]) s2 B2 hl
    refine ⟨_, rfl, many, rfl, by omega, by omega, ?_⟩
    have g0 : SpW ground := ⟨⟨gL, g_S, .inl rfl⟩, by decide, by decide⟩
    refine for_it walk_range (fun j σ' H' => ∃ F' xs ps c4 c5 c6, σ' = [some (.ref b), some (.int many), some (.ref pn), some (.ref l), c4, c5, c6] ∧ Sb b F H F' H' ∧ Bag K b F' H' ∧ Same (upd F1 t (.tup (spV ground))) F' ∧ F' l = none ∧ H' l = some (.lst xs) ∧ Paired (fun v p => Spt K F' v p) xs ps ∧ ps.Nodup ∧ ps[0]? = some ground ∧ ps.length ≤ j + 1 ∧ ∀ p ∈ ps, SpW p) ?_ (fun _ _ _ _ _ => trivial) ?_ ?_
    · exact ⟨_, [.ref t], [ground], none, none, none, rfl, s3, B3, .refl _, f2l, upd_same, .cons sg .nil, by simp, rfl, Nat.le_refl _, fun p hp => by rw [List.mem_singleton.mp hp]; exact g0⟩
    · rintro j _ _ _ H3 hj ⟨F3, xs, ps, c4, c5, c6, rfl, t3, C3, e3, f3, h3, pr, nd, hd, pl, al⟩ ⟨rfl, rfl⟩
      have hpn3 := e3 _ _ hpn2
      have hp3 := t3.fh _ _ hpn3
      refine gn ?_
      try dsimp only
      refine ⟨_, rfl, _, rfl, _, rfl, pn, pn, _, _, rfl, rfl, hp3, hp3, by show 3 + 3 ≤ sizeLine; decide, fun q1 hq1 => ⟨by show 1 ≤ sizeLine; decide, fun q2 hq2 => ?_⟩⟩
      obtain ⟨t4, B4⟩ := newB (o := .lst (tsL [n0, n1, n2] ++ tsL [n0, n1, n2])) t3 C3 hq1
      obtain ⟨t5, B5⟩ := newB (o := .lst [.str "ground"]) t4 B4 hq2
      have g4 := same_new (o := .lst (tsL [n0, n1, n2] ++ tsL [n0, n1, n2])) (t3.fh.free hq1)
      have g5 := same_new (o := .lst [.str "ground"]) (t4.fh.free hq2)
      have at1 : (upd (upd F3 q1 (.lst (tsL [n0, n1, n2] ++ tsL [n0, n1, n2]))) q2 (.lst [.str "ground"])) q1 = some (.lst (tsL [n0, n1, n2] ++ tsL [n0, n1, n2])) := g5 _ _ upd_same
      refine ⟨q1, q2, _, _, rfl, rfl, t5.fh _ _ at1, upd_same, by show 6 + 1 ≤ sizeLine; decide, fun q3 hq3 => ?_⟩
      obtain ⟨t6, B6⟩ := newB (o := .lst ((tsL [n0, n1, n2] ++ tsL [n0, n1, n2]) ++ [.str "ground"])) t5 B5 hq3
      have g6 := same_new (o := .lst ((tsL [n0, n1, n2] ++ tsL [n0, n1, n2]) ++ [.str "ground"])) (t5.fh.free hq3)
      have e6 := e3.trans (g4.trans (g5.trans g6))
      have pr6 := Paired.mapP pr fun v p z => z.up (g4.trans (g5.trans g6))
      have h3' : H3 l ≠ none := by rw [h3]; exact fun z => nomatch z
      have l1 : l ≠ q1 := fun z => h3' (z ▸ hq1)
      have h4 : (upd H3 q1 (.lst (tsL [n0, n1, n2] ++ tsL [n0, n1, n2]))) l = some (.lst xs) := by rw [upd_ne l1]; exact h3
      have l2 : l ≠ q2 := fun z => by rw [← z, h4] at hq2; cases hq2
      have h5 : (upd (upd H3 q1 (.lst (tsL [n0, n1, n2] ++ tsL [n0, n1, n2]))) q2 (.lst [.str "ground"])) l = some (.lst xs) := by rw [upd_ne l2]; exact h4
      have l3 : l ≠ q3 := fun z => by rw [← z, h5] at hq3; cases hq3
      have h6 : (upd (upd (upd H3 q1 (.lst (tsL [n0, n1, n2] ++ tsL [n0, n1, n2]))) q2 (.lst [.str "ground"])) q3 (.lst ((tsL [n0, n1, n2] ++ tsL [n0, n1, n2]) ++ [.str "ground"]))) l = some (.lst xs) := by rw [upd_ne l3]; exact h5
      have f6 : (upd (upd (upd F3 q1 (.lst (tsL [n0, n1, n2] ++ tsL [n0, n1, n2]))) q2 (.lst [.str "ground"])) q3 (.lst ((tsL [n0, n1, n2] ++ tsL [n0, n1, n2]) ++ [.str "ground"]))) l = none := by rw [upd_ne l3, upd_ne l2, upd_ne l1]; exact f3
      have q36 : (upd (upd (upd F3 q1 (.lst (tsL [n0, n1, n2] ++ tsL [n0, n1, n2]))) q2 (.lst [.str "ground"])) q3 (.lst ((tsL [n0, n1, n2] ++ tsL [n0, n1, n2]) ++ [.str "ground"]))) q3 = some (.lst ((tsL [n0, n1, n2] ++ tsL [n0, n1, n2]) ++ [.str "ground"])) := upd_same
      generalize upd (upd (upd F3 q1 (.lst (tsL [n0, n1, n2] ++ tsL [n0, n1, n2]))) q2 (.lst [.str "ground"])) q3 (.lst ((tsL [n0, n1, n2] ++ tsL [n0, n1, n2]) ++ [.str "ground"])) = F6 at t6 B6 e6 pr6 f6 q36
      generalize upd (upd (upd H3 q1 (.lst (tsL [n0, n1, n2] ++ tsL [n0, n1, n2]))) q2 (.lst [.str "ground"])) q3 (.lst ((tsL [n0, n1, n2] ++ tsL [n0, n1, n2]) ++ [.str "ground"])) = H6 at t6 B6 h6
      clear t4 t5 B4 B5 g4 g5 g6 at1 h4 h5 hq1 hq2 hq3
      refine ⟨F6, b, _, _, rfl, .inl ⟨q3, rfl, SqL.of q36⟩, by simp, by show 7 ≤ 1000; decide, B6, t6.fh, fun H7 x i s7 B7 hx => ?_⟩
      obtain ⟨n, rfl, hn⟩ : ∃ n, x = .str (S n) ∧ (n = gL ∨ Nm n) := by
        have hm := List.mem_of_getElem? hx
        rcases List.mem_append.mp hm with hm | hm
        · have : x ∈ tsL [n0, n1, n2] := by rcases List.mem_append.mp hm with hm | hm <;> exact hm
          obtain ⟨n, h1, rfl⟩ := List.mem_map.mp this
          exact ⟨n, rfl, .inr (nams.2 n h1)⟩
        · rw [List.mem_singleton.mp hm]
          exact ⟨gL, by rw [eG], .inl rfl⟩
      refine gn ?_
      try dsimp only
      have t7 := seqB t6 B6 s7
      have h7 : H7 l = some (.lst xs) := s7.hh l _ nlb h6
      refine ⟨_, rfl, _, rfl, F6, b, 4, rfl, B7, t7.fh, by decide, sz_of 3 (by decide) (by decide), fun H8 d1 s8 B8 d10 d11 => ?_⟩
      refine ⟨_, _, rfl, rfl, _, rfl, F6, b, 6, rfl, B8, s8.fh, by decide, sz_of 3 (by decide) (by decide), fun H9 d2 s9 B9 d20 d21 => ?_⟩
      refine ⟨by show 3 ≤ sizeLine; decide, fun u hu => ?_⟩
      have t9 := seqB (seqB t7 B7 s8) B8 s9
      have h9 : H9 l = some (.lst xs) := s9.hh l _ nlb (s8.hh l _ nlb h7)
      obtain ⟨t10, B10⟩ := newB (o := .tup (spV (S n, d1 - 1, d2))) t9 B9 hu
      have g10 := same_new (o := .tup (spV (S n, d1 - 1, d2))) (t9.fh.free hu)
      refine gn ?_
      try dsimp only
      refine seq_with (fun σ' H' => ∃ F' u2 s2, σ' = [some (.ref b), some (.int many), some (.ref pn), some (.ref l), some (.int (0 + (j : Nat))), some (.str (S n)), some (.ref u2)] ∧ Sb b F H F' H' ∧ Bag K b F' H' ∧ Same F6 F' ∧ F' l = none ∧ H' l = some (.lst xs) ∧ Spt K F' (.ref u2) s2 ∧ SpW s2) (fun w hw => ?_) ?_
      · refine ⟨_, rfl, _, b, 12, rfl, B10, t10.fh, by decide, sz_of 4 (by decide) (by decide), fun H11 c s11 B11 => ⟨c, rfl, ?_⟩⟩
        have t11 := seqB t10 B10 s11
        have f10 : (upd F6 u (.tup (spV (S n, d1 - 1, d2)))) l = none := by rw [upd_ne (fun z => by rw [← z, h9] at hu; cases hu)]; exact f6
        have h10 : (upd H9 u (.tup (spV (S n, d1 - 1, d2)))) l = some (.lst xs) := by rw [upd_ne (fun z => by rw [← z, h9] at hu; cases hu)]; exact h9
        have h11 := s11.hh l _ nlb h10
        cases c with
        | false =>
          refine iteF (hw _ _ ⟨_, u, (S n, d1 - 1, d2), rfl, t11, B11, g10, f10, h11, ⟨u, rfl, upd_same⟩, ⟨n, rfl, hn⟩, ?_, ?_⟩)
          · show (d1 - 1).natAbs < 10 ^ 30
            omega
          · show d2.natAbs < 10 ^ 30
            omega
        | true =>
          refine iteT ?_
          refine ⟨_, rfl, _, _, rfl, rfl, ⟨by decide, by decide, by decide⟩, _, rfl, _, b, 3, rfl, B11, s11.fh, by decide, sz_of 2 (by decide) (by decide), fun H12 i3 s12 B12 i30 i31 => ?_⟩
          have t12 := seqB t11 B11 s12
          have h12 := s12.hh l _ nlb h11
          refine ⟨_, _, rfl, rfl, _, _, rfl, rfl, ⟨by decide, by decide, by decide⟩, _, _, rfl, rfl, by show 3 ≤ sizeLine; decide, fun v hv => ?_⟩
          have es : ([.str (S n), .int (10 ^ 29 + i3), .int (1 - 10 ^ 30)] : List V) = spV (S n, 10 ^ 29 + i3, 1 - 10 ^ 30) := rfl
          obtain ⟨t13, B13⟩ := newB (o := .tup (spV (S n, 10 ^ 29 + i3, 1 - 10 ^ 30))) t12 B12 hv
          have nv : l ≠ v := fun z => by rw [← z, h12] at hv; cases hv
          refine hw _ _ ⟨_, v, (S n, 10 ^ 29 + i3, 1 - 10 ^ 30), rfl, t13, B13, g10.trans (same_new (t12.fh.free hv)), ?_, ?_, ⟨v, rfl, upd_same⟩, ⟨n, rfl, hn⟩, ?_, ?_⟩
          · rw [upd_ne nv]; exact f10
          · show (upd H12 v _) l = _
            rw [upd_ne nv]; exact h12
          · show (10 ^ 29 + i3).natAbs < 10 ^ 30
            omega
          · show (1 - 10 ^ 30 : Int).natAbs < 10 ^ 30
            decide
      rintro _ H12 ⟨F12, u2, s2, rfl, t12, B12, e12, f12, h12, sp12, ok12⟩
      have pr12 := Paired.mapP pr6 fun v p z => z.up e12
      have fz : Fl 2 (.list (ps.map spD)) := Fl.lst (FlA.all fun d hd => by
        obtain ⟨x, hx, rfl⟩ := List.mem_map.mp hd
        exact fl_sp (al x hx).ok)
      refine ⟨_, rfl, _, rfl, spD s2, ps.map spD, (sp12.up t12.fh).dp, .lst (SqL.of h12) (dps pr12 fun v l y => (y.up t12.fh).dp), (fl_sp ok12.ok).sh (by decide), fz.sh (by decide), _, rfl, ?_⟩
      rw [any_sp]
      by_cases q : s2 ∈ ps
      · rw [decide_eq_true q]
        exact iteF ⟨F12, xs, ps, _, _, _, rfl, t12, B12, e6.trans e12, f12, h12, pr12, nd, hd, by omega, al⟩
      · rw [decide_eq_false q]
        refine iteT ⟨_, rfl, .inl ⟨rfl, _, SqL.of h12⟩, _, rfl, l, _, _, rfl, rfl, h12, ?_, ?_⟩
        · have := Paired.length pr
          rw [sizeLine_eq]
          omega
        · obtain ⟨t13, B13⟩ := mutB (o := .lst (xs ++ [.ref u2])) t12 B12 f12 h0l nlb
          refine ⟨F12, xs ++ [.ref u2], ps ++ [s2], _, _, _, rfl, t13, B13, e6.trans e12, f12, upd_same, Paired.snoc pr12 sp12, ?_, ?_, by rw [List.length_append, List.length_singleton]; omega, ?_⟩
          · rw [List.nodup_append]
            refine ⟨nd, by simp, fun x hx y hy => ?_⟩
            rw [List.mem_singleton] at hy
            subst hy
            exact fun z => q (z ▸ hx)
          · rw [List.getElem?_append_left (List.getElem?_eq_some_iff.mp hd).1]
            exact hd
          · intro p hp
            rcases List.mem_append.mp hp with hp | hp
            · exact al p hp
            · rw [List.mem_singleton.mp hp]
              exact ok12
    · rintro _ H3 ⟨F3, xs, ps, c4, c5, c6, rfl, t3, C3, e3, f3, h3, pr, nd, hd, pl, al⟩
      obtain ⟨t4, B4⟩ := freezeB t3 C3 f3 h0l nlb h3
      refine ⟨_, rfl, k _ _ l ps t4 B4 ⟨xs, upd_same, Paired.mapP pr fun v p z => z.up (same_new (o := .lst xs) f3)⟩ ⟨nd, hd, fun p hp => (al p hp).ok, by omega⟩ (by omega) al⟩
end
end K52

set_option Elab.async false
set_option linter.all false
set_option maxRecDepth 100000
set_option maxHeartbeats 4000000
namespace K52
open PySem PySem.Spec PyProof.Rows L2 Ew
theorem Raw.fz {K : PySem.W.Frag} {F H H' : Hp} {p : Addr} {qs : List Addr} {n : Nat} {f : Tb2} (h : Raw H H' p qs n f) : Tb K false (fz F H H') (.ref p) n f :=
  ⟨p, _, rfl, SqL.of ((fz_new h.p0).trans h.at_), by rw [List.length_map, h.len], fun i u hu => by
    rw [List.getElem?_map] at hu
    obtain ⟨q, h1, rfl⟩ := Option.map_eq_some_iff.mp hu
    exact ⟨q, rfl, SqL.of ((fz_new (h.q0 q (List.mem_of_getElem? h1))).trans (h.row i q h1))⟩⟩
section
variable {P : Program} {w : World} {K : PySem.W.Frag} {mg : Str → Option Value} {base : Heap} {a : Ad}
theorem ints_of {P : Nat → Int → Prop} : ∀ {ys : List V}, (∀ (j : Nat) y, ys[j]? = some y → ∃ v : Int, y = V.int v ∧ P j v) → ∃ ws : List Int, ys = ws.map V.int ∧ ∀ (j : Nat) v, ws[j]? = some v → P j v := by
  intro ys
  induction ys generalizing P with
  | nil => exact fun _ => ⟨[], rfl, fun j q z => by simp at z⟩
  | cons y ys ih =>
    intro h
    obtain ⟨q, rfl, hq⟩ := h 0 y rfl
    obtain ⟨qs, rfl, hqs⟩ := ih (P := fun j q => P (j + 1) q) fun j y z => h (j + 1) y z
    exact ⟨q :: qs, rfl, fun j r z => by
      cases j with
      | zero => cases z; exact hq
      | succ j => exact hqs j r z⟩
theorem int_at {W : List Int} {j : Nat} (h : j < W.length) : atI (W.map V.int) ((0 : Int) + (j : Nat)) = some (.int (W.getD j 0)) := by
  refine atI_int (by omega) (by rw [List.length_map]; omega) ?_
  have : ((0 : Int) + (j : Nat)).toNat = j := by omega
  rw [this, List.getElem?_map, List.getElem?_eq_getElem h, List.getD_eq_getElem?_getD, List.getElem?_eq_getElem h]
  rfl
/-- what is true of a drawn row -/
structure RowOk (n : Nat) (sc : Int) (vl : Nat → Int) (i : Nat) (ws : List Int) : Prop where
  len : ws.length = n
  z : ws.getD i 0 = 0
  lo : ∀ j, j < n → sc * (vl j - vl i) ≤ ws.getD j 0
  hi : ∀ j, j < n → ws.getD j 0 ≤ sc * 100
def sp__law_drawn_rows (K : PySem.W.Frag) : Sp := fun vs H Q _ => ∃ (F : Hp) (b : Addr) (n : Nat), vs = [.ref b, .int (n : Nat)] ∧ Bag K b F H ∧ Same F H ∧ 1 ≤ n ∧ n ≤ 21 ∧
  ∀ F' H' v f, Sb b F H F' H' → Bag K b F' H' → Tb K false F' v n f → Cld n f → (∀ a b, a < n → b < n → f a b ≤ 10 ^ 25 * 100 ∧ -(10 ^ 25 * 100) ≤ f a b) → Q v H'
theorem c__law_drawn_rows (T : Txt K mg a) : Cl P w K mg base 3 "_law_drawn_rows" P__law_drawn_rows (sp__law_drawn_rows K) [] :=
  T.d__law_drawn_rows.cl sc__law_drawn_rows (fun vs H Q E h => by obtain ⟨F, b, m, rfl, _⟩ := h; rfl) fun f cdv A outer s H vs Q E hr h => by
    obtain ⟨F, b, n, rfl, hB, hf, n1, n21, k⟩ := h
    refine ⟨_, ((pss_cons (ps_set (i := 2) sc__law_drawn_rows.nd rfl (Or.inr rfl) (pe_f (c__law_choice T) (takes_of rfl rfl rfl rfl) hr (by decide) rfl (pa_cons (pv 0) (pa_cons (pe_lst (pa_cons pe_int (pa_cons pe_int (pa_cons pe_int (pa_cons pe_int (pa_cons pe_int (pa_cons (pe_op op_pow pe_int pe_int) pa_nil))))))) pa_nil))))
 (pss_cons (ps_set (i := 3) sc__law_drawn_rows.nd rfl (Or.inr rfl) (pe_f (c__law_choice T) (takes_of rfl rfl rfl rfl) hr (by decide) rfl (pa_cons (pv 0) (pa_cons (pe_lst (pa_cons pe_int (pa_cons pe_int (pa_cons pe_int (pa_cons pe_int (pa_cons pe_int pa_nil)))))) pa_nil))))
 (pss_cons (ps_set (i := 4) sc__law_drawn_rows.nd rfl (Or.inr rfl) (pe_op op_cat (pe_lst (pa_cons pe_int pa_nil)) (pe_lc (own := [("_law_k", 8)]) (g := (gName 8)) (by rfl) sc__law_drawn_rows.nd (pi_range1 (by rfl) T.n_range (pa_cons (pe_op op_sub (pv 1) pe_int) pa_nil)) (blkOk_by (own := [("_law_k", 8)]) (N := N__law_drawn_rows) (sc := defScope s__law_drawn_rows) (by decide +kernel)) (fun _ _ _ _ _ => (pg_name (i := 8) sc__law_drawn_rows.nd rfl (Or.inl rfl) (hf := .inr rfl))) (fun _ _ _ _ _ => pts_nil) (fun _ _ _ _ _ => (pe_op op_sub (pe_f (c__law_pick T) takes0 hr (by decide) rfl (pa_cons (pv 0) (pa_cons pe_int pa_nil))) pe_int)))))
 (pss_cons (ps_set (i := 5) sc__law_drawn_rows.nd rfl (Or.inl rfl) (pe_lst pa_nil))
 (pss_cons (ps_for (passes_of rfl) rfl (pi_range1 (by rfl) T.n_range (pa_cons (pv 1) pa_nil)) (pg_name (i := 6) sc__law_drawn_rows.nd rfl (Or.inr rfl))
 (pss_cons (ps_setLc (i := 7) (own := [("_law_b", 9)]) (g := (gName 9)) (by rfl) sc__law_drawn_rows.nd rfl rfl (sw_true rfl rfl rfl (by decide +kernel)) (pi_range1 (by rfl) T.n_range (pa_cons (pv 1) pa_nil)) (blkOk_by (own := [("_law_b", 9)]) (N := N__law_drawn_rows) (sc := defScope s__law_drawn_rows) (by decide +kernel)) (fun _ _ _ _ _ => (pg_name (i := 9) sc__law_drawn_rows.nd rfl (Or.inl rfl) (hf := .inr rfl))) (fun _ _ _ _ _ => pts_nil) (fun _ _ _ _ _ => (pe_op op_mul (pv 2) (pe_op op_add (pe_op op_sub (pe_ix (r := rIxL K) ix_list (pv 4) (pv 9) (fun _ _ => rfl)) (pe_ix (r := rIxL K) ix_list (pv 4) (pv 6) (fun _ _ => rfl))) (pe_f (c__law_pick T) takes0 hr (by decide) rfl (pa_cons (pv 0) (pa_cons (pv 3) pa_nil)))))))
 (pss_cons (ps_asg pe_int (pg_sub (pv 7) (pv 6) set_list))
 (pss_one (ps_expr (pe_bm PySem.F.plainAttrs_list PySem.F.slot_list_append PySem.F.type_list_append mt_append (pv 5) (pa_cons (pv 7) pa_nil)))))))
 (pss_one (ps_ret (pe_f (c__law_closing T) (takes_of rfl rfl rfl rfl) hr (by decide) rfl (pa_cons (pv 5) pa_nil)))))))))), ?_⟩
    refine ⟨_, rfl, _, _, rfl, rfl, ⟨by decide, by decide, by decide⟩, by show 6 ≤ sizeLine; decide, fun p1 h1 => ?_⟩
    obtain ⟨s1, B1⟩ := newB (o := .lst [.int 1, .int 1, .int 1, .int 1, .int 1, .int (10 ^ 25)]) (Stm.refl hf) hB h1
    refine ⟨_, b, _, [.int 1, .int 1, .int 1, .int 1, .int 1, .int (10 ^ 25)], rfl, .inl ⟨p1, rfl, SqL.of upd_same⟩, by simp, by decide, B1, s1.fh, fun H2 x i s2 B2 hx => ?_⟩
    obtain ⟨sc, rfl, sc1, sc2⟩ : ∃ sc : Int, x = .int sc ∧ 1 ≤ sc ∧ sc ≤ 10 ^ 25 := by
      have := List.mem_of_getElem? hx
      simp only [List.mem_cons, List.not_mem_nil, or_false] at this
      rcases this with rfl | rfl | rfl | rfl | rfl | rfl
      · exact ⟨_, rfl, by decide, by decide⟩
      · exact ⟨_, rfl, by decide, by decide⟩
      · exact ⟨_, rfl, by decide, by decide⟩
      · exact ⟨_, rfl, by decide, by decide⟩
      · exact ⟨_, rfl, by decide, by decide⟩
      · exact ⟨_, rfl, by decide, by decide⟩
    refine gn ?_
    refine ⟨_, rfl, by show 5 ≤ sizeLine; decide, fun p3 h3 => ?_⟩
    obtain ⟨s3, B3⟩ := newB (o := .lst [.int 1, .int 2, .int 5, .int 12, .int 40]) (seqB s1 B1 s2) B2 h3
    refine ⟨_, b, _, [.int 1, .int 2, .int 5, .int 12, .int 40], rfl, .inl ⟨p3, rfl, SqL.of upd_same⟩, by simp, by decide, B3, s3.fh, fun H4 x i s4 B4 hx => ?_⟩
    obtain ⟨sp, rfl, sp1, sp2⟩ : ∃ sp : Int, x = .int sp ∧ 1 ≤ sp ∧ sp ≤ 40 := by
      have := List.mem_of_getElem? hx
      simp only [List.mem_cons, List.not_mem_nil, or_false] at this
      rcases this with rfl | rfl | rfl | rfl | rfl
      · exact ⟨_, rfl, by decide, by decide⟩
      · exact ⟨_, rfl, by decide, by decide⟩
      · exact ⟨_, rfl, by decide, by decide⟩
      · exact ⟨_, rfl, by decide, by decide⟩
      · exact ⟨_, rfl, by decide, by decide⟩
    refine gn ?_
    have s04 := seqB s3 B3 s4
    generalize upd (upd F p1 (.lst [.int 1, .int 1, .int 1, .int 1, .int 1, .int (10 ^ 25)])) p3 (.lst [.int 1, .int 2, .int 5, .int 12, .int 40]) = F4 at s04 B4
    refine ⟨by show 1 ≤ sizeLine; decide, fun p5 h5 => ?_⟩
    obtain ⟨s5, B5⟩ := newB (o := .lst [.int 0]) s04 B4 h5
    refine ⟨_, rfl, _, _, rfl, rfl, _, rfl, by omega, by omega, fun D hD => ?_⟩
    refine lcM (memB K b) walk_range s5.fh B5 hD (fun i _ y => ∃ v : Int, y = V.int v ∧ (-20 ≤ v ∧ v ≤ 20)) (fun _ _ _ _ _ z => z) (by omega) (fun _ _ _ _ => trivial) ?_ ?_
    · rintro i x F' _ H1 Kt Kn hi s6 B6 ⟨rfl, rfl⟩ kk
      exact ⟨rfl, lc_yes ⟨_, rfl, F', b, 41, rfl, B6, s6.fh, by decide, sz_of 6 (by decide) (by decide), fun H2 v s7 B7 v0 v1 => ⟨_, _, rfl, rfl, kk _ F' H2 s7 B7 ⟨v - 20, rfl, by omega, by omega⟩⟩⟩⟩
    intro F6 H6 ys s6 B6 hD6 hy hr
    obtain ⟨ws, rfl, hws⟩ := ints_of (P := fun _ v => -20 ≤ v ∧ v ≤ 20) hr
    rw [List.length_map] at hy
    have t6 := seqB s5 B5 s6
    have h56 : H6 p5 = some (.lst [.int 0]) := s6.fh _ _ (s6.ff _ _ upd_same)
    refine ⟨p5, D, [.int 0], ws.map V.int, rfl, rfl, h56, s6.fh _ _ hD6, by rw [List.length_map, sizeLine_eq]; show 1 + ws.length ≤ _; omega, fun vp hvp => ?_⟩
    obtain ⟨t7, B7⟩ := newB (o := .lst ((0 :: ws).map V.int)) t6 B6 hvp
    have hv7 : (upd F6 vp (.lst ((0 :: ws).map V.int))) vp = some (.lst ((0 :: ws).map V.int)) := upd_same
    generalize hW : (0 :: ws : List Int) = W at t7 B7 hv7
    have Wl : W.length = n := by rw [← hW, List.length_cons]; omega
    have Wb : ∀ j, -20 ≤ W.getD j 0 ∧ W.getD j 0 ≤ 20 := fun j => by
      rw [← hW, List.getD_eq_getElem?_getD]
      cases j with
      | zero => exact ⟨by show -20 ≤ (0 : Int); decide, by show (0 : Int) ≤ 20; decide⟩
      | succ j =>
        rw [List.getElem?_cons_succ]
        cases e : ws[j]? with
        | none => exact ⟨by decide, by decide⟩
        | some v => exact hws j v e
    have eW : ([V.int 0] ++ ws.map V.int) = W.map V.int := by rw [← hW]; rfl
    rw [eW]
    refine gn ?_
    generalize upd F6 vp (.lst (W.map V.int)) = F7 at t7 B7 hv7
    generalize upd H6 vp (.lst (W.map V.int)) = H7 at t7 B7 ⊢
    refine ⟨by show 0 ≤ sizeLine; decide, fun L nL => ?_⟩
    have nLb : L ≠ b := fun z => (memB K b).there B7 z nL
    have h0L : H L = none := t7.fresh (fun x z => (memB K b).there B7 z) nL
    have f7L := t7.fh.free nL
    obtain ⟨t8, B8⟩ := rawB (o := .lst []) t7 B7 nL
    refine ⟨_, rfl, (n : Int), rfl, by omega, by omega, ?_⟩
    rw [show ((n : Int)).toNat = n by omega]
    refine for_it walk_range (fun i σ' H' => ∃ F' xs R c6 c7, σ' = [some (.ref b), some (.int (n : Nat)), some (.int sc), some (.int sp), some (.ref vp), some (.ref L), c6, c7, none, none] ∧ Sb b F H F' H' ∧ Bag K b F' H' ∧ Same F7 F' ∧ F' L = none ∧ H' L = some (.lst xs) ∧ xs.length = i ∧ Paired (fun v (r : List Int) => ∃ q, v = V.ref q ∧ SqL K F' q (r.map V.int)) xs R ∧ ∀ j r, R[j]? = some r → RowOk n sc (fun j => W.getD j 0) j r) ?_ (fun _ _ _ _ _ => trivial) ?_ ?_
    · exact ⟨F7, [], [], none, none, rfl, t8, B8, .refl _, f7L, upd_same, rfl, .nil, fun j r z => by simp at z⟩
    · rintro i _ _ _ H9 hi ⟨F9, xs, R, c6, c7, rfl, t9, B9, e9, f9, h9, xl, pr, al⟩ ⟨rfl, rfl⟩
      refine ⟨_, rfl, (n : Int), rfl, by omega, by omega, fun D2 hD2 => ?_⟩
      rw [show ((n : Int)).toNat = n by omega]
      have hvp9 : SqL K F9 vp (W.map V.int) := SqL.of (e9 _ _ hv7)
      have d2L : D2 ≠ L := fun z => by rw [z, h9] at hD2; cases hD2
      have d2b : D2 ≠ b := fun z => (memB K b).there B9 z hD2
      have h0D : H D2 = none := t9.fresh (fun x z => (memB K b).there B9 z) hD2
      have f9D := t9.fh.free hD2
      refine lc_it walk_range (fun j H' => ∃ acc, Sb b F9 H9 F9 H' ∧ Bag K b F9 H' ∧ H' D2 = some (.lst acc) ∧ acc.length = j ∧ ∀ (m : Nat) y, acc[m]? = some y → ∃ v : Int, y = V.int v ∧ (sc * (W.getD m 0 - W.getD i 0) ≤ v ∧ v ≤ sc * 100)) ?_ (fun _ _ _ _ => trivial) ?_ ?_
      · obtain ⟨u1, u2⟩ := rawB (o := .lst []) (Stm.refl t9.fh) B9 hD2
        exact ⟨[], u1, u2, upd_same, rfl, fun m y z => by simp at z⟩
      · rintro j x _ H10 hj ⟨acc, s10, B10, hD10, al10, hr10⟩ ⟨rfl, rfl⟩
        have hv := upL s10.fh hvp9
        refine ⟨rfl, lc_yes ⟨_, rfl, _, rfl, _, rfl, vp, _, _, _, rfl, rfl, hv, int_at (by omega), _, rfl, _, rfl, vp, _, _, _, rfl, rfl, hv, int_at (by omega), _, _, rfl, rfl, ?_⟩⟩
        refine ⟨_, rfl, _, rfl, F9, b, sp, rfl, B10, s10.fh, by omega, sz_of 6 (by omega) (by decide), fun H11 c s11 B11 c0 c1 => ?_⟩
        have w1 := Wb j
        have w2 := Wb i
        have p64 : (2 : Int) ^ 64 = 18446744073709551616 := by decide
        refine ⟨_, _, rfl, rfl, _, _, rfl, rfl, .inr ⟨by omega, by omega⟩, ?_⟩
        have hD11 := s11.hh D2 _ d2b hD10
        obtain ⟨u1, u2⟩ := mutB (o := .lst (acc ++ [.int (sc * (W.getD j 0 - W.getD i 0 + c))])) (seqB s10 B10 s11) B11 f9D hD2 d2b
        refine ⟨acc, hD11, by rw [sizeLine_eq]; omega, _, u1, u2, upd_same, by rw [List.length_append, al10]; rfl, fun m y hm => ?_⟩
        rcases Nat.lt_or_ge m acc.length with q | q
        · rw [List.getElem?_append_left q] at hm
          exact hr10 m y hm
        · rw [List.getElem?_append_right q] at hm
          have e0 : m - acc.length = 0 := by
            rcases Nat.eq_zero_or_pos (m - acc.length) with z | z
            · exact z
            · rw [List.getElem?_eq_none (by simp; omega)] at hm; cases hm
          rw [e0] at hm
          cases hm
          have : m = j := by omega
          subst this
          exact ⟨_, rfl, Int.mul_le_mul_of_nonneg_left (by omega) (by omega), Int.mul_le_mul_of_nonneg_left (by omega) (by omega)⟩
      rintro H10 ⟨acc, s10, B10, hD10, al10, hr10⟩
      obtain ⟨rs, rfl, hrs⟩ := ints_of (P := fun j v => sc * (W.getD j 0 - W.getD i 0) ≤ v ∧ v ≤ sc * 100) hr10
      rw [List.length_map] at al10
      have t10 := seqB t9 B9 s10
      refine gn ?_
      dsimp only
      refine ⟨_, rfl, _, rfl, D2, _, _, i, rfl, rfl, hD10, ?_, ?_⟩
      · unfold ixN
        rw [if_pos (by omega), if_pos (by rw [List.length_map]; omega)]
        congr 1
        omega
      obtain ⟨t11, B11⟩ := mutB (o := .lst ((rs.map V.int).set i (.int 0))) t10 B10 f9D h0D d2b
      have es : (rs.map V.int).set i (.int 0) = (rs.set i 0).map V.int := by rw [List.map_set]
      rw [es] at t11 B11 ⊢
      have hL11 : (upd H10 D2 (.lst ((rs.set i 0).map V.int))) L = some (.lst xs) := by rw [upd_ne d2L.symm]; exact s10.hh L _ nLb h9
      have hD11 : (upd H10 D2 (.lst ((rs.set i 0).map V.int))) D2 = some (.lst ((rs.set i 0).map V.int)) := upd_same
      generalize upd H10 D2 (.lst ((rs.set i 0).map V.int)) = H11 at t11 B11 hL11 hD11 ⊢
      obtain ⟨t12, B12⟩ := freezeB t11 B11 f9D h0D d2b hD11
      have g12 := same_new (o := .lst ((rs.set i 0).map V.int)) f9D
      have f12 : (upd F9 D2 (.lst ((rs.set i 0).map V.int))) L = none := by rw [upd_ne d2L.symm]; exact f9
      have r12 : SqL K (upd F9 D2 (.lst ((rs.set i 0).map V.int))) D2 ((rs.set i 0).map V.int) := SqL.of upd_same
      have pr12 := Paired.mapP pr fun v (r : List Int) z => (by obtain ⟨q, z1, z2⟩ := z; exact ⟨q, z1, upL g12 z2⟩ : ∃ q, v = V.ref q ∧ SqL K (upd F9 D2 (.lst ((rs.set i 0).map V.int))) q (r.map V.int))
      generalize upd F9 D2 (.lst ((rs.set i 0).map V.int)) = F12 at t12 B12 g12 f12 r12 pr12
      refine ⟨_, rfl, .inl ⟨rfl, _, SqL.of hL11⟩, _, rfl, L, _, _, rfl, rfl, hL11, by rw [sizeLine_eq]; omega, ?_⟩
      obtain ⟨t13, B13⟩ := mutB (o := .lst (xs ++ [.ref D2])) t12 B12 f12 h0L nLb
      have Rl : R.length = i := by rw [← Paired.length pr]; exact xl
      refine ⟨F12, xs ++ [.ref D2], R ++ [rs.set i 0], _, _, rfl, t13, B13, e9.trans g12, f12, upd_same, by rw [List.length_append, xl]; rfl, Paired.snoc pr12 ⟨D2, rfl, r12⟩, fun j r hj => ?_⟩
      rcases Nat.lt_or_ge j R.length with q | q
      · rw [List.getElem?_append_left q] at hj
        exact al j r hj
      · rw [List.getElem?_append_right q] at hj
        have e0 : j - R.length = 0 := by
          rcases Nat.eq_zero_or_pos (j - R.length) with z | z
          · exact z
          · rw [List.getElem?_eq_none (by simp; omega)] at hj; cases hj
        rw [e0] at hj
        cases hj
        have : j = i := by omega
        subst this
        have gd : ∀ m, m < n → (rs.set j 0).getD m 0 = if m = j then 0 else rs.getD m 0 := fun m hm => by
          rw [List.getD_eq_getElem?_getD, List.getD_eq_getElem?_getD, List.getElem?_set]
          by_cases z : j = m
          · subst z
            rw [if_pos rfl, if_pos rfl, if_pos (by omega)]
            rfl
          · rw [if_neg z, if_neg (Ne.symm z)]
        have bd : ∀ m, m < n → sc * (W.getD m 0 - W.getD j 0) ≤ rs.getD m 0 ∧ rs.getD m 0 ≤ sc * 100 := fun m hm => by
          rw [List.getD_eq_getElem?_getD (l := rs), List.getElem?_eq_getElem (by omega : m < rs.length)]
          exact hrs m _ (List.getElem?_eq_getElem (by omega))
        refine ⟨by rw [List.length_set]; exact al10, by rw [gd j hi, if_pos rfl], fun m hm => ?_, fun m hm => ?_⟩
        · rw [gd m hm]
          by_cases z : m = j
          · subst z
            rw [if_pos rfl]
            simp
          · rw [if_neg z]
            exact (bd m hm).1
        · rw [gd m hm]
          by_cases z : m = j
          · rw [if_pos z]
            exact Int.mul_nonneg (by omega) (by decide)
          · rw [if_neg z]
            exact (bd m hm).2
    · rintro _ H9 ⟨F9, xs, R, c6, c7, rfl, t9, B9, e9, f9, h9, xl, pr, al⟩
      have Rl : R.length = n := by rw [← Paired.length pr]; exact xl
      have rowR : ∀ {i : Nat}, i < n → ∃ r, R[i]? = some r ∧ RowOk n sc (fun j => W.getD j 0) i r ∧ R.getD i [] = r := fun {i} hi => by
        obtain ⟨r, hr⟩ : ∃ r, R[i]? = some r := ⟨_, List.getElem?_eq_getElem (by omega)⟩
        exact ⟨r, hr, al i r hr, by rw [List.getD_eq_getElem?_getD, hr]; rfl⟩
      have tb : Tb K false H9 (.ref L) n (tbl R) := ⟨L, xs, rfl, SqL.of h9, xl, fun i u hu => by
        obtain ⟨r, hr, q, rfl, hq⟩ := paired_get pr hu
        refine ⟨q, rfl, ?_⟩
        have hi : i < n := by have := (List.getElem?_eq_some_iff.mp hu).1; omega
        obtain ⟨r', hr', ok, e⟩ := rowR hi
        rw [hr] at hr'
        cases hr'
        have : rowV n (tbl R i) = r.map V.int := by
          rw [← row_tbl ok.len]
          refine rowV_congr fun j _ => ?_
          unfold tbl
          rw [e]
        rw [this]
        exact upL t9.fh hq⟩
      have d0 : ∀ i, i < n → tbl R i i = 0 := fun i hi => by
        obtain ⟨r, _, ok, e⟩ := rowR hi
        unfold tbl
        rw [e]
        exact ok.z
      have cc : Cld n (fun x y => sc * (W.getD y 0 - W.getD x 0)) := ⟨fun x _ => by simp, fun x y z _ _ _ => by rw [← Int.mul_add]; exact Int.le_of_eq (congrArg (sc * ·) (by omega))⟩
      have le : Le n (fun x y => sc * (W.getD y 0 - W.getD x 0)) (tbl R) := fun x y hx hy => by
        obtain ⟨r, _, ok, e⟩ := rowR hx
        unfold tbl
        rw [e]
        exact ok.lo y hy
      have cf : Cld n (K52.fw n (tbl R)) := fw_cld (fun x hx => Int.le_of_eq (d0 x hx)) fun x hx => by
        have h1 := fw_ge cc le n (Nat.le_refl _) x x hx hx
        have h2 := cc.z x hx
        exact Int.le_trans (Int.le_of_eq h2.symm) h1
      refine ⟨_, rfl, _, n, _, rfl, tb, by omega, fun H10 p q e10 r10 => ?_⟩
      obtain ⟨t11, B11⟩ := pureB t9 B9 (stp_all t9.fh e10)
      refine k _ _ _ _ t11 B11 r10.fz cf fun x y hx hy => ?_
      obtain ⟨r, _, ok, e⟩ := rowR hx
      have h1 := fw_le (n := n) (f := tbl R) n x y hx hy
      have h2 : tbl R x y ≤ sc * 100 := by unfold tbl; rw [e]; exact ok.hi y hy
      have h3 : sc * 100 ≤ 10 ^ 25 * 100 := Int.mul_le_mul_of_nonneg_right sc2 (by decide)
      refine ⟨Int.le_trans h1 (Int.le_trans h2 h3), ?_⟩
      have g1 := fw_ge cc le n (Nat.le_refl _) x y hx hy
      have g2 : sc * (-100) ≤ sc * (W.getD y 0 - W.getD x 0) := Int.mul_le_mul_of_nonneg_left (by have := Wb x; have := Wb y; omega) (by omega)
      have g3 : -(10 ^ 25 * 100) ≤ sc * (-100) := by omega
      exact Int.le_trans g3 (Int.le_trans g2 g1)
end
end K52

set_option Elab.async false
set_option linter.all false
set_option maxRecDepth 100000
set_option maxHeartbeats 4000000
namespace K52
open PySem PySem.Spec PyProof.Rows L2 Ew
open SX (S)
open NumText (digitsVal AllDigits)
/-! ### an integer as a row of figures -/
def intL (i : Int) : List Nat := if i < 0 then 45 :: TL.numL i.natAbs else TL.numL i.natAbs
theorem S_int (i : Int) : Str.ofString (toString i) = S (intL i) := by
  unfold intL
  by_cases h : i < 0
  · rw [if_pos h, PyProof.Rows.toString_neg h, PySem.Str.ofString_eq_toList, String.toList_append, List.map_append]
    have e : (0 : Int) - i = ((i.natAbs : Nat) : Int) := by omega
    have e2 := SX.num_S i.natAbs
    rw [PySem.Str.ofString_eq_toList] at e2
    have e3 : (toString ((i.natAbs : Nat) : Int)).toList.map Char.toNat = TL.numL i.natAbs := SX.S_inj e2
    rw [e, e3]
    rfl
  · rw [if_neg h]
    obtain ⟨n, rfl⟩ := Int.eq_ofNat_of_zero_le (by omega : 0 ≤ i)
    exact SX.num_S n
theorem numL_head : ∀ n : Nat, 1 ≤ n → ∃ c r, TL.numL n = c :: r ∧ 49 ≤ c ∧ c ≤ 57 := by
  intro n
  induction n using Nat.strongRecOn with
  | _ n ih =>
    intro h
    by_cases h1 : n < 10
    · exact ⟨_, [], TL.numL_lt h1, by omega, by omega⟩
    · obtain ⟨c, r, e, k⟩ := ih (n / 10) (by omega) (by omega)
      exact ⟨c, r ++ [48 + n % 10], by rw [TL.numL_step (by omega), e]; rfl, k⟩
theorem dig_num {n k : Nat} (h1 : 1 ≤ n) (hk : 0 < k) (h : n < 10 ^ k) : isDig k (TL.numL n) = true := by
  obtain ⟨c, r, e, k1, k2⟩ := numL_head n h1
  have l := TL.numL_len hk h
  have al : (TL.numL n).all isFig = true := List.all_eq_true.mpr fun x hx => by
    have := TL.numL_digits n x hx
    unfold isFig
    rw [decide_eq_true this.1, decide_eq_true this.2]
    rfl
  unfold isDig
  rw [al, decide_eq_true l, e, decide_eq_true (by simp), decide_eq_false (by simp; omega)]
  rfl
theorem dropNeg_num (n : Nat) : dropNeg (TL.numL n) = TL.numL n := by
  unfold dropNeg
  split
  · rename_i r e
    have := TL.numL_digits n 45 (by rw [e]; exact List.mem_cons_self)
    omega
  · rfl
theorem wh_int {i : Int} {k : Nat} (hk : 0 < k) (h : i.natAbs < 10 ^ k) : isWh k (intL i) = true := by
  unfold isWh intL
  by_cases h0 : i = 0
  · subst h0
    rw [if_neg (by decide)]
    have : TL.numL (0 : Int).natAbs = [48] := TL.numL_lt (by decide)
    rw [this]
    rfl
  · by_cases h1 : i < 0
    · rw [if_pos h1]
      show (_ || isDig k (TL.numL i.natAbs)) = true
      rw [dig_num (by omega) hk h, Bool.or_true]
    · rw [if_neg h1, dropNeg_num, dig_num (by omega) hk h, Bool.or_true]
theorem val_int (i : Int) : wholeVal (intL i) = i := by
  unfold intL
  by_cases h1 : i < 0
  · rw [if_pos h1]
    show -((digitsVal (TL.numL i.natAbs) : Nat) : Int) = i
    rw [TL.numL_val]
    omega
  · rw [if_neg h1]
    unfold wholeVal
    split
    · rename_i r e
      have := TL.numL_digits i.natAbs 45 (by rw [e]; exact List.mem_cons_self)
      omega
    · rw [TL.numL_val]
      omega
theorem int_free (i : Int) {c : Nat} (h : c < 45 ∨ 57 < c ∨ c = 47) : c ∉ intL i := by
  unfold intL
  split
  · rw [List.mem_cons, not_or]
    exact ⟨by omega, TL.numL_free (by omega)⟩
  · exact TL.numL_free (by omega)
theorem int_len {i : Int} {k : Nat} (hk : 0 < k) (h : i.natAbs < 10 ^ k) : (intL i).length ≤ k + 1 := by
  have := TL.numL_len hk h
  unfold intL
  split
  · rw [List.length_cons]; omega
  · omega
/-! ### a ratio as a text -/
/-! ### the lines of a card -/
def nmL (p : Spot) : Tk := p.1.cps.toList
theorem nm_S (p : Spot) : p.1 = S (nmL p) := by
  show p.1 = ⟨p.1.cps.toList.toArray⟩
  rw [Array.toArray_toList]
def hdL (n : Nat) : List Tk := [lC, intL n]
def spL (p : Spot) : List Tk := [lS, nmL p, intL p.2.1, intL p.2.2]
def rwL (ws : List Int) : List Tk := lR :: ws.map intL
def rws (n : Nat) (f : Tb2) : List (List Int) := (List.range n).map fun i => (List.range n).map (f i)
def cdL (ps : List Spot) (f : Tb2) : List (List Tk) := hdL ps.length :: (ps.map spL ++ (rws ps.length f).map rwL)
theorem tkOk_int {i : Int} (h : i.natAbs < 10 ^ 30) : TkOk (intL i) := by
  refine ⟨by have := int_len (k := 30) (by decide) h; omega, fun c hc => ?_, int_free i (by omega)⟩
  unfold intL at hc
  have := TL.numL_digits i.natAbs
  split at hc
  · rcases List.mem_cons.mp hc with hc | hc
    · omega
    · have := this c hc; omega
  · have := this c hc; omega
theorem Nm.tk {n : Tk} (h : Nm n) : TkOk n := ⟨by have := h.le; omega, fun c hc => by have := h.lt c hc; omega, fun hc => by have := h.lt 32 hc; omega⟩
theorem SpW.nmOk {p : Spot} (h : SpW p) : TkOk (nmL p) ∧ (nmL p = gL ∨ isNm (nmL p) = true) := by
  obtain ⟨n, e, q⟩ := h.nm
  have en : nmL p = n := by
    have := nm_S p
    rw [e] at this
    exact (S_inj this).symm
  rw [en]
  rcases q with rfl | q
  · exact ⟨⟨by decide, by decide, by decide⟩, .inl rfl⟩
  · refine ⟨q.tk, .inr ?_⟩
    unfold isNm
    have a1 : n.all isLow = true := List.all_eq_true.mpr fun c hc => by
      have := q.lt c hc
      unfold isLow
      rw [decide_eq_true this.1, decide_eq_true this.2]
      rfl
    have a2 : 1 ≤ n.length := by
      cases n with
      | nil => exact absurd rfl q.ne
      | cons c r => simp
    rw [a1, decide_eq_true a2, decide_eq_true q.le, decide_eq_false q.nw]
    rfl
/-- rows of words that may be lines -/
structure LsB (n : Nat) (ls : List (List Tk)) : Prop where
  ne : ls ≠ []
  le : ls.length ≤ n
  pos : ∀ us ∈ ls, us ≠ []
  wl : ∀ us ∈ ls, us.length ≤ n
  w : ∀ us ∈ ls, ∀ w ∈ us, TkOk w
theorem LsB.ok {n : Nat} {ls : List (List Tk)} (h : LsB n ls) (hn : n ≤ 250) : LsOk ls := ⟨by have := h.le; omega, fun us hu => by have := h.wl us hu; omega, h.pos, h.w⟩
theorem cdL_ok {ps : List Spot} {f : Tb2} (hs : ∀ p ∈ ps, SpW p) (hl : ps.length ≤ 21) (hf : ∀ a b, a < ps.length → b < ps.length → (f a b).natAbs < 10 ^ 30) : LsB 50 (cdL ps f) := by
  have kC : TkOk lC := ⟨by decide, by decide, by decide⟩
  have kS : TkOk lS := ⟨by decide, by decide, by decide⟩
  have kR : TkOk lR := ⟨by decide, by decide, by decide⟩
  have all : ∀ us ∈ cdL ps f, us ≠ [] ∧ us.length ≤ 50 ∧ ∀ w ∈ us, TkOk w := by
    intro us hu
    rcases List.mem_cons.mp hu with rfl | hu
    · refine ⟨by unfold hdL; simp, by unfold hdL; simp, fun w hw => ?_⟩
      rcases List.mem_cons.mp hw with rfl | hw
      · exact kC
      · rw [List.mem_singleton.mp hw]
        exact tkOk_int (by omega)
    · rcases List.mem_append.mp hu with hu | hu
      · obtain ⟨p, hp, rfl⟩ := List.mem_map.mp hu
        have sp := hs p hp
        refine ⟨by unfold spL; simp, by unfold spL; simp, fun w hw => ?_⟩
        unfold spL at hw
        simp only [List.mem_cons, List.not_mem_nil, or_false] at hw
        rcases hw with rfl | rfl | rfl | rfl
        · exact kS
        · exact sp.nmOk.1
        · exact tkOk_int sp.st
        · exact tkOk_int sp.dy
      · obtain ⟨ws, hw, rfl⟩ := List.mem_map.mp hu
        obtain ⟨i, hi, rfl⟩ := List.mem_map.mp hw
        rw [List.mem_range] at hi
        refine ⟨by unfold rwL; simp, by unfold rwL; simp; omega, fun w hw => ?_⟩
        rcases List.mem_cons.mp hw with rfl | hw
        · exact kR
        · obtain ⟨v, hv, rfl⟩ := List.mem_map.mp hw
          obtain ⟨j, hj, rfl⟩ := List.mem_map.mp hv
          rw [List.mem_range] at hj
          exact tkOk_int (hf i j hi hj)
  refine ⟨by unfold cdL; simp, by unfold cdL rws; simp; omega, fun us hu => (all us hu).1, fun us hu => (all us hu).2.1, fun us hu => (all us hu).2.2⟩
end K52

set_option Elab.async false
set_option linter.all false
set_option maxRecDepth 100000
set_option maxHeartbeats 4000000
namespace K52
open PySem PySem.Spec PyProof.Rows L2 Ew
open SX (S)
def rJoinK (K : PySem.W.Frag) : V → List V → Hp → VK → Prop := fun x xs H Q => ∃ (z : Str) (p : Addr) (ys : List Str), x = .str z ∧ xs = [.ref p] ∧ (SqL K H p (ys.map V.str) ∨ SqT K H p (ys.map V.str)) ∧ (ys.map fun x => x.length).sum + ys.length * z.length ≤ 16777216 ∧ Q (.str (Txt.join z ys)) H
def rStrI : List V → Hp → VK → Prop := fun xs H Q => ∃ i : Int, xs = [.int i] ∧ i.natAbs.log2 < 1920 ∧ Q (.str (Str.ofString (toString i))) H
theorem call_strI {X : Cx} : CallR X (.type "str") rStrI := call_str_int
section
variable {P : Program} {w : World} {K : PySem.W.Frag} {mg : Str → Option Value} {base : Heap} {a : Ad}
theorem lenS {a : List Nat} {n : Nat} (h : a.length ≤ n) (hn : n ≤ 100000) : (S a).length ≤ sizeLine := by rw [SX.S_len, sizeLine_eq]; omega
theorem emS : Str.empty = S [] := rfl
theorem txtC : ("card " : Str) = S (lC ++ [32]) := by decide +kernel
theorem txtP : ("spot " : Str) = S (lS ++ [32]) := by decide +kernel
theorem log30 {i : Int} (h : i.natAbs < 10 ^ 30) : i.natAbs.log2 < 1920 := by
  refine PySem.Flt.log2_lt_of (by decide) (Nat.lt_of_lt_of_le h ?_)
  exact Nat.le_trans (by decide : 10 ^ 30 ≤ 2 ^ 100) (Nat.pow_le_pow_right (by decide) (by decide))
theorem int31 {i : Int} (h : i.natAbs < 10 ^ 30) : (intL i).length ≤ 31 := int_len (by decide) h
theorem J_hd (n : Nat) : J (hdL n) = lC ++ [32] ++ intL n := by unfold hdL; rw [J_cons (by simp), J_one]; simp
theorem J_sp (p : Spot) : J (spL p) = lS ++ [32] ++ nmL p ++ [32] ++ intL p.2.1 ++ [32] ++ intL p.2.2 := by
  unfold spL
  rw [J_cons (by simp), J_cons (by simp), J_cons (by simp), J_one]
  simp
theorem join_S (ws : List Tk) : Txt.join " " (ws.map S) = S (J ws) := by rw [e32, SX.join_S]; rfl
theorem sum_le {ws : List Tk} {b : Nat} (h : ∀ w ∈ ws, w.length ≤ b) : ((ws.map S).map fun x => x.length).sum ≤ ws.length * b := by
  induction ws with
  | nil => exact Nat.zero_le _
  | cons w ws ih =>
    have h1 := h w List.mem_cons_self
    have h2 := ih fun x hx => h x (List.mem_cons_of_mem _ hx)
    rw [List.map_cons, List.map_cons, List.sum_cons, SX.S_len, List.length_cons, Nat.succ_mul]
    omega
abbrev teSp : TE := fun σ H Q => tJs [tC (.str "spot "), tFmt (tVar 2), tC (.str " "), tFmt (tVar 3), tC (.str " "), tFmt (tVar 4)] Str.empty σ H fun out H1 => Q (.str out) H1
abbrev teRw (K : PySem.W.Frag) : TE := tM1 (rJoinK K) (tC (.str " ")) (tOp rCat (tLst (tCons (tC (.str "row")) tNil)) (tLc (iTup K (tVar 5)) (gName 6) tYes (tCB rStrI (tCons (tVar 6) tNil)) [6]))
def sp_write_card (P : Program) (w : World) (K : PySem.W.Frag) (a : Ad) : Sp := fun vs H Q _ => ∃ (v : V) (ps : List Spot) (f : Tb2), vs = [v] ∧ Cd P w K a.Card H v ps f ∧ ps.length ≤ 21 ∧ (∀ p ∈ ps, SpW p) ∧ (∀ a b, a < ps.length → b < ps.length → (f a b).natAbs < 10 ^ 30) ∧
  ∀ H' l, Same H H' → H l = none → H' l = some (.lst ((cdL ps f).map jv)) → Q (.ref l) H'
theorem c_write_card (T : Txt K mg a) : Cl P w K mg base 3 "write_card" P_write_card (sp_write_card P w K a) [] :=
  T.d_write_card.cl sc_write_card (fun vs H Q E h => by obtain ⟨v, ps, f, rfl, _⟩ := h; rfl) fun f cdv A outer s H vs Q E hr h => by
    obtain ⟨_, ps, f, rfl, cd, hl, hs, hf, k⟩ := h
    obtain ⟨x, dx, sp, d, rw, rfl, hx, hps, hd, tb⟩ := id cd
    refine ⟨_, ((pss_cons (ps_set (i := 1) sc_write_card.nd rfl (Or.inl rfl) (pe_lst (pa_cons (pe_joined (.cons pe_str (.cons (pe_fmt (pe_callB (call_lenC (o_Card_len T) hr (by decide)) (by rfl) T.n_len (by decide +kernel) (pa_cons (pv 0) pa_nil))) .nil))) pa_nil)))
 (pss_cons (ps_expr (pe_bm PySem.F.plainAttrs_list PySem.F.slot_list_extend PySem.F.type_list_extend mt_extend (pv 1) (pa_cons (pe_lc (own := [("name", 2), ("stretch", 3), ("day", 4)]) (g := (gTup K 3 (gCons (gName 2) (gCons (gName 3) (gCons (gName 4) gNil))))) (by rfl) sc_write_card.nd (pi_tup (pe_fld (pv 0) rfl)) (blkOk_by (own := [("name", 2), ("stretch", 3), ("day", 4)]) (N := N_write_card) (sc := defScope s_write_card) (by decide +kernel)) (fun _ _ _ _ _ => (pg_tup rfl (pgs_cons (pg_name (i := 2) sc_write_card.nd rfl (Or.inl rfl) (hf := .inr rfl)) (pgs_cons (pg_name (i := 3) sc_write_card.nd rfl (Or.inl rfl) (hf := .inr rfl)) (pgs_cons (pg_name (i := 4) sc_write_card.nd rfl (Or.inl rfl) (hf := .inr rfl)) pgs_nil))))) (fun _ _ _ _ _ => pts_nil) (fun _ _ _ _ _ => (pe_joined (.cons pe_str (.cons (pe_fmt (pv 2)) (.cons pe_str (.cons (pe_fmt (pv 3)) (.cons pe_str (.cons (pe_fmt (pv 4)) .nil))))))))) pa_nil)))
 (pss_cons (ps_expr (pe_bm PySem.F.plainAttrs_list PySem.F.slot_list_extend PySem.F.type_list_extend mt_extend (pv 1) (pa_cons (pe_lc (own := [("row", 5)]) (g := (gName 5)) (by rfl) sc_write_card.nd (pi_tup (pe_fld (pv 0) rfl)) (blkOk_by (own := [("row", 5)]) (N := N_write_card) (sc := defScope s_write_card) (by decide +kernel)) (fun _ _ _ _ _ => (pg_name (i := 5) sc_write_card.nd rfl (Or.inl rfl) (hf := .inr rfl))) (fun _ _ _ _ _ => pts_nil) (fun _ _ _ _ _ => (pe_m1 (r := rJoinK K) PySem.F.slot_str_join PySem.F.type_str_join mt_join pe_str (pe_op op_cat (pe_lst (pa_cons pe_str pa_nil)) (by show PE _ _ (tLc (iTup K (tVar 5)) (gName 6) tYes (tCB rStrI (tCons (tVar 6) tNil)) [6]); exact (pe_lc (own := [("bound", 6)]) (g := (gName 6)) (by rfl) sc_write_card.nd (pi_tup (pv 5)) (blkOk_by (own := [("bound", 6)]) (N := N_write_card) (by rfl)) (fun _ _ _ _ _ => (pg_name (i := 6) sc_write_card.nd rfl (Or.inl rfl) (hf := .inr rfl))) (fun _ _ _ _ _ => pts_nil) (fun _ _ _ _ _ => (pe_callTy (T := "str") (r := rStrI) call_strI (by rfl) T.n_str (by decide +kernel) (pa_cons (pv 6) pa_nil))))))))) pa_nil)))
 (pss_one (ps_ret (pv 1))))))), ?_⟩
    obtain ⟨us, hq, pr⟩ := id hps
    have ul : us.length = ps.length := Paired.length pr
    have ln : (intL (ps.length : Nat)).length ≤ 31 := int31 (by omega)
    have et : Str.empty ++ "card " ++ Str.ofString (toString ((ps.length : Nat) : Int)) = S (J (hdL ps.length)) := by
      rw [txtC, S_int, emS, SX.S_cat, SX.S_cat, J_hd]
      simp
    refine ⟨_, rfl, by decide +kernel, _, rfl, x, dx, _, rfl, hx, _, ps, f, rfl, cd, ((ps.length : Nat) : Int), rfl, by omega, by omega, .inr ⟨_, rfl, log30 (by omega), _, rfl, ?_, by show 1 ≤ sizeLine; decide, fun l hl => ?_⟩⟩
    · rw [et]
      exact lenS (n := 100) (by rw [J_hd, List.length_append]; show 5 + _ ≤ 100; omega) (by decide)
    rw [et]
    have e1 := same_new (o := .lst [jv (hdL ps.length)]) hl
    show tSeq _ _ _ _ (upd H l (.lst [jv (hdL ps.length)]))
    have l1 : (upd H l (.lst [jv (hdL ps.length)])) l = some (.lst [jv (hdL ps.length)]) := upd_same
    generalize upd H l (.lst [jv (hdL ps.length)]) = H1 at e1 l1
    have hx1 := e1 _ _ hx
    have pr1 := Paired.mapP pr fun v p z => z.up e1
    refine ⟨_, rfl, .inl ⟨rfl, _, SqL.of l1⟩, _, rfl, x, a.Card, dx, _, _, rfl, hx1, T.ki.cl, T.nS, rfl, sp, rfl, ⟨us, upT e1 hq⟩, fun D hD => ?_⟩
    refine lcM (te := teSp) (tt := tYes) memP walk_tup (.refl H1) trivial hD (fun i _ y => ∃ p, ps[i]? = some p ∧ y = jv (spL p)) (fun _ _ _ _ _ z => z) (by omega) (fun F' H' z1 z2 => upT (e1.trans (z1.trans z2)) hq) ?_ ?_
    · rintro i y F2 _ H2 Kt Kn hi s2 _ ⟨rfl, hy⟩ kk
      obtain ⟨p, hp, q, rfl, hqp⟩ := paired_get pr1 hy
      have sp1 := hs p (List.mem_of_getElem? hp)
      have hq2 := (s2.ff.trans s2.fh) _ _ hqp
      have n1 := sp1.nmOk.1.le
      have i1 := int31 sp1.st
      have i2 := int31 sp1.dy
      refine ⟨q, _, rfl, SqT.of hq2, rfl, _, _, rfl, _, _, rfl, _, _, rfl, rfl, rfl, lc_yes ?_⟩
      have et : Str.empty ++ "spot " ++ p.1 ++ " " ++ Str.ofString (toString p.2.1) ++ " " ++ Str.ofString (toString p.2.2) = S (J (spL p)) := by
        rw [txtP, S_int, S_int, nm_S p, emS, e32, SX.S_cat, SX.S_cat, SX.S_cat, SX.S_cat, SX.S_cat, SX.S_cat, J_sp]
        rfl
      have b0 : Str.empty.length = 0 := rfl
      have b1 : ("spot " : Str).length = 5 := by decide +kernel
      have b5 : (" " : Str).length = 1 := by decide +kernel
      have b2 : p.1.length ≤ 200 := by rw [nm_S p, SX.S_len]; exact n1
      have b3 : (Str.ofString (toString p.2.1)).length ≤ 31 := by rw [S_int, SX.S_len]; exact i1
      have b4 : (Str.ofString (toString p.2.2)).length ≤ 31 := by rw [S_int, SX.S_len]; exact i2
      have sz := sizeLine_eq
      refine ⟨_, rfl, by simp only [PySem.Str.length_append]; omega, _, rfl, .inl ⟨_, rfl, by omega, _, rfl, by simp only [PySem.Str.length_append]; omega, _, rfl, by simp only [PySem.Str.length_append]; omega, _, rfl,
        .inr ⟨_, rfl, log30 sp1.st, _, rfl, by simp only [PySem.Str.length_append]; omega, _, rfl, by simp only [PySem.Str.length_append]; omega, _, rfl, .inr ⟨_, rfl, log30 sp1.dy, _, rfl, by simp only [PySem.Str.length_append]; omega, ?_⟩⟩⟩⟩
      show Kt (.str (Str.empty ++ "spot " ++ p.1 ++ " " ++ Str.ofString (toString p.2.1) ++ " " ++ Str.ofString (toString p.2.2))) _
      rw [et]
      exact kk _ _ _ (.refl s2.fh) trivial ⟨p, hp, rfl⟩
    intro F2 H2 ys s2 _ hD2 hy hr2
    rw [ul] at hy
    obtain rfl := map_of hy hr2
    have l2 := s2.same _ _ l1
    refine ⟨l, D, _, _, rfl, rfl, l2, s2.fh _ _ hD2, by rw [List.length_map, sizeLine_eq]; show 1 + _ ≤ _; omega, ?_⟩
    have e2 := e1.trans s2.same
    have e3 := same_mut (u := .lst ([jv (hdL ps.length)] ++ ps.map fun p => jv (spL p))) e2 hl
    show tSeq _ _ _ _ (upd H2 l (.lst ([jv (hdL ps.length)] ++ ps.map fun p => jv (spL p))))
    have l3 : (upd H2 l (.lst ([jv (hdL ps.length)] ++ ps.map fun p => jv (spL p)))) l = some (.lst ([jv (hdL ps.length)] ++ ps.map fun p => jv (spL p))) := upd_same
    generalize upd H2 l (.lst ([jv (hdL ps.length)] ++ ps.map fun p => jv (spL p))) = H3 at e3 l3
    have hx3 := e3 _ _ hx
    obtain ⟨_, vs, er, hrv, vl, hvs⟩ := tb.up e3
    cases er
    refine ⟨_, rfl, .inl ⟨rfl, _, SqL.of l3⟩, _, rfl, x, a.Card, dx, _, _, rfl, hx3, T.ki.cl, T.nR, rfl, rw, rfl, ⟨vs, hrv⟩, fun D2 hD2' => ?_⟩
    refine lcM (te := teRw K) (tt := tYes) memP walk_tup (.refl H3) trivial hD2' (fun i _ y => i < ps.length ∧ y = jv (rwL ((List.range ps.length).map (f i)))) (fun _ _ _ _ _ z => z) (by omega) (fun F' H' z1 z2 => upT (z1.trans z2) hrv) ?_ ?_
    · rintro i y F4 _ H4 Kt Kn hi s4 _ ⟨rfl, hy⟩ kk
      obtain ⟨q, rfl, hqr⟩ := hvs i y hy
      have hi : i < ps.length := by omega
      have hq4 : SqT K H4 q (rowV ps.length (f i)) := upT (s4.ff.trans s4.fh) hqr
      refine ⟨rfl, lc_yes ⟨⟨_, rfl⟩, by show 1 ≤ sizeLine; decide, fun m1 hm1 => ?_⟩⟩
      have s5 : Stp F4 H4 (upd F4 m1 (.lst [.str "row"])) (upd H4 m1 (.lst [.str "row"])) := (Stm.refl s4.fh).newP hm1
      have hq5 := upT s5.same hq4
      have hm5 : (upd F4 m1 (.lst [.str "row"])) m1 = some (.lst [.str "row"]) := upd_same
      refine ⟨_, rfl, q, rfl, ⟨_, hq5⟩, fun D3 hD3 => ?_⟩
      refine lcM (te := tCB rStrI (tCons (tVar 6) tNil)) (tt := tYes) memP (walk_tup (a := q) (xs := rowV ps.length (f i))) s5.fh trivial hD3 (fun j _ y => j < ps.length ∧ y = V.str (S (intL (f i j)))) (fun _ _ _ _ _ z => z) (by rw [rowV_len]; omega) (fun F' H' z1 z2 => upT z2 (upT z1 (show SqT K (upd F4 m1 (.lst [.str "row"])) q (rowV ps.length (f i)) from upT (s4.ff.trans (same_new (s4.fh.free hm1))) hqr))) ?_ ?_
      · rintro j y F6 _ H6 Kt Kn hj s6 _ ⟨rfl, hy⟩ kk2
        obtain ⟨hjn, rfl⟩ := rowV_get hy
        refine ⟨rfl, lc_yes ⟨_, rfl, _, rfl, log30 (hf i j hi hjn), ?_⟩⟩
        rw [S_int]
        exact kk2 _ _ _ (.refl s6.fh) trivial ⟨hjn, rfl⟩
      · intro F6 H6 ys s6 _ hD6 hy6 hr6
        rw [rowV_len] at hy6
        have ey : ys = ((((List.range ps.length).map (f i)).map intL).map S).map V.str := by
          rw [List.map_map, List.map_map, List.map_map]
          refine List.ext_getElem? fun j => ?_
          rcases Nat.lt_or_ge j ps.length with hj | hj
          · have hl2 : j < ys.length := by omega
            rw [List.getElem?_eq_getElem hl2, (hr6 j _ (List.getElem?_eq_getElem hl2)).2, List.getElem?_map, List.getElem?_range hj]
            rfl
          · rw [List.getElem?_eq_none (by omega), List.getElem?_eq_none (by simp; omega)]
        have eq : ([.str "row"] : List V) ++ ys = ((rwL ((List.range ps.length).map (f i))).map S).map V.str := by
          rw [ey, eR]
          rfl
        have hm6 : H6 m1 = some (.lst [.str "row"]) := s6.same _ _ upd_same
        have wl : ∀ w ∈ rwL ((List.range ps.length).map (f i)), w.length ≤ 31 := fun w hw => by
          rcases List.mem_cons.mp hw with rfl | hw
          · decide
          · obtain ⟨v, hv, rfl⟩ := List.mem_map.mp hw
            obtain ⟨j, hj, rfl⟩ := List.mem_map.mp hv
            exact int31 (hf i j hi (List.mem_range.mp hj))
        have rl : (rwL ((List.range ps.length).map (f i))).length = ps.length + 1 := by unfold rwL; simp
        refine ⟨m1, D3, _, _, rfl, rfl, hm6, s6.fh _ _ hD6, by rw [hy6, sizeLine_eq]; show 1 + _ ≤ _; omega, fun m3 hm3 => ?_⟩
        refine ⟨_, m3, (rwL ((List.range ps.length).map (f i))).map S, rfl, rfl, .inl (SqL.of (by rw [upd_same, eq])), ?_, ?_⟩
        · have h1 := sum_le wl
          rw [rl] at h1
          rw [List.length_map, rl]
          show _ + (ps.length + 1) * 1 ≤ _
          omega
        · rw [join_S]
          exact kk _ _ _ ((s5.transP s6).newP hm3) trivial ⟨hi, rfl⟩
    intro F4 H4 ys s4 _ hD4 hy hr4
    rw [vl] at hy
    have ey : ys = (rws ps.length f).map fun ws => jv (rwL ws) := by
      unfold rws
      rw [List.map_map]
      refine List.ext_getElem? fun j => ?_
      rcases Nat.lt_or_ge j ps.length with hj | hj
      · have hl2 : j < ys.length := by omega
        rw [List.getElem?_eq_getElem hl2, (hr4 j _ (List.getElem?_eq_getElem hl2)).2, List.getElem?_map, List.getElem?_range hj]
        rfl
      · rw [List.getElem?_eq_none (by omega), List.getElem?_eq_none (by simp; omega)]
    have l4 := s4.same _ _ l3
    refine ⟨l, D2, _, _, rfl, rfl, l4, s4.fh _ _ hD4, by rw [List.length_append, List.length_map, hy, sizeLine_eq]; show 1 + _ + _ ≤ _; omega, ?_⟩
    refine ⟨_, rfl, k _ l (same_mut (e3.trans s4.same) hl) hl ?_⟩
    rw [upd_same, ey]
    unfold cdL
    rw [List.map_cons, List.map_append, List.map_map, List.map_map]
    rfl
end
end K52

set_option Elab.async false
set_option linter.all false
set_option maxRecDepth 100000
set_option maxHeartbeats 4000000
namespace K52
open PySem PySem.Spec PyProof.Rows L2 Ew
open SX (S)
section
variable {P : Program} {w : World} {K : PySem.W.Frag} {mg : Str → Option Value} {base : Heap} {a : Ad}
theorem txtR : ("row " : Str) = S (lR ++ [32]) := by decide +kernel
theorem J_rw {ws : List Int} (h : ws ≠ []) : J (rwL ws) = lR ++ [32] ++ J (ws.map intL) := by
  unfold rwL
  rw [J_cons (by cases ws with | nil => exact absurd rfl h | cons _ _ => simp)]
  simp
def sp__law_lines_of (K : PySem.W.Frag) : Sp := fun vs H Q _ => ∃ (p : Addr) (v : V) (ps : List Spot) (f : Tb2), vs = [.ref p, v] ∧ Spl K H p ps ∧ Tb K false H v ps.length f ∧ 0 < ps.length ∧ ps.length ≤ 21 ∧ (∀ p ∈ ps, SpW p) ∧ (∀ a b, a < ps.length → b < ps.length → (f a b).natAbs < 10 ^ 30) ∧
  ∀ H' l, Same H H' → H l = none → H' l = some (.lst ((cdL ps f).map jv)) → Q (.ref l) H'
theorem c__law_lines_of (T : Txt K mg a) : Cl P w K mg base 1 "_law_lines_of" P__law_lines_of (sp__law_lines_of K) [] :=
  T.d__law_lines_of.cl sc__law_lines_of (fun vs H Q E h => by obtain ⟨p, v, ps, f, rfl, _⟩ := h; rfl) fun f cdv A outer s H vs Q E hr h => by
    obtain ⟨p, _, ps, f, rfl, ⟨us, hus, pr⟩, ⟨r, rs, rfl, hr0, rl, hrs⟩, pos, hl, hs, hf, k⟩ := h
    have ul : us.length = ps.length := Paired.length pr
    have sz := sizeLine_eq
    have c0 : ("card " : Str).length = 5 := by decide +kernel
    have n31 : (Str.ofString (toString ((us.length : Nat) : Int))).length ≤ 31 := by rw [S_int, SX.S_len]; exact int31 (by omega)
    refine ⟨_, ((pss_cons (ps_set (i := 2) sc__law_lines_of.nd rfl (Or.inl rfl) (pe_lst (pa_cons (pe_op op_add_str pe_str (pe_callTy call_str_int (by rfl) T.n_str (by decide +kernel) (pa_cons (pe_callB call_len_seq (by rfl) T.n_len (by decide +kernel) (pa_cons (pv 0) pa_nil)) pa_nil))) pa_nil)))
 (pss_cons (ps_expr (pe_bm PySem.F.plainAttrs_list PySem.F.slot_list_extend PySem.F.type_list_extend mt_extend (pv 2) (pa_cons (pe_lc (own := [("_law_spot", 4)]) (g := (gName 4)) (by rfl) sc__law_lines_of.nd (pi_list (pv 0)) (blkOk_by (own := [("_law_spot", 4)]) (N := N__law_lines_of) (sc := defScope s__law_lines_of) (by decide +kernel)) (fun _ _ _ _ _ => (pg_name (i := 4) sc__law_lines_of.nd rfl (Or.inl rfl) (hf := .inr rfl))) (fun _ _ _ _ _ => pts_nil) (fun _ _ _ _ _ => (pe_op op_add_str (pe_op op_add_str (pe_op op_add_str (pe_op op_add_str (pe_op op_add_str pe_str (pe_ix (r := rIxT K) ix_tup (pv 4) pe_int (fun _ _ => rfl))) pe_str) (pe_callTy (T := "str") (r := rStrI) call_strI (by rfl) T.n_str (by decide +kernel) (pa_cons (pe_ix (r := rIxT K) ix_tup (pv 4) pe_int (fun _ _ => rfl)) pa_nil))) pe_str) (pe_callTy (T := "str") (r := rStrI) call_strI (by rfl) T.n_str (by decide +kernel) (pa_cons (pe_ix (r := rIxT K) ix_tup (pv 4) pe_int (fun _ _ => rfl)) pa_nil))))) pa_nil)))
 (pss_cons (ps_for (passes_of rfl) rfl (pi_list (pv 1)) (pg_name (i := 3) sc__law_lines_of.nd rfl (Or.inl rfl))
 (pss_one (ps_expr (pe_bm PySem.F.plainAttrs_list PySem.F.slot_list_append PySem.F.type_list_append mt_append (pv 2) (pa_cons (pe_op op_add_str pe_str (pe_m1 PySem.F.slot_str_join PySem.F.type_str_join mt_join pe_str (pe_lc (own := [("_law_one", 5)]) (g := (gName 5)) (by rfl) sc__law_lines_of.nd (pi_list (pv 3)) (blkOk_by (own := [("_law_one", 5)]) (N := N__law_lines_of) (sc := defScope s__law_lines_of) (by decide +kernel)) (fun _ _ _ _ _ => (pg_name (i := 5) sc__law_lines_of.nd rfl (Or.inl rfl) (hf := .inr rfl))) (fun _ _ _ _ _ => pts_nil) (fun _ _ _ _ _ => (pe_callTy (T := "str") (r := rStrI) call_strI (by rfl) T.n_str (by decide +kernel) (pa_cons (pv 5) pa_nil)))))) pa_nil)))))
 (pss_one (ps_ret (pv 2))))))), ?_⟩
    refine ⟨_, rfl, p, us, rfl, .inl (SqL.of hus), _, rfl, log30 (by omega), _, _, rfl, rfl, by omega, by show 1 ≤ sizeLine; decide, fun l hl0 => ?_⟩
    have et : ("card " : Str) ++ Str.ofString (toString ((us.length : Nat) : Int)) = S (J (hdL ps.length)) := by
      rw [txtC, S_int, SX.S_cat, J_hd, ul]
    rw [et]
    have e1 := same_new (o := .lst [jv (hdL ps.length)]) hl0
    refine gn ?_
    show tSeq _ _ _ _ (upd H l (.lst [jv (hdL ps.length)]))
    have l1 : (upd H l (.lst [jv (hdL ps.length)])) l = some (.lst [jv (hdL ps.length)]) := upd_same
    generalize upd H l (.lst [jv (hdL ps.length)]) = H1 at e1 l1
    have pr1 := Paired.mapP pr fun v p z => z.up e1
    refine ⟨_, rfl, .inl ⟨rfl, _, SqL.of l1⟩, _, rfl, p, rfl, ⟨us, SqL.of (e1 _ _ hus)⟩, fun D hD => ?_⟩
    refine lcM memP walk_list (.refl H1) trivial hD (fun i _ y => ∃ p, ps[i]? = some p ∧ y = jv (spL p)) (fun _ _ _ _ _ z => z) (by omega) (fun F' H' z1 z2 => SqL.of (z2 _ _ (z1 _ _ (e1 _ _ hus)))) ?_ ?_
    · rintro i y F2 _ H2 Kt Kn hi s2 _ ⟨rfl, hy⟩ kk
      obtain ⟨p, hp, q, rfl, hqp⟩ := paired_get pr1 hy
      have sp1 := hs p (List.mem_of_getElem? hp)
      have hq2 := SqT.of (K := K) ((s2.ff.trans s2.fh) _ _ hqp)
      have i1 := int31 sp1.st
      have i2 := int31 sp1.dy
      have b1 : ("spot " : Str).length = 5 := by decide +kernel
      have b5 : (" " : Str).length = 1 := by decide +kernel
      have b2 : p.1.length ≤ 200 := by rw [nm_S p, SX.S_len]; exact sp1.nmOk.1.le
      have b3 : (Str.ofString (toString p.2.1)).length ≤ 31 := by rw [S_int, SX.S_len]; exact i1
      have b4 : (Str.ofString (toString p.2.2)).length ≤ 31 := by rw [S_int, SX.S_len]; exact i2
      have et : ("spot " : Str) ++ p.1 ++ " " ++ Str.ofString (toString p.2.1) ++ " " ++ Str.ofString (toString p.2.2) = S (J (spL p)) := by
        rw [txtP, S_int, S_int, nm_S p, e32, SX.S_cat, SX.S_cat, SX.S_cat, SX.S_cat, SX.S_cat, J_sp]
      refine ⟨rfl, lc_yes ⟨_, rfl, q, _, 0, _, rfl, rfl, hq2, rfl, _, _, rfl, rfl, by omega, _, _, rfl, rfl, by simp only [PySem.Str.length_append]; omega, _, rfl, q, _, 1, _, rfl, rfl, hq2, rfl, _, rfl, log30 sp1.st, _, _, rfl, rfl, by simp only [PySem.Str.length_append]; omega,
        _, _, rfl, rfl, by simp only [PySem.Str.length_append]; omega, _, rfl, q, _, 2, _, rfl, rfl, hq2, rfl, _, rfl, log30 sp1.dy, _, _, rfl, rfl, by simp only [PySem.Str.length_append]; omega, ?_⟩⟩
      rw [et]
      exact kk _ _ _ (.refl s2.fh) trivial ⟨p, hp, rfl⟩
    intro F2 H2 ys s2 _ hD2 hy hr2
    rw [ul] at hy
    obtain rfl := map_of hy hr2
    have l2 := s2.same _ _ l1
    refine ⟨l, D, _, _, rfl, rfl, l2, s2.fh _ _ hD2, by rw [List.length_map]; show 1 + _ ≤ _; omega, ?_⟩
    have e2 := e1.trans s2.same
    have e3 := same_mut (u := .lst ([jv (hdL ps.length)] ++ ps.map fun p => jv (spL p))) e2 hl0
    have l3 : (upd H2 l (.lst ([jv (hdL ps.length)] ++ ps.map fun p => jv (spL p)))) l = some (.lst ([jv (hdL ps.length)] ++ ps.map fun p => jv (spL p))) := upd_same
    show tSeq _ _ _ _ (upd H2 l (.lst ([jv (hdL ps.length)] ++ ps.map fun p => jv (spL p))))
    generalize upd H2 l (.lst ([jv (hdL ps.length)] ++ ps.map fun p => jv (spL p))) = H3 at e3 l3
    refine ⟨_, rfl, r, rfl, ⟨rs, upL e3 hr0⟩, ?_⟩
    refine for_list (fun j σ' H' => ∃ c3, σ' = [some (.ref p), some (.ref r), some (.ref l), c3, none, none] ∧ Same H H' ∧ H' l = some (.lst (([jv (hdL ps.length)] ++ ps.map fun p => jv (spL p)) ++ ((rws ps.length f).take j).map fun ws => jv (rwL ws)))) ⟨none, rfl, e3, by rw [l3]; simp⟩ (fun j σ' H' _ z => by obtain ⟨_, _, z, _⟩ := z; exact upL z hr0) ?_ ?_
    · rintro j y _ H4 hx ⟨c3, rfl, e4, l4⟩
      obtain ⟨q, rfl, hqr⟩ := hrs j y hx
      have hj : j < ps.length := by have := (List.getElem?_eq_some_iff.mp hx).1; omega
      have hq4 : SqL K H4 q (rowV ps.length (f j)) := upL e4 hqr
      refine ⟨_, rfl, .inl ⟨rfl, _, SqL.of l4⟩, ⟨_, rfl⟩, _, rfl, q, rfl, ⟨_, hq4⟩, fun D3 hD3 => ?_⟩
      refine lcM memP (walk_list (a := q) (xs := rowV ps.length (f j))) (.refl H4) trivial hD3 (fun i _ y => i < ps.length ∧ y = V.str (S (intL (f j i)))) (fun _ _ _ _ _ z => z) (by rw [rowV_len]; omega) (fun F' H' z1 z2 => upL z2 (upL z1 hq4)) ?_ ?_
      · rintro i y F6 _ H6 Kt Kn hi s6 _ ⟨rfl, hy⟩ kk2
        obtain ⟨hin, rfl⟩ := rowV_get hy
        refine ⟨rfl, lc_yes ⟨_, rfl, _, rfl, log30 (hf j i hj hin), ?_⟩⟩
        rw [S_int]
        exact kk2 _ _ _ (.refl s6.fh) trivial ⟨hin, rfl⟩
      · intro F6 H6 ys s6 _ hD6 hy6 hr6
        rw [rowV_len] at hy6
        have ey : ys = ((((List.range ps.length).map (f j)).map intL).map S).map V.str := by
          rw [List.map_map, List.map_map, List.map_map]
          refine List.ext_getElem? fun i => ?_
          rcases Nat.lt_or_ge i ps.length with hi | hi
          · have hl2 : i < ys.length := by omega
            rw [List.getElem?_eq_getElem hl2, (hr6 i _ (List.getElem?_eq_getElem hl2)).2, List.getElem?_map, List.getElem?_range hi]
            rfl
          · rw [List.getElem?_eq_none (by omega), List.getElem?_eq_none (by simp; omega)]
        have wl : ∀ w ∈ ((List.range ps.length).map (f j)).map intL, w.length ≤ 31 := fun w hw => by
          obtain ⟨v, hv, rfl⟩ := List.mem_map.mp hw
          obtain ⟨i, hi, rfl⟩ := List.mem_map.mp hv
          exact int31 (hf j i hj (List.mem_range.mp hi))
        have rlen : (((List.range ps.length).map (f j)).map intL).length = ps.length := by simp
        have h1 := sum_le wl
        rw [rlen] at h1
        have jl := J_len wl
        rw [rlen] at jl
        have l6 := s6.same _ _ l4
        refine ⟨_, D3, (((List.range ps.length).map (f j)).map intL).map S, rfl, rfl, .inl (SqL.of (by rw [← ey]; exact s6.fh _ _ hD6)), ?_, ?_⟩
        · rw [List.length_map, rlen]
          show _ + ps.length * 1 ≤ _
          omega
        rw [join_S]
        have r4 : ("row " : Str).length = 4 := by decide +kernel
        have hJ := SX.S_len (J (((List.range ps.length).map (f j)).map intL))
        have rw_ : (rws ps.length f).length = ps.length := by unfold rws; simp
        refine ⟨_, _, rfl, rfl, by omega, l, _, _, rfl, rfl, l6, by rw [sz]; simp only [List.length_append, List.length_map, List.length_take, List.length_singleton]; omega, ?_⟩
        have ne : (List.range ps.length).map (f j) ≠ [] := fun z => by have := congrArg List.length z; rw [List.length_map, List.length_range, List.length_nil] at this; omega
        refine ⟨_, rfl, same_mut (e4.trans s6.same) hl0, ?_⟩
        rw [upd_same, txtR, SX.S_cat, ← J_rw ne]
        have tk : (rws ps.length f).take (j + 1) = (rws ps.length f).take j ++ [(List.range ps.length).map (f j)] := by
          rw [List.take_add_one]
          unfold rws
          rw [List.getElem?_map, List.getElem?_range hj]
          rfl
        rw [tk, List.map_append, ← List.append_assoc]
        rfl
    · rintro _ H4 ⟨c3, rfl, e4, l4⟩
      refine ⟨_, rfl, k _ l e4 hl0 ?_⟩
      rw [l4, List.take_of_length_le (by unfold rws; simp; omega)]
      unfold cdL
      rw [List.map_cons, List.map_append, List.map_map, List.map_map]
      rfl
end
end K52

set_option Elab.async false
set_option linter.all false
set_option maxRecDepth 100000
set_option maxHeartbeats 4000000
namespace K52
open PySem PySem.Spec PyProof.Rows L2 Ew
open SX (S)
def whV (L : Tk) : V := if isWh 30 L = true then .int (wholeVal L) else .non
section
variable {P : Program} {w : World} {K : PySem.W.Frag} {mg : Str → Option Value} {base : Heap} {a : Ad}
theorem ite_S {c : Bool} {x y : Str} : (if c = true then V.str x else V.str y) = V.str (if c = true then x else y) := by cases c <;> rfl
def sp__law_whole : Sp := fun vs H Q _ => ∃ L : Tk, vs = [.str (S L)] ∧ L.length ≤ 200 ∧ Q (whV L) H
theorem c__law_whole (T : Txt K mg a) : Cl P w K mg base 1 "_law_whole" P__law_whole sp__law_whole [] :=
  T.d__law_whole.cl sc__law_whole (fun vs H Q E h => by obtain ⟨L, rfl, _⟩ := h; rfl) fun f cdv A outer s H vs Q E hr h => by
    obtain ⟨L, rfl, hl, k⟩ := h
    refine ⟨_, ((pss_cons (ps_set (i := 1) sc__law_whole.nd rfl (Or.inl rfl) (pe_ifExp (pt_cmpR op_eq (pe_slice C8.sl_txt (pv 0) po_none (po_some pe_int)) pe_str (nomark _)) (pe_slice C8.sl_txt (pv 0) (po_some pe_int) po_none) (pv 0)))
 (pss_cons (ps_if (PW.pt (pw_or (pt_cmpR op_eq (pv 1) pe_str (nomark _)) (pw_or1 (pt_cmpR op_gt (pe_callB call_len_str (by rfl) T.n_len (by decide +kernel) (pa_cons (pv 1) pa_nil)) pe_int (nomark _)))))
 (pss_one (ps_ret pe_non))
 pss_nil)
 (pss_cons (ps_for (passes_of rfl) rfl (pi_str (pv 1)) (pg_name (i := 2) sc__law_whole.nd rfl (Or.inl rfl))
 (pss_one (ps_if (pt_cmpR op_notin_str (pv 2) pe_str (by rfl))
 (pss_one (ps_ret pe_non))
 pss_nil)))
 (pss_cons (ps_if (PW.pt (pw_and (pt_cmpR op_eq (pe_ix ix_str (pv 1) pe_int (fun _ _ => rfl)) pe_str (nomark _)) (pw_and1 (pt_cmpR op_ne (pv 0) pe_str (nomark _)))))
 (pss_one (ps_ret pe_non))
 pss_nil)
 (pss_one (ps_ret (pe_callTy call_int_str (by rfl) T.n_int (by decide +kernel) (pa_cons (pv 0) pa_nil))))))))), ?_⟩
    have sl : (S L).length = L.length := SX.S_len L
    have t1 : Txt.slice (S L) none (some 1) = S (L.take 1) := SX.slice_to (by decide)
    have t2 : Txt.slice (S L) (some 1) none = S (L.drop 1) := SX.slice_from (by decide)
    have em : ("-" : Str) = S [45] := by decide +kernel
    have e0 : ("" : Str) = S [] := by decide +kernel
    have e48 : ("0" : Str) = S [48] := by decide +kernel
    refine seq_with (fun σ' H' => σ' = [some (.str (S L)), some (.str (S (dropNeg L))), none] ∧ H' = H) (fun u hu => ?_) ?_
    · refine ⟨_, rfl, _, rfl, _, rfl, by rw [sl, sizeLine_eq]; omega, ?_⟩
      rw [t1]
      refine ⟨rfl, _, rfl, ?_⟩
      rw [em, S_dec]
      by_cases c : L.take 1 = [45]
      · refine iteY (decide_eq_true c) ⟨_, rfl, _, rfl, _, rfl, by rw [sl, sizeLine_eq]; omega, ?_⟩
        rw [t2]
        have : dropNeg L = L.drop 1 := by
          cases L with
          | nil => simp at c
          | cons x r =>
            have : x = 45 := by simpa using c
            subst this
            rfl
        exact hu _ _ ⟨by rw [this]; rfl, rfl⟩
      · refine iteN (by rw [decide_eq_false c]; decide) ⟨_, rfl, ?_⟩
        have : dropNeg L = L := by
          unfold dropNeg
          split
          · exact absurd rfl c
          · rfl
        exact hu _ _ ⟨by rw [this]; rfl, rfl⟩
    rintro _ H2 ⟨rfl, eH⟩
    subst eH
    have dl : (dropNeg L).length ≤ L.length := by
      unfold dropNeg
      split
      · simp
      · exact Nat.le_refl _
    generalize hM : dropNeg L = M at dl
    have no : (L ≠ [48]) → isDig 30 M = false → Q .non H2 := fun h1 h2 => by
      have : isWh 30 L = false := by unfold isWh; rw [hM, decide_eq_false h1, h2]; rfl
      unfold whV at k
      rw [if_neg (by rw [this]; decide)] at k
      exact k
    have mS : (S M).length = M.length := SX.S_len M
    refine ⟨_, rfl, rfl, _, rfl, ?_⟩
    rw [e0, S_dec]
    by_cases c1 : M = []
    · refine iteY (decide_eq_true c1) (iteT (no (fun z => ?_) ?_))
      · rw [z] at hM; rw [← hM] at c1; exact absurd c1 (by decide)
      · rw [c1]; rfl
    refine iteN (by rw [decide_eq_false c1]; decide) ⟨_, rfl, _, rfl, by rw [mS, sizeLine_eq]; omega, _, _, rfl, rfl, _, rfl, ?_⟩
    rw [mS]
    have m1 : 1 ≤ M.length := by cases M with | nil => exact absurd rfl c1 | cons _ _ => simp
    by_cases c2 : M.length ≤ 30
    · refine iteN (by rw [decide_eq_false (by omega)]; exact fun z => nomatch z) ?_
      refine ⟨_, rfl, _, rfl, ?_⟩
      refine for_it walk_str (fun j σ' H' => ∃ c, σ' = [some (.str (S L)), some (.str (S M)), c] ∧ H' = H2 ∧ ∀ i c, i < j → M[i]? = some c → isFig c = true) ⟨none, rfl, rfl, fun i _ h => absurd h (Nat.not_lt_zero i)⟩ (fun _ _ _ _ _ => trivial) ?_ ?_
      · rintro j x _ _ H4 hj ⟨c, rfl, eH, al⟩ ⟨rfl, d, hd, rfl⟩
        subst eH
        have hd : M[j]? = some d := by simpa using hd
        refine ⟨_, rfl, _, _, rfl, rfl, _, rfl, ?_⟩
        rw [fig_in]
        cases f : isFig d with
        | true =>
          refine iteF ⟨_, rfl, rfl, fun i c hi hc => ?_⟩
          by_cases q : i = j
          · subst q
            rw [hd] at hc
            cases hc
            exact f
          · exact al i c (by omega) hc
        | false =>
          refine iteT (no (fun z => ?_) ?_)
          · rw [z] at hM
            rw [← hM] at hd
            have hd2 : ([48] : List Nat)[j]? = some d := hd
            cases j with
            | zero => cases hd2; cases f
            | succ j => simp at hd2
          · unfold isDig
            have : M.all isFig = false := by
              rw [List.all_eq_false]
              exact ⟨d, List.mem_of_getElem? hd, by rw [f]; decide⟩
            rw [this]
            simp
      · rintro _ H4 ⟨c, rfl, eH, al⟩
        subst eH
        have al2 : M.all isFig = true := List.all_eq_true.mpr fun x hx => by
          obtain ⟨i, hi⟩ := List.mem_iff_getElem?.mp hx
          exact al i x (by have := (List.getElem?_eq_some_iff.mp hi).1; exact this) hi
        obtain ⟨h, r, rfl⟩ : ∃ h r, M = h :: r := by cases M with | nil => exact absurd rfl c1 | cons h r => exact ⟨h, r, rfl⟩
        have wl : isWh 30 L = true → Q (.int (wholeVal L)) H4 := fun z => by
          unfold whV at k
          rw [if_pos z] at k
          exact k
        have e1 : decide (V.str ⟨#[h]⟩ = V.str ("0" : Str)) = decide (h = 48) := by
          have e : ("0" : Str) = ⟨#[48]⟩ := by decide +kernel
          rw [e]
          by_cases h : h = 48
          · subst h; simp
          · simp [h]
        refine ⟨_, rfl, S (h :: r), _, h, rfl, rfl, by rw [mS, sizeLine_eq]; omega, S_at (i := 0) rfl, rfl, _, rfl, ?_⟩
        rw [e1]
        have fin : isWh 30 L = true → tRet (tCB (fun xs H Q => ∃ a n, xs = [V.str a] ∧ intText? a = some n ∧ a.length ≤ 640 ∧ Q (.int n) H) (tCons (tVar 0) tNil)) { nx := fun _ H' => Q .non H', rt := Q } [some (.str (S L)), some (.str (S (h :: r))), c] H4 := fun z =>
          ⟨_, rfl, _, _, rfl, int_wh (wh_400 z), by rw [sl]; omega, wl z⟩
        by_cases c3 : h = 48
        · refine iteY (decide_eq_true c3) ⟨_, rfl, rfl, _, rfl, ?_⟩
          rw [e48, S_dec]
          by_cases c4 : L = [48]
          · refine iteN (by rw [decide_eq_true c4]; decide) (fin ?_)
            unfold isWh
            rw [decide_eq_true c4]
            rfl
          · refine iteY (by rw [decide_eq_false c4]; rfl) (no c4 ?_)
            unfold isDig
            rw [c3]
            simp
        · refine iteN (by rw [decide_eq_false c3]; decide) (iteN (fun z => nomatch z) (fin ?_))
          unfold isWh isDig
          rw [hM, al2, decide_eq_true m1, decide_eq_true c2, decide_eq_false (by simp [c3] : ¬ (h :: r).head? = some 48)]
          simp
    · refine iteY (decide_eq_true (by omega)) (no (fun z => ?_) ?_)
      · rw [z] at hM; rw [← hM] at c2; exact c2 (by decide)
      · unfold isDig; rw [decide_eq_false c2]; simp
def sp__law_is_thing : Sp := fun vs H Q _ => ∃ L : Tk, vs = [.str (S L)] ∧ L.length ≤ 200 ∧ (∀ c ∈ L, c < 1114112) ∧ ∀ H', Same H H' → Q (.bl (Shp.name.ok L)) H'
theorem c__law_is_thing (T : Txt K mg a) : Cl P w K mg base 2 "_law_is_thing" P__law_is_thing sp__law_is_thing [] :=
  T.d__law_is_thing.cl sc__law_is_thing (fun vs H Q E h => by obtain ⟨L, rfl, _⟩ := h; rfl) fun f cdv A outer s H vs Q E hr h => by
    obtain ⟨L, rfl, hl, hc, k⟩ := h
    refine ⟨_, ((pss_cons (ps_if (pt_cmpR op_eq (pv 0) pe_str (nomark _))
 (pss_one (ps_ret pe_bl))
 pss_nil)
 (pss_cons (ps_if (PW.pt (pw_or (pt_not (pt_chain op_le op_le pe_int (pe_callB call_len_str (by rfl) T.n_len (by decide +kernel) (pa_cons (pv 0) pa_nil)) pe_int)) (pw_or1 (pt_cmpR op_in_seq (pv 0) (pe_f0 (c__law_words_of T) hr (by decide) rfl) (by rfl)))))
 (pss_one (ps_ret pe_bl))
 pss_nil)
 (pss_one (ps_ret (pe_cmpR (op_eqD hr.units) (pe_lc (own := [("_law_sign", 1)]) (g := (gName 1)) (by rfl) sc__law_is_thing.nd (pi_str (pv 0)) (blkOk_by (own := [("_law_sign", 1)]) (N := N__law_is_thing) (sc := defScope s__law_is_thing) (by decide +kernel)) (fun _ _ _ _ _ => (pg_name (i := 1) sc__law_is_thing.nd rfl (Or.inl rfl) (hf := .inr rfl))) (fun _ _ _ _ _ => (pts_one (pt_cmpR op_notin_str (pv 1) pe_str (by rfl)))) (fun _ _ _ _ _ => (pv 1))) (pe_lst pa_nil) (nomark _))))))), ?_⟩
    have sl : (S L).length = L.length := SX.S_len L
    have eg : ("ground" : Str) = S gL := eG
    refine ⟨_, rfl, rfl, _, rfl, ?_⟩
    rw [eg, S_dec]
    by_cases c1 : L = gL
    · refine iteY (decide_eq_true c1) ?_
      have e : Shp.name.ok L = true := by show (decide (L = gL) || isNm L) = true; rw [decide_eq_true c1]; rfl
      exact e ▸ k H (.refl H)
    refine iteN (by rw [decide_eq_false c1]; decide) ?_
    have e : Shp.name.ok L = isNm L := by show (decide (L = gL) || isNm L) = isNm L; rw [decide_eq_false c1]; rfl
    rw [e] at k
    have nok : isNm L = false → ∀ H', Same H H' → Q (.bl false) H' := fun z H' e => by
      have := k H' e
      rw [z] at this
      exact this
    refine ⟨_, rfl, S L, rfl, by rw [sl, sizeLine_eq]; omega, _, _, rfl, rfl, _, rfl, ?_⟩
    rw [sl]
    by_cases h1 : 1 ≤ L.length
    · refine iteY (decide_eq_true (by omega)) ⟨_, _, rfl, rfl, _, rfl, ?_⟩
      by_cases h2 : L.length ≤ 12
      · rw [decide_eq_true (by omega : (L.length : Int) ≤ 12)]
        refine iteF ?_
        refine ⟨_, rfl, rfl, fun p hp => ⟨p, _, rfl, .inl (SqL.of upd_same), rfl, flat_ts _, _, rfl, ?_⟩⟩
        rw [if_neg (by decide), inV_ts]
        have e1 := same_new (o := .lst (tsL wordL)) hp
        generalize upd H p (.lst (tsL wordL)) = H1 at e1
        by_cases c2 : L ∈ wordL
        · refine iteY (decide_eq_true c2) (nok ?_ _ e1)
          unfold isNm
          rw [decide_eq_true c2]
          simp
        refine iteN (by rw [decide_eq_false c2]; decide) ?_
        refine ⟨_, rfl, S L, rfl, fun D hD => ?_⟩
        refine lcF walk_str (fun i => !isLow (L.getD i 0)) (.refl H1) hD (fun i _ y => y = V.str (S [L.getD i 0])) (fun _ _ _ _ _ z => z) (by show L.length ≤ _; omega) (fun _ _ _ _ => trivial) ?_ ?_
        · rintro i x F' _ H2 Kt Kn hi s2 ⟨rfl, d, hd, rfl⟩ kt kn
          have hd : L[i]? = some d := by simpa using hd
          have gd : L.getD i 0 = d := by rw [List.getD_eq_getElem?_getD, hd]; rfl
          rw [gd] at kt kn
          refine ⟨rfl, _, rfl, _, _, rfl, rfl, _, rfl, ?_⟩
          rw [low_in]
          cases f : isLow d with
          | true =>
            rw [f] at kn
            exact iteF (kn rfl _ _ (.refl s2.fh))
          | false =>
            rw [f] at kt
            exact iteT ⟨_, rfl, kt rfl _ _ _ (.refl s2.fh) rfl⟩
        · intro F' H2 ys s2 hD2 pr
          have ey : ys = tsL (((List.range L.length).filter fun i => !isLow (L.getD i 0)).map fun i => [L.getD i 0]) := by
            unfold tsL
            rw [List.map_map]
            have pr' : Paired (fun y i => y = V.str (S [L.getD i 0])) ys ((List.range L.length).filter fun i => !isLow (L.getD i 0)) := pr
            clear hD2 pr
            generalize (List.range L.length).filter (fun i => !isLow (L.getD i 0)) = zs at pr'
            induction pr' with
            | nil => rfl
            | cons h _ ih => rw [h, ih]; rfl
          have hD3 := s2.fh _ _ hD2
          rw [ey] at hD3
          refine ⟨Nat.zero_le _, fun p2 hp2 => ?_⟩
          have e3 := same_new (o := .lst []) hp2
          refine ⟨_, _, dp_ss (SqL.of (e3 _ _ hD3)), dp_ss (us := []) (SqL.of upd_same), (fl_ss ?_).sh (by decide), (fl_ss (us := []) (by decide)).sh (by decide), ?_⟩
          · intro w hw c hcw
            obtain ⟨i, hi, rfl⟩ := List.mem_map.mp hw
            rw [List.mem_singleton] at hcw
            rw [hcw]
            have hi2 : i < L.length := List.mem_range.mp (List.mem_filter.mp hi).1
            rw [List.getD_eq_getElem?_getD, List.getElem?_eq_getElem hi2]
            exact hc _ (List.getElem_mem hi2)
          · rw [eqv_ss]
            have : decide ((((List.range L.length).filter fun i => !isLow (L.getD i 0)).map fun i => [L.getD i 0]) = []) = isNm L := by
              unfold isNm
              rw [decide_eq_true h1, decide_eq_true h2, decide_eq_false c2, Bool.true_and, Bool.true_and, Bool.not_false, Bool.and_true]
              by_cases al : L.all isLow = true
              · rw [al]
                refine decide_eq_true ?_
                rw [List.map_eq_nil_iff, List.filter_eq_nil_iff]
                intro i hi
                have hi2 : i < L.length := List.mem_range.mp hi
                have := List.all_eq_true.mp al _ (List.getElem_mem hi2)
                rw [List.getD_eq_getElem?_getD, List.getElem?_eq_getElem hi2]
                show ¬ (!isLow L[i]) = true
                rw [this]
                decide
              · have al' : L.all isLow = false := by simpa using al
                rw [al']
                refine decide_eq_false fun z => al ?_
                rw [List.map_eq_nil_iff, List.filter_eq_nil_iff] at z
                rw [List.all_eq_true]
                intro c hcl
                obtain ⟨i, hi⟩ := List.mem_iff_getElem?.mp hcl
                have hi2 := (List.getElem?_eq_some_iff.mp hi).1
                have := z i (List.mem_range.mpr hi2)
                rw [List.getD_eq_getElem?_getD, hi] at this
                simpa using this
            rw [this]
            exact k _ (e1.trans (s2.same.trans e3))
      · rw [decide_eq_false (by omega : ¬ (L.length : Int) ≤ 12)]
        refine iteT (nok ?_ _ (.refl H))
        unfold isNm
        rw [decide_eq_false h2]
        simp
    · refine iteN (by rw [decide_eq_false (by omega)]; exact fun z => nomatch z) ⟨_, rfl, iteT (nok ?_ _ (.refl H))⟩
      unfold isNm
      rw [decide_eq_false h1]
      rfl
end
end K52

set_option Elab.async false
set_option linter.all false
set_option maxRecDepth 100000
set_option maxHeartbeats 4000000
namespace K52
open PySem PySem.Spec PyProof.Rows L2 Ew
open SX (S)
theorem many_ok {u : Tk} : Shp.many.ok u = (isWh 30 u && decide (1 ≤ wholeVal u)) := by
  show (isWh 30 u && (!decide (u.head? = some 45) && !decide (u = [48]))) = _
  cases h : isWh 30 u with
  | false => rfl
  | true =>
    rw [Bool.true_and, Bool.true_and]
    by_cases c1 : u.head? = some 45
    · rw [decide_eq_true c1]
      cases u with
      | nil => cases c1
      | cons x r =>
        cases c1
        have : ¬ 1 ≤ wholeVal (45 :: r) := by
          show ¬ 1 ≤ -((NumText.digitsVal r : Nat) : Int)
          omega
        rw [decide_eq_false this]
        rfl
    · by_cases c2 : u = [48]
      · subst c2
        decide +kernel
      · rw [decide_eq_false c1, decide_eq_false c2, decide_eq_true (wv_many h c1 c2)]
        rfl
def shV : Shp → V
  | .head _ => .non
  | .name => .str "name"
  | .whole => .str "whole"
  | .many => .str "many"
def Shp.Pl (s : Shp) : Prop := s = .name ∨ s = .whole ∨ s = .many
def faV : Option Nat → V
  | none => .non
  | some i => .int (i : Nat)
section
variable {P : Program} {w : World} {K : PySem.W.Frag} {mg : Str → Option Value} {base : Heap} {a : Ad}
def sp__law_fault_of (K : PySem.W.Frag) : Sp := fun vs H Q _ => ∃ (q sh : Addr) (us : List Tk) (x : Tk) (ss : List Shp), vs = [.ref q, .str (S x), .ref sh] ∧ SqL K H q (tsL us) ∧ SqL K H sh (ss.map shV) ∧ (∀ w ∈ us, TkOk w) ∧ us.length ≤ 1000 ∧ ss.length ≤ 1000 ∧ (∀ s ∈ ss, s.Pl) ∧
  ∀ H', Same H H' → Q (faV (fl us 0 (.head x :: ss))) H'
theorem c__law_fault_of (T : Txt K mg a) : Cl P w K mg base 3 "_law_fault_of" P__law_fault_of (sp__law_fault_of K) [] :=
  T.d__law_fault_of.cl sc__law_fault_of (fun vs H Q E h => by obtain ⟨q, sh, us, x, ss, rfl, _⟩ := h; rfl) fun f cdv A outer s H vs Q E hr h => by
    obtain ⟨q, sh, us, x, ss, rfl, hq, hsh, hw, ul, sl, pl, k⟩ := h
    refine ⟨_, ((pss_cons (ps_for (passes_of rfl) rfl (pi_range1 (by rfl) T.n_range (pa_cons (pe_op op_add pe_int (pe_callB call_len_seq (by rfl) T.n_len (by decide +kernel) (pa_cons (pv 2) pa_nil))) pa_nil)) (pg_name (i := 3) sc__law_fault_of.nd rfl (Or.inl rfl))
 (pss_cons (ps_if (pt_cmpR op_ge (pv 3) (pe_callB call_len_seq (by rfl) T.n_len (by decide +kernel) (pa_cons (pv 0) pa_nil)) (nomark _))
 (pss_one (ps_ret (pv 3)))
 pss_nil)
 (pss_cons (ps_set (i := 4) sc__law_fault_of.nd rfl (Or.inl rfl) (pe_ix ix_list (pv 0) (pv 3) (fun _ _ => rfl)))
 (pss_cons (ps_if (PW.pt (pw_and (pt_cmpR op_eq (pv 3) pe_int (nomark _)) (pw_and1 (pt_cmpR op_ne (pv 4) (pv 1) (nomark _)))))
 (pss_one (ps_ret pe_int))
 pss_nil)
 (pss_cons (ps_if (PW.pt (pw_and (pt_cmpR op_gt (pv 3) pe_int (nomark _)) (pw_and (pt_cmpR op_eq (pe_ix ix_list (pv 2) (pe_op op_sub (pv 3) pe_int) (fun _ _ => rfl)) pe_str (nomark _)) (pw_and1 (pt_not (pt_val (pe_f (c__law_is_thing T) (takes_of rfl rfl rfl rfl) hr (by decide) rfl (pa_cons (pv 4) pa_nil))))))))
 (pss_one (ps_ret (pv 3)))
 pss_nil)
 (pss_cons (ps_if (PW.pt (pw_and (pt_cmpR op_gt (pv 3) pe_int (nomark _)) (pw_and (pt_cmpR op_ne (pe_ix ix_list (pv 2) (pe_op op_sub (pv 3) pe_int) (fun _ _ => rfl)) pe_str (nomark _)) (pw_and1 (pt_cmpR op_isN (pe_f (c__law_whole T) (takes_of rfl rfl rfl rfl) hr (by decide) rfl (pa_cons (pv 4) pa_nil)) pe_non (nomark _))))))
 (pss_one (ps_ret (pv 3)))
 pss_nil)
 (pss_one (ps_if (PW.pt (pw_and (pt_cmpR op_gt (pv 3) pe_int (nomark _)) (pw_and (pt_cmpR op_eq (pe_ix ix_list (pv 2) (pe_op op_sub (pv 3) pe_int) (fun _ _ => rfl)) pe_str (nomark _)) (pw_and1 (pt_cmpR op_lt (pe_f (c__law_whole T) (takes_of rfl rfl rfl rfl) hr (by decide) rfl (pa_cons (pv 4) pa_nil)) pe_int (nomark _))))))
 (pss_one (ps_ret (pv 3)))
 pss_nil))))))))
 (pss_cons (ps_if (pt_cmpR op_gt (pe_callB call_len_seq (by rfl) T.n_len (by decide +kernel) (pa_cons (pv 0) pa_nil)) (pe_op op_add pe_int (pe_callB call_len_seq (by rfl) T.n_len (by decide +kernel) (pa_cons (pv 2) pa_nil))) (nomark _))
 (pss_one (ps_ret (pe_op op_add pe_int (pe_callB call_len_seq (by rfl) T.n_len (by decide +kernel) (pa_cons (pv 2) pa_nil)))))
 pss_nil)
 (pss_one (ps_ret pe_non))))), ?_⟩
    have tl := tsL_len us
    have ml : (ss.map shV).length = ss.length := by rw [List.length_map]
    refine ⟨_, rfl, sh, _, rfl, .inl hsh, _, _, rfl, rfl, _, rfl, by rw [ml]; omega, by rw [ml]; omega, ?_⟩
    rw [ml, show ((1 : Int) + ((ss.length : Nat) : Int)).toNat = ss.length + 1 by omega]
    refine for_it walk_range (fun j σ' H' => ∃ c3 c4, σ' = [some (.ref q), some (.str (S x)), some (.ref sh), c3, c4] ∧ Same H H' ∧ fl us 0 (.head x :: ss) = fl us j ((Shp.head x :: ss).drop j)) ⟨none, none, rfl, .refl H, rfl⟩ (fun _ _ _ _ _ => trivial) ?_ ?_
    · rintro j _ _ _ H2 hj ⟨c3, c4, rfl, e2, f2⟩ ⟨rfl, rfl⟩
      have k2 : ∀ i, fl us 0 (.head x :: ss) = some i → ∀ H', Same H H' → Q (.int (i : Nat)) H' := fun i z H' e => by
        have := k H' e
        rw [z] at this
        exact this
      obtain ⟨s, ds, hs⟩ : ∃ s ds, (Shp.head x :: ss).drop j = s :: ds := by
        have : j < (Shp.head x :: ss).length := by rw [List.length_cons]; exact hj
        exact ⟨_, _, List.drop_eq_getElem_cons this⟩
      rw [hs] at f2
      show gName 3 (V.int (0 + ((j : Nat) : Int))) _ _ _
      rw [Int.zero_add]
      refine gn ?_
      refine ⟨_, rfl, _, rfl, q, _, rfl, .inl (upL e2 hq), _, _, rfl, rfl, _, rfl, ?_⟩
      rw [tl]
      by_cases c : j < us.length
      · refine iteN (by rw [decide_eq_false (by omega)]; exact fun z => nomatch z) ?_
        obtain ⟨u, hu⟩ : ∃ u, us[j]? = some u := ⟨_, List.getElem?_eq_getElem c⟩
        have uk := hw u (List.mem_of_getElem? hu)
        refine ⟨_, rfl, _, rfl, q, _, j, .str (S u), rfl, rfl, upL e2 hq, ts_at hu, ?_⟩
        refine gn ?_
        dsimp only
        by_cases j0 : j = 0
        · subst j0
          obtain rfl : s = .head x := by cases hs; rfl
          refine ⟨_, rfl, rfl, _, rfl, iteY (decide_eq_true rfl) ?_⟩
          refine ⟨_, rfl, _, rfl, rfl, _, rfl, ?_⟩
          rw [S_dec]
          by_cases ux : u = x
          · refine iteN (by rw [decide_eq_true ux]; decide) ?_
            refine ⟨_, rfl, _, _, rfl, rfl, _, rfl, iteN (by decide) (iteN (fun z => nomatch z) ?_)⟩
            refine ⟨_, rfl, _, _, rfl, rfl, _, rfl, iteN (by decide) (iteN (fun z => nomatch z) ?_)⟩
            refine ⟨_, rfl, _, _, rfl, rfl, _, rfl, iteN (by decide) (iteN (fun z => nomatch z) ?_)⟩
            refine ⟨_, _, rfl, e2, ?_⟩
            rw [f2, fl_ok hu (by rw [ux]; exact ok_h)]
            congr 1
            cases hs
            rfl
          · refine iteY (by rw [decide_eq_false ux]; rfl) ?_
            exact k2 0 (f2.trans (fl_noh (by rw [hu]; exact fun z => ux (Option.some.inj z)))) _ e2
        · obtain ⟨j', rfl⟩ : ∃ j', j = j' + 1 := ⟨j - 1, by omega⟩
          have hs' : ss.drop j' = s :: ds := hs
          have ha : ss[j']? = some s := by
            have := congrArg List.head? hs'
            rw [List.head?_drop] at this
            exact this
          have hd : ss.drop (j' + 1) = ds := by
            have := congrArg List.tail hs'
            rw [List.tail_drop] at this
            exact this
          have at_ : atI (ss.map shV) (((j' + 1 : Nat) : Int) - 1) = some (shV s) := by
            rw [show ((j' + 1 : Nat) : Int) - 1 = ((j' : Nat) : Int) by omega]
            exact atI_nat (by rw [List.getElem?_map, ha]; rfl)
          have ps := pl s (List.mem_of_getElem? ha)
          have hsh2 := upL e2 hsh
          have gt0 : ∀ {R : Bool → Prop}, R true → R (decide ((0 : Int) < ((j' + 1 : Nat) : Int))) := fun {R} r => by rw [decide_eq_true (by omega)]; exact r
          refine ⟨_, rfl, rfl, _, rfl, iteN (by rw [decide_eq_false (by intro z; injection z with z; omega)]; decide) (iteN (fun z => nomatch z) ?_)⟩
          have next : Shp.ok s u = true → ∀ H', Same H2 H' → ∃ c3 c4, ([some (.ref q), some (.str (S x)), some (.ref sh), some (.int ((j' + 1 : Nat) : Int)), some (.str (S u))] : L2.St) = [some (.ref q), some (.str (S x)), some (.ref sh), c3, c4] ∧ Same H H' ∧ fl us 0 (.head x :: ss) = fl us (j' + 1 + 1) ((Shp.head x :: ss).drop (j' + 1 + 1)) := fun ho H' e => by
            refine ⟨_, _, rfl, e2.trans e, ?_⟩
            rw [f2, fl_ok hu ho]
            show fl us _ ds = fl us _ (ss.drop (j' + 1))
            rw [hd]
          have bad : Shp.ok s u = false → ∀ H', Same H H' → Q (.int ((j' + 1 : Nat) : Int)) H' := fun ho => k2 _ (f2.trans (fl_no hu ho))
          have wh : ∀ {R : V → Prop}, R (whV u) → R (if isWh 30 u = true then V.int (wholeVal u) else V.non) := fun r => r
          rcases ps with rfl | rfl | rfl
          · refine ⟨_, rfl, _, _, rfl, rfl, _, rfl, iteY (decide_eq_true (by omega)) ?_⟩
            refine ⟨_, rfl, _, rfl, _, _, rfl, rfl, sh, _, _, _, rfl, rfl, hsh2, at_, rfl, _, rfl, iteY (by decide +kernel) ?_⟩
            refine ⟨_, rfl, u, rfl, uk.le, uk.lt, fun H3 e3 => ?_⟩
            have hsh3 := upL e3 hsh2
            cases ho : Shp.name.ok u with
            | false => exact ⟨_, rfl, iteT ⟨_, rfl, bad ho _ (e2.trans e3)⟩⟩
            | true =>
              refine ⟨_, rfl, iteF ?_⟩
              refine ⟨_, rfl, _, _, rfl, rfl, _, rfl, iteY (decide_eq_true (by omega)) ?_⟩
              refine ⟨_, rfl, _, rfl, _, _, rfl, rfl, sh, _, _, _, rfl, rfl, hsh3, at_, rfl, _, rfl, iteN (by decide +kernel) (iteN (fun z => nomatch z) ?_)⟩
              refine ⟨_, rfl, _, _, rfl, rfl, _, rfl, iteY (decide_eq_true (by omega)) ?_⟩
              refine ⟨_, rfl, _, rfl, _, _, rfl, rfl, sh, _, _, _, rfl, rfl, hsh3, at_, rfl, _, rfl, iteN (by decide +kernel) (iteN (fun z => nomatch z) ?_)⟩
              exact next ho _ e3
          · refine ⟨_, rfl, _, _, rfl, rfl, _, rfl, iteY (decide_eq_true (by omega)) ?_⟩
            refine ⟨_, rfl, _, rfl, _, _, rfl, rfl, sh, _, _, _, rfl, rfl, hsh2, at_, rfl, _, rfl, iteN (by decide +kernel) (iteN (fun z => nomatch z) ?_)⟩
            refine ⟨_, rfl, _, _, rfl, rfl, _, rfl, iteY (decide_eq_true (by omega)) ?_⟩
            refine ⟨_, rfl, _, rfl, _, _, rfl, rfl, sh, _, _, _, rfl, rfl, hsh2, at_, rfl, _, rfl, iteY (by decide +kernel) ?_⟩
            refine ⟨_, rfl, u, rfl, uk.le, ?_⟩
            cases hv : isWh 30 u with
            | false =>
              have ev : whV u = .non := by unfold whV; rw [if_neg (by rw [hv]; decide)]
              rw [ev]
              exact ⟨rfl, _, rfl, iteY (decide_eq_true rfl) ⟨_, rfl, bad hv _ e2⟩⟩
            | true =>
              have ev : whV u = .int (wholeVal u) := by unfold whV; rw [if_pos hv]
              rw [ev]
              refine ⟨rfl, _, rfl, iteN (by rw [decide_eq_false (fun z => nomatch z)]; decide) ?_⟩
              refine ⟨_, rfl, _, _, rfl, rfl, _, rfl, iteY (decide_eq_true (by omega)) ?_⟩
              refine ⟨_, rfl, _, rfl, _, _, rfl, rfl, sh, _, _, _, rfl, rfl, hsh2, at_, rfl, _, rfl, iteN (by decide +kernel) (iteN (fun z => nomatch z) ?_)⟩
              exact next hv _ (.refl H2)
          · refine ⟨_, rfl, _, _, rfl, rfl, _, rfl, iteY (decide_eq_true (by omega)) ?_⟩
            refine ⟨_, rfl, _, rfl, _, _, rfl, rfl, sh, _, _, _, rfl, rfl, hsh2, at_, rfl, _, rfl, iteN (by decide +kernel) (iteN (fun z => nomatch z) ?_)⟩
            refine ⟨_, rfl, _, _, rfl, rfl, _, rfl, iteY (decide_eq_true (by omega)) ?_⟩
            refine ⟨_, rfl, _, rfl, _, _, rfl, rfl, sh, _, _, _, rfl, rfl, hsh2, at_, rfl, _, rfl, iteY (by decide +kernel) ?_⟩
            refine ⟨_, rfl, u, rfl, uk.le, ?_⟩
            cases hv : isWh 30 u with
            | false =>
              have ev : whV u = .non := by unfold whV; rw [if_neg (by rw [hv]; decide)]
              rw [ev]
              exact ⟨rfl, _, rfl, iteY (decide_eq_true rfl) ⟨_, rfl, bad (by rw [many_ok, hv]; rfl) _ e2⟩⟩
            | true =>
              have ev : whV u = .int (wholeVal u) := by unfold whV; rw [if_pos hv]
              rw [ev]
              refine ⟨rfl, _, rfl, iteN (by rw [decide_eq_false (fun z => nomatch z)]; decide) ?_⟩
              refine ⟨_, rfl, _, _, rfl, rfl, _, rfl, iteY (decide_eq_true (by omega)) ?_⟩
              refine ⟨_, rfl, _, rfl, _, _, rfl, rfl, sh, _, _, _, rfl, rfl, hsh2, at_, rfl, _, rfl, iteY (by decide +kernel) ?_⟩
              refine ⟨_, rfl, u, rfl, uk.le, ?_⟩
              rw [ev]
              refine ⟨_, _, rfl, rfl, _, rfl, ?_⟩
              by_cases g : 1 ≤ wholeVal u
              · refine iteN (by rw [decide_eq_false (by omega)]; decide) ?_
                exact next (by rw [many_ok, hv, decide_eq_true g]; rfl) _ (.refl H2)
              · refine iteY (decide_eq_true (by omega)) ⟨_, rfl, bad (by rw [many_ok, hv, decide_eq_false g]; rfl) _ e2⟩
      · refine iteY (decide_eq_true (by omega)) ⟨_, rfl, ?_⟩
        exact k2 j (f2.trans (fl_none (List.getElem?_eq_none (by omega)))) _ e2
    · rintro _ H2 ⟨c3, c4, rfl, e2, f2⟩
      have dn : (Shp.head x :: ss).drop (ss.length + 1) = [] := List.drop_eq_nil_of_le (by rw [List.length_cons]; omega)
      rw [dn] at f2
      rw [f2] at k
      refine ⟨_, rfl, q, _, rfl, .inl (upL e2 hq), _, rfl, sh, _, rfl, .inl (upL e2 hsh), _, _, rfl, rfl, _, _, rfl, rfl, _, rfl, ?_⟩
      rw [tl, ml]
      rcases Nat.lt_or_ge (ss.length + 1) us.length with c | c
      · rw [fl_more c] at k
        refine iteY (decide_eq_true (by omega)) ⟨_, rfl, sh, _, rfl, .inl (upL e2 hsh), _, _, rfl, rfl, ?_⟩
        show Q (V.int ((1 : Int) + (((ss.map shV).length : Nat) : Int))) H2
        rw [ml, show (1 : Int) + ((ss.length : Nat) : Int) = ((ss.length + 1 : Nat) : Int) by omega]
        exact k _ e2
      · rw [fl_end c] at k
        exact iteN (by rw [decide_eq_false (by omega)]; exact fun z => nomatch z) (k _ e2)
end
end K52

set_option Elab.async false
set_option linter.all false
set_option maxRecDepth 100000
set_option maxHeartbeats 4000000
namespace K52
open PySem PySem.Spec PyProof.Rows L2 Ew
open SX (S)
/-! ### the law's reader, as a row of what is due -/
abbrev Du := Tk × List Shp
def Du.sh (d : Du) : List Shp := .head d.1 :: d.2
def tkD (N : Nat) : List Du → List Ln → Rst (List (List Tk) × List Ln)
  | [], l => .ok ([], l)
  | d :: ds, l => match tk1 N (Du.sh d) l with
    | .error e => .error e
    | .ok (us, l1) => match tkD N ds l1 with
      | .error e => .error e
      | .ok (uss, l2) => .ok (us :: uss, l2)
theorem tkD_bad {N : Nat} {d : Du} {ds : List Du} {l : List Ln} {e : Nat × Nat} (h : tk1 N (Du.sh d) l = .error e) : tkD N (d :: ds) l = .error e := by simp only [tkD, h]
theorem tkD_ok {N : Nat} {d : Du} {ds : List Du} {l l1 : List Ln} {us : List Tk} (h : tk1 N (Du.sh d) l = .ok (us, l1)) : tkD N (d :: ds) l = app [us] (tkD N ds l1) := by
  simp only [tkD, h]
  cases tkD N ds l1 with
  | error e => rfl
  | ok x => rfl
theorem tkD_rep {N : Nat} {d : Du} {ds : List Du} : ∀ (k : Nat) (l : List Ln), tkD N (List.replicate k d ++ ds) l = match tkN N (Du.sh d) k l with
    | .error e => .error e
    | .ok (uss, l1) => app uss (tkD N ds l1)
  | 0, l => by
    show tkD N ds l = app [] (tkD N ds l)
    cases tkD N ds l with
    | error e => rfl
    | ok x => rfl
  | k + 1, l => by
    rw [List.replicate_succ, List.cons_append]
    cases h : tk1 N (Du.sh d) l with
    | error e => rw [tkD_bad h, tkN_bad h]
    | ok x =>
      obtain ⟨us, l1⟩ := x
      rw [tkD_ok h, tkN_ok h, tkD_rep k l1]
      cases tkN N (Du.sh d) k l1 with
      | error e => rfl
      | ok y =>
        obtain ⟨uss, l2⟩ := y
        show app [us] (app uss _) = app (us :: uss) _
        rw [app_app]
        rfl
/-- more than there are lines: the same error -/
theorem tkN_long {N : Nat} {sh : List Shp} : ∀ {k k' : Nat} {l : List Ln}, l.length < k → l.length < k' → ∃ e, tkN N sh k l = .error e ∧ tkN N sh k' l = .error e
  | 0, _, _, h, _ => absurd h (Nat.not_lt_zero _)
  | _, 0, _, _, h => absurd h (Nat.not_lt_zero _)
  | k + 1, k' + 1, [], _, _ => ⟨(N, 0), rfl, rfl⟩
  | k + 1, k' + 1, x :: l, h, h' => by
    cases c : tk1 N sh (x :: l) with
    | error e => exact ⟨e, tkN_bad c, tkN_bad c⟩
    | ok y =>
      obtain ⟨us, l1⟩ := y
      obtain ⟨⟨m, el⟩, _⟩ := tk1_of c
      injection el with _ el
      subst el
      obtain ⟨e, h1, h2⟩ := tkN_long (N := N) (sh := sh) (k := k) (k' := k') (l := l) (by simp at h; omega) (by simp at h'; omega)
      exact ⟨e, by rw [tkN_ok c, h1]; rfl, by rw [tkN_ok c, h2]; rfl⟩
def dS : Du := (lS, [.name, .whole, .whole])
def dR (m : Nat) : Du := (lR, List.replicate m .whole)
def dC : Du := (lC, [.many])
def duA (N : Nat) : List Du := dC :: List.replicate N dS
def duB (M : Nat) : List Du := dC :: (List.replicate M dS ++ List.replicate M (dR M))
theorem nel_len : ∀ (n : Nat) (l : List (List Tk)), (nel n l).length ≤ l.length
  | _, [] => Nat.le_refl _
  | n, us :: r => by
    rw [nel]
    split
    · exact Nat.le_trans (nel_len (n + 1) r) (Nat.le_succ _)
    · exact Nat.succ_le_succ (nel_len (n + 1) r)
theorem fl_S {us : List Tk} (h : fl us 0 shS = none) : ∃ u1 u2 u3, us = [lS, u1, u2, u3] ∧ isWh 30 u2 = true ∧ isWh 30 u3 = true := by
  have hl := fl_len (Nat.zero_le _) h
  match us, hl with
  | [u0, u1, u2, u3], _ =>
    have a0 : ([u0, u1, u2, u3] : List Tk)[0]? = some u0 := rfl
    have a1 : ([u0, u1, u2, u3] : List Tk)[1]? = some u1 := rfl
    have a2 : ([u0, u1, u2, u3] : List Tk)[2]? = some u2 := rfl
    have a3 : ([u0, u1, u2, u3] : List Tk)[3]? = some u3 := rfl
    unfold shS at h
    cases c0 : (Shp.head lS).ok u0 with
    | false => rw [fl_no a0 c0] at h; cases h
    | true =>
      rw [fl_ok a0 c0] at h
      cases c1 : Shp.name.ok u1 with
      | false => rw [fl_no a1 c1] at h; cases h
      | true =>
        rw [fl_ok a1 c1] at h
        cases c2 : Shp.whole.ok u2 with
        | false => rw [fl_no a2 c2] at h; cases h
        | true =>
          rw [fl_ok a2 c2] at h
          cases c3 : Shp.whole.ok u3 with
          | false => rw [fl_no a3 c3] at h; cases h
          | true => exact ⟨u1, u2, u3, by rw [show u0 = lS from of_decide_eq_true c0], c2, c3⟩
theorem fl_W {us : List Tk} : ∀ {m j : Nat}, fl us j (List.replicate m .whole) = none → ∀ i, j ≤ i → ∀ u, us[i]? = some u → isWh 30 u = true
  | 0, j, h, i, hi, u, hu => by
    rcases Nat.lt_or_ge j us.length with c | c
    · rw [List.replicate_zero, fl_more c] at h; cases h
    · have := (List.getElem?_eq_some_iff.mp hu).1
      omega
  | m + 1, j, h, i, hi, u, hu => by
    rw [List.replicate_succ] at h
    cases e : us[j]? with
    | none => rw [fl_none e] at h; cases h
    | some v =>
      cases c : Shp.whole.ok v with
      | false => rw [fl_no e c] at h; cases h
      | true =>
        rw [fl_ok e c] at h
        by_cases q : i = j
        · subst q
          rw [hu] at e
          cases e
          exact c
        · exact fl_W h i (by omega) u hu
theorem fl_R {us : List Tk} {m : Nat} (h : fl us 0 (shR m) = none) : us.length = m + 1 ∧ ∀ w ∈ us.drop 1, isWh 30 w = true := by
  have hl := fl_len (Nat.zero_le _) h
  unfold shR at hl
  rw [List.length_cons, List.length_replicate] at hl
  refine ⟨by omega, fun w hw => ?_⟩
  obtain ⟨i, hi⟩ := List.mem_iff_getElem?.mp hw
  rw [List.getElem?_drop] at hi
  unfold shR at h
  cases e : us[0]? with
  | none => rw [fl_none e] at h; cases h
  | some v =>
    cases c : (Shp.head lR).ok v with
    | false => rw [fl_no e c] at h; cases h
    | true =>
      rw [fl_ok e c] at h
      exact fl_W h (1 + i) (by omega) w hi
theorem tkN_len {N : Nat} {sh : List Shp} : ∀ {k : Nat} {l l2 : List Ln} {uss : List (List Tk)}, tkN N sh k l = .ok (uss, l2) → uss.length = k
  | 0, _, _, _, h => by cases h; rfl
  | k + 1, l, l2, uss, h => by
    cases c : tk1 N sh l with
    | error e => rw [tkN_bad c] at h; cases h
    | ok x =>
      obtain ⟨us, l1⟩ := x
      rw [tkN_ok c] at h
      cases c2 : tkN N sh k l1 with
      | error e => rw [c2] at h; cases h
      | ok y =>
        obtain ⟨vss, l3⟩ := y
        rw [c2] at h
        have h : (Except.ok ([us] ++ vss, l3) : Rst _) = .ok (uss, l2) := h
        cases h
        rw [List.length_append, tkN_len c2, List.length_singleton]
        omega
/-- what a row of what is due tells, behind the first line -/
structure Tells (ls : List (List Tk)) (k : Nat) (Dt : List Du) (l1 : List Ln) : Prop where
  e : ∀ e, tkD ls.length Dt l1 = .error e → rdc ls = .error e
  o : ∀ uss, tkD ls.length Dt l1 = .ok (uss, []) → rdc ls = .ok ((uss.take k).map spotOf, (uss.drop k).map rowOf)
  x : ∀ uss m x l, tkD ls.length Dt l1 = .ok (uss, (m, x) :: l) → rdc ls = .error (m, 0)
theorem tells_A {ls : List (List Tk)} {m0 : Nat} {us0 : List Tk} {l1 : List Ln} (h : lf ls 0 = (m0, us0) :: l1) (fz : fl us0 0 shC = none) (hM : ls.length < (wholeVal (us0.getD 1 [])).toNat) : Tells ls ls.length (List.replicate ls.length dS) l1 := by
  have hl : l1.length < ls.length := by
    have := nel_len 0 (ls.drop 0)
    have h2 : nel 0 (ls.drop 0) = (m0, us0) :: l1 := h
    rw [h2, List.drop_zero, List.length_cons] at this
    omega
  obtain ⟨e, h1, h2⟩ := tkN_long (N := ls.length) (sh := Du.sh dS) (k := ls.length) (k' := (wholeVal (us0.getD 1 [])).toNat) hl (by omega)
  have hd : tkD ls.length (List.replicate ls.length dS) l1 = .error e := by
    have := tkD_rep (N := ls.length) (d := dS) (ds := []) ls.length l1
    rw [List.append_nil, h1] at this
    exact this
  have h3 : tkN ls.length shS (wholeVal (us0.getD 1 [])).toNat l1 = .error e := h2
  refine ⟨fun e' z => ?_, fun uss z => ?_, fun uss m x l z => ?_⟩
  · rw [hd] at z
    cases z
    simp only [rdc, h, tk1_good fz, h3]
  · rw [hd] at z; cases z
  · rw [hd] at z; cases z
theorem tells_B {ls : List (List Tk)} {m0 : Nat} {us0 : List Tk} {l1 : List Ln} (h : lf ls 0 = (m0, us0) :: l1) (fz : fl us0 0 shC = none) {M : Nat} (hM : (wholeVal (us0.getD 1 [])).toNat = M) : Tells ls M (List.replicate M dS ++ List.replicate M (dR M)) l1 := by
  have rep := tkD_rep (N := ls.length) (d := dS) (ds := List.replicate M (dR M)) M l1
  have rep2 := fun l2 => tkD_rep (N := ls.length) (d := dR M) (ds := []) M l2
  have s1 : tkN ls.length (Du.sh dS) M l1 = tkN ls.length shS M l1 := rfl
  have s2 : ∀ l2, tkN ls.length (Du.sh (dR M)) M l2 = tkN ls.length (shR M) M l2 := fun _ => rfl
  cases c : tkN ls.length shS M l1 with
  | error e =>
    rw [s1, c] at rep
    refine ⟨fun e' z => ?_, fun uss z => ?_, fun uss m x l z => ?_⟩
    · rw [rep] at z
      cases z
      simp only [rdc, h, tk1_good fz, hM, c]
    · rw [rep] at z; cases z
    · rw [rep] at z; cases z
  | ok x =>
    obtain ⟨ss, l2⟩ := x
    have sl := tkN_len c
    have r2 := rep2 l2
    rw [List.append_nil, s2] at r2
    rw [s1, c] at rep
    have rep : tkD ls.length (List.replicate M dS ++ List.replicate M (dR M)) l1 = app ss (tkD ls.length (List.replicate M (dR M)) l2) := rep
    rw [r2] at rep
    cases c2 : tkN ls.length (shR M) M l2 with
    | error e =>
      rw [c2] at rep
      have rep : tkD ls.length (List.replicate M dS ++ List.replicate M (dR M)) l1 = .error e := rep
      refine ⟨fun e' z => ?_, fun uss z => ?_, fun uss m x l z => ?_⟩
      · rw [rep] at z
        cases z
        simp only [rdc, h, tk1_good fz, hM, c, c2]
      · rw [rep] at z; cases z
      · rw [rep] at z; cases z
    | ok y =>
      obtain ⟨rs, l3⟩ := y
      rw [c2] at rep
      have rep : tkD ls.length (List.replicate M dS ++ List.replicate M (dR M)) l1 = .ok (ss ++ (rs ++ []), l3) := rep
      rw [List.append_nil] at rep
      refine ⟨fun e' z => ?_, fun uss z => ?_, fun uss m x l z => ?_⟩
      · rw [rep] at z; cases z
      · rw [rep] at z
        cases z
        simp only [rdc, h, tk1_good fz, hM, c, c2]
        rw [← sl, List.take_left, List.drop_left]
      · rw [rep] at z
        cases z
        simp only [rdc, h, tk1_good fz, hM, c, c2]
theorem fl_C {us : List Tk} (h : fl us 0 shC = none) : ∃ u, us = [lC, u] ∧ isWh 30 u = true ∧ 1 ≤ wholeVal u := by
  have hl := fl_len (Nat.zero_le _) h
  match us, hl with
  | [u0, u1], _ =>
    have a0 : ([u0, u1] : List Tk)[0]? = some u0 := rfl
    have a1 : ([u0, u1] : List Tk)[1]? = some u1 := rfl
    unfold shC at h
    cases c0 : (Shp.head lC).ok u0 with
    | false => rw [fl_no a0 c0] at h; cases h
    | true =>
      rw [fl_ok a0 c0] at h
      cases c1 : Shp.many.ok u1 with
      | false => rw [fl_no a1 c1] at h; cases h
      | true =>
        rw [many_ok, Bool.and_eq_true] at c1
        exact ⟨u1, by rw [show u0 = lC from of_decide_eq_true c0], c1.1, of_decide_eq_true c1.2⟩
end K52

set_option Elab.async false
set_option linter.all false
set_option maxRecDepth 100000
set_option maxHeartbeats 4000000
namespace K52
open PySem PySem.Spec PyProof.Rows L2 Ew
open SX (S)
theorem J_nil {us : List Tk} (h : us ≠ []) : J us = [] ↔ us = [[]] := by
  cases us with
  | nil => exact absurd rfl h
  | cons u us =>
    cases us with
    | nil =>
      rw [J_one]
      constructor
      · intro z; rw [z]
      · intro z; injection z
    | cons v us =>
      rw [J_cons (by simp)]
      constructor
      · intro z; simp at z
      · intro z; simp at z
theorem nel_eq : ∀ (n : Nat) (l : List (List Tk)), nel n l = ((List.range l.length).filter fun i => !decide (l.getD i [] = [[]])).map fun i => (n + i, l.getD i [])
  | _, [] => rfl
  | n, us :: r => by
    rw [nel, List.length_cons, List.range_succ_eq_map, List.filter_cons, List.filter_map, nel_eq (n + 1) r]
    have e0 : (us :: r).getD 0 [] = us := rfl
    have es : ((fun i => !decide ((us :: r).getD i [] = [[]])) ∘ Nat.succ) = fun i => !decide (r.getD i [] = [[]]) := rfl
    rw [e0, es]
    by_cases c : us = [[]]
    · rw [if_pos c, if_neg (by rw [decide_eq_true c]; decide), List.map_map]
      refine List.map_congr_left fun i _ => ?_
      show (n + 1 + i, r.getD i []) = (n + (i + 1), r.getD i [])
      rw [show n + 1 + i = n + (i + 1) by omega]
    · rw [if_neg c, if_pos (by rw [decide_eq_false c]; rfl), List.map_cons, List.map_map]
      congr 1
      refine List.map_congr_left fun i _ => ?_
      show (n + 1 + i, r.getD i []) = (n + (i + 1), r.getD i [])
      rw [show n + 1 + i = n + (i + 1) by omega]
/-- a numbered row of words; what is due -/
def LnV (K : PySem.W.Frag) (F : Hp) (v : V) (x : Ln) : Prop := ∃ q W, v = .ref q ∧ SqT K F q [.int (x.1 : Nat), .ref W] ∧ SqL K F W (tsL x.2)
def DuV (K : PySem.W.Frag) (F : Hp) (v : V) (d : Du) : Prop := ∃ q sh, v = .ref q ∧ SqT K F q [.str (S d.1), .ref sh] ∧ SqL K F sh (d.2.map shV)
theorem LnV.up {K : PySem.W.Frag} {F F' : Hp} {v : V} {x : Ln} (h : LnV K F v x) (e : Same F F') : LnV K F' v x := by
  obtain ⟨q, W, h1, h2, h3⟩ := h
  exact ⟨q, W, h1, upT e h2, upL e h3⟩
theorem DuV.up {K : PySem.W.Frag} {F F' : Hp} {v : V} {x : Du} (h : DuV K F v x) (e : Same F F') : DuV K F' v x := by
  obtain ⟨q, W, h1, h2, h3⟩ := h
  exact ⟨q, W, h1, upT e h2, upL e h3⟩
/-- a plain list of plain lists of ints -/
def Rws (K : PySem.W.Frag) (H : Hp) (B : Addr) (rs : List (List Int)) : Prop := ∃ ys, H B = some (.lst ys) ∧ Paired (fun v ws => ∃ q, v = V.ref q ∧ SqL K H q (ws.map V.int)) ys rs
theorem paired_len_app {α β : Type} {F : α → β → Prop} : ∀ {xs ys : List α} {zs ws : List β}, Paired F xs zs → Paired F ys ws → Paired F (xs ++ ys) (zs ++ ws)
  | [], _, [], _, .nil, h => h
  | _ :: _, _, _ :: _, _, .cons a b, h => .cons a (paired_len_app b h)
theorem paired_rep {α β : Type} {F : α → β → Prop} {x : α} {y : β} (h : F x y) : ∀ k : Nat, Paired F (List.replicate k x) (List.replicate k y)
  | 0 => .nil
  | k + 1 => .cons h (paired_rep h k)
def RowF (K : PySem.W.Frag) (F : Hp) (v : V) (ws : List Int) : Prop := ∃ q, v = .ref q ∧ SqL K F q (ws.map V.int)
/-- the loop behind its first turn -/
structure Ph1 (K : PySem.W.Frag) (ls : List (List Tk)) (F : Hp) (t : Nat) (D : List Du) (xs ys : List V) : Prop where
  ex : ∃ (m0 : Nat) (us0 : List Tk) (l1 : List Ln) (k r M : Nat) (uss : List (List Tk)), lf ls 0 = (m0, us0) :: l1 ∧ D = dC :: (List.replicate k dS ++ List.replicate r (dR M)) ∧ k ≤ 1000 ∧ r ≤ 1000 ∧ M ≤ 1000 ∧ Tells ls k (List.replicate k dS ++ List.replicate r (dR M)) l1 ∧
    t = 1 + uss.length ∧ t ≤ D.length ∧ t ≤ (lf ls 0).length ∧ tkD ls.length (List.replicate k dS ++ List.replicate r (dR M)) l1 = app uss (tkD ls.length (D.drop t) ((lf ls 0).drop t)) ∧
    Paired (fun v s => Spt K F v s) xs ((uss.take k).map spotOf) ∧ Paired (RowF K F) ys ((uss.drop k).map rowOf)
theorem nxt {D : Ends} {σ : L2.St} {H : Hp} (h : D.nx σ H) : tNext D σ H := h
theorem app_nil (x : Rst (List (List Tk) × List Ln)) : app [] x = x := by cases x <;> rfl
theorem flat_one {x : V} (n : Nat) : (List.replicate n [x]).flatten = List.replicate n x := List.flatten_replicate_singleton
theorem rt1 : ("spot" : Str) = S lS := eS
/-- F stays; two lists are written -/
structure Fz (F H : Hp) (A B : Addr) (xs ys : List V) : Prop where
  sf : Same F H
  fA : F A = none
  fB : F B = none
  hA : H A = some (.lst xs)
  hB : H B = some (.lst ys)
section
variable {F H H' : Hp} {A B p : Addr} {xs ys zs : List V} {o : HO}
theorem Fz.up (h : Fz F H A B xs ys) (e : Same H H') : Fz F H' A B xs ys := ⟨h.sf.trans e, h.fA, h.fB, e _ _ h.hA, e _ _ h.hB⟩
theorem Fz.new (h : Fz F H A B xs ys) (hp : H p = none) : Fz (upd F p o) (upd H p o) A B xs ys ∧ Same F (upd F p o) := by
  have pA : A ≠ p := fun z => by rw [← z, h.hA] at hp; cases hp
  have pB : B ≠ p := fun z => by rw [← z, h.hB] at hp; cases hp
  refine ⟨⟨fun b u e => ?_, by rw [upd_ne pA]; exact h.fA, by rw [upd_ne pB]; exact h.fB, by rw [upd_ne pA]; exact h.hA, by rw [upd_ne pB]; exact h.hB⟩, same_new (h.sf.free hp)⟩
  by_cases c : b = p
  · subst c; rw [upd_same] at e ⊢; exact e
  · rw [upd_ne c] at e ⊢; exact h.sf b u e
theorem Fz.frz (h : Fz F H A B xs ys) (fp : F p = none) (e : H p = some o) (pA : p ≠ A) (pB : p ≠ B) : Fz (upd F p o) H A B xs ys ∧ Same F (upd F p o) := by
  refine ⟨⟨fun b u z => ?_, by rw [upd_ne (Ne.symm pA)]; exact h.fA, by rw [upd_ne (Ne.symm pB)]; exact h.fB, h.hA, h.hB⟩, same_new fp⟩
  by_cases c : b = p
  · subst c; rw [upd_same] at z; cases z; exact e
  · rw [upd_ne c] at z; exact h.sf b u z
theorem Fz.setA (h : Fz F H A B xs ys) (ne : A ≠ B) : Fz F (upd H A (.lst zs)) A B zs ys := ⟨same_mut h.sf h.fA, h.fA, h.fB, upd_same, by rw [upd_ne (Ne.symm ne)]; exact h.hB⟩
theorem Fz.setB (h : Fz F H A B xs ys) (ne : A ≠ B) : Fz F (upd H B (.lst zs)) A B xs zs := ⟨same_mut h.sf h.fB, h.fA, h.fB, by rw [upd_ne ne]; exact h.hA, upd_same⟩
end
section
variable {P : Program} {w : World} {K : PySem.W.Frag} {mg : Str → Option Value} {base : Heap} {a : Ad}
def sp__law_read (K : PySem.W.Frag) : Sp := fun vs H Q _ => ∃ (p : Addr) (ls : List (List Tk)), vs = [.ref p] ∧ Lns K false H p ls ∧ LsOk ls ∧
  (∀ m i, rdc ls = .error (m, i) → ∀ H' q, Same H H' → H' q = some (.tup [.str "line", .int (m : Nat), .int (i : Nat)]) → Q (.ref q) H') ∧
  (∀ ps rs, rdc ls = .ok (ps, rs) → ∀ H' q A B, Same H H' → H' q = some (.tup [.str "card", .ref A, .ref B]) → Spl K H' A ps → Rws K H' B rs → Q (.ref q) H')
theorem c__law_read (T : Txt K mg a) : Cl P w K mg base 4 "_law_read" P__law_read (sp__law_read K) [] :=
  T.d__law_read.cl sc__law_read (fun vs H Q E h => by obtain ⟨p, ls, rfl, _⟩ := h; rfl) fun f cdv A outer s H vs Q E hr h => by
    obtain ⟨p, ls, rfl, hp, ok, ke, kg⟩ := h
    refine ⟨_, ((pss_cons (ps_setLc (i := 1) (own := [("_law_k", 10)]) (g := (gName 10)) (by rfl) sc__law_read.nd rfl rfl (sw_true rfl rfl rfl (by decide +kernel)) (pi_range1 (by rfl) T.n_range (pa_cons (pe_callB call_len_seq (by rfl) T.n_len (by decide +kernel) (pa_cons (pv 0) pa_nil)) pa_nil)) (blkOk_by (own := [("_law_k", 10)]) (N := N__law_read) (sc := defScope s__law_read) (by decide +kernel)) (fun _ _ _ _ _ => (pg_name (i := 10) sc__law_read.nd rfl (Or.inl rfl) (hf := .inr rfl))) (fun _ _ _ _ _ => (pts_one (pt_cmpR op_ne (pe_ix (r := rIxL K) ix_list (pv 0) (pv 10) (fun _ _ => rfl)) pe_str (nomark _)))) (fun _ _ _ _ _ => (pe_tup (pa_cons (pv 10) (pa_cons (pe_m1 PySem.F.slot_str_split PySem.F.type_str_split mt_split (pe_ix (r := rIxL K) ix_list (pv 0) (pv 10) (fun _ _ => rfl)) pe_str) pa_nil)))))
 (pss_cons (ps_set (i := 2) sc__law_read.nd rfl (Or.inl rfl) (pe_lst (pa_cons (pe_tup (pa_cons pe_str (pa_cons (pe_lst (pa_cons pe_str pa_nil)) pa_nil))) pa_nil)))
 (pss_cons (ps_set (i := 3) sc__law_read.nd rfl (Or.inl rfl) (pe_lst pa_nil))
 (pss_cons (ps_set (i := 4) sc__law_read.nd rfl (Or.inl rfl) (pe_lst pa_nil))
 (pss_cons (ps_set (i := 5) sc__law_read.nd rfl (Or.inl rfl) pe_int)
 (pss_cons (ps_while (passes_of rfl) (pt_cmpR op_lt (pv 5) (pe_callB call_len_seq (by rfl) T.n_len (by decide +kernel) (pa_cons (pv 2) pa_nil)) (nomark _))
 (pss_cons (ps_if (pt_cmpR op_ge (pv 5) (pe_callB call_len_seq (by rfl) T.n_len (by decide +kernel) (pa_cons (pv 1) pa_nil)) (nomark _))
 (pss_one (ps_ret (pe_tup (pa_cons pe_str (pa_cons (pe_callB call_len_seq (by rfl) T.n_len (by decide +kernel) (pa_cons (pv 0) pa_nil)) (pa_cons pe_int pa_nil))))))
 pss_nil)
 (pss_cons (ps_asg (pe_ix ix_list (pv 1) (pv 5) (fun _ _ => rfl)) (pg_tup rfl (pgs_cons (pg_name (i := 6) sc__law_read.nd rfl (Or.inl rfl)) (pgs_cons (pg_name (i := 7) sc__law_read.nd rfl (Or.inl rfl)) pgs_nil))))
 (pss_cons (ps_set (i := 8) sc__law_read.nd rfl (Or.inl rfl) (pe_f (c__law_fault_of T) (takes_of rfl rfl rfl rfl) hr (by decide) rfl (pa_cons (pv 7) (pa_cons (pe_ix ix_tup (pe_ix ix_list (pv 2) (pv 5) (fun _ _ => rfl)) pe_int (fun _ _ => rfl)) (pa_cons (pe_ix ix_tup (pe_ix ix_list (pv 2) (pv 5) (fun _ _ => rfl)) pe_int (fun _ _ => rfl)) pa_nil)))))
 (pss_cons (ps_if (pt_cmpR op_notN (pv 8) pe_non (nomark _))
 (pss_one (ps_ret (pe_tup (pa_cons pe_str (pa_cons (pv 6) (pa_cons (pv 8) pa_nil))))))
 pss_nil)
 (pss_cons (ps_if (pt_cmpR op_eq (pv 5) pe_int (nomark _))
 (pss_cons (ps_set (i := 9) sc__law_read.nd rfl (Or.inl rfl) (pe_f (c__law_whole T) (takes_of rfl rfl rfl rfl) hr (by decide) rfl (pa_cons (pe_ix ix_list (pv 7) pe_int (fun _ _ => rfl)) pa_nil)))
 (pss_one (ps_if (pt_cmpR op_gt (pv 9) (pe_callB call_len_seq (by rfl) T.n_len (by decide +kernel) (pa_cons (pv 0) pa_nil)) (nomark _))
 (pss_one (ps_set (i := 2) sc__law_read.nd rfl (Or.inl rfl) (pe_op op_cat (pv 2) (pe_op op_rep (pe_lst (pa_cons (pe_tup (pa_cons pe_str (pa_cons (pe_lst (pa_cons pe_str (pa_cons pe_str (pa_cons pe_str pa_nil)))) pa_nil))) pa_nil)) (pe_callB call_len_seq (by rfl) T.n_len (by decide +kernel) (pa_cons (pv 0) pa_nil))))))
 (pss_one (ps_set (i := 2) sc__law_read.nd rfl (Or.inl rfl) (pe_op op_cat (pe_op op_cat (pv 2) (pe_op op_rep (pe_lst (pa_cons (pe_tup (pa_cons pe_str (pa_cons (pe_lst (pa_cons pe_str (pa_cons pe_str (pa_cons pe_str pa_nil)))) pa_nil))) pa_nil)) (pv 9))) (pe_op op_rep (pe_lst (pa_cons (pe_tup (pa_cons pe_str (pa_cons (pe_op op_rep (pe_lst (pa_cons pe_str pa_nil)) (pv 9)) pa_nil))) pa_nil)) (pv 9))))))))
 (pss_one (ps_if (pt_cmpR op_eq (pe_ix ix_tup (pe_ix ix_list (pv 2) (pv 5) (fun _ _ => rfl)) pe_int (fun _ _ => rfl)) pe_str (nomark _))
 (pss_one (ps_expr (pe_bm PySem.F.plainAttrs_list PySem.F.slot_list_append PySem.F.type_list_append mt_append (pv 3) (pa_cons (pe_tup (pa_cons (pe_ix ix_list (pv 7) pe_int (fun _ _ => rfl)) (pa_cons (pe_f (c__law_whole T) (takes_of rfl rfl rfl rfl) hr (by decide) rfl (pa_cons (pe_ix ix_list (pv 7) pe_int (fun _ _ => rfl)) pa_nil)) (pa_cons (pe_f (c__law_whole T) (takes_of rfl rfl rfl rfl) hr (by decide) rfl (pa_cons (pe_ix ix_list (pv 7) pe_int (fun _ _ => rfl)) pa_nil)) pa_nil)))) pa_nil))))
 (pss_one (ps_expr (pe_bm PySem.F.plainAttrs_list PySem.F.slot_list_append PySem.F.type_list_append mt_append (pv 4) (pa_cons (pe_lc (own := [("_law_word", 11)]) (g := (gName 11)) (by rfl) sc__law_read.nd (pi_list (pe_slice sl_list (pv 7) (po_some pe_int) po_none)) (blkOk_by (own := [("_law_word", 11)]) (N := N__law_read) (sc := defScope s__law_read) (by decide +kernel)) (fun _ _ _ _ _ => (pg_name (i := 11) sc__law_read.nd rfl (Or.inl rfl) (hf := .inr rfl))) (fun _ _ _ _ _ => pts_nil) (fun _ _ _ _ _ => (pe_f (c__law_whole T) takes0 hr (by decide) rfl (pa_cons (pv 11) pa_nil)))) pa_nil)))))))
 (pss_one (ps_set (i := 5) sc__law_read.nd rfl (Or.inl rfl) (pe_op op_add (pv 5) pe_int)))))))))
 (pss_cons (ps_if (pt_cmpR op_gt (pe_callB call_len_seq (by rfl) T.n_len (by decide +kernel) (pa_cons (pv 1) pa_nil)) (pe_callB call_len_seq (by rfl) T.n_len (by decide +kernel) (pa_cons (pv 2) pa_nil)) (nomark _))
 (pss_one (ps_ret (pe_tup (pa_cons pe_str (pa_cons (pe_ix ix_tup (pe_ix ix_list (pv 1) (pe_callB call_len_seq (by rfl) T.n_len (by decide +kernel) (pa_cons (pv 2) pa_nil)) (fun _ _ => rfl)) pe_int (fun _ _ => rfl)) (pa_cons pe_int pa_nil))))))
 pss_nil)
 (pss_one (ps_ret (pe_tup (pa_cons pe_str (pa_cons (pv 3) (pa_cons (pv 4) pa_nil)))))))))))))), ?_⟩
    have hp : SqL K H p (ls.map jv) := hp
    have ml : (ls.map jv).length = ls.length := by rw [List.length_map]
    have N1 := ok.n
    refine seq_with (fun σ' H' => ∃ L vs, σ' = [some (.ref p), some (.ref L), none, none, none, none, none, none, none, none, none, none] ∧ Same H H' ∧ SqL K H' L vs ∧ Paired (LnV K H') vs (lf ls 0)) (fun u hu => ?_) ?_
    · refine ⟨_, rfl, p, _, rfl, .inl hp, _, rfl, by omega, by omega, fun D hD => ?_⟩
      rw [ml, show (((ls.length : Nat) : Int)).toNat = ls.length by omega]
      refine lcF walk_range (fun i => !decide (ls.getD i [] = [[]])) (.refl H) hD (fun i F y => LnV K F y (i, ls.getD i [])) (fun _ _ _ _ e z => z.up e) (by omega) (fun _ _ _ _ => trivial) ?_ ?_
      · rintro i x F' _ H2 Kt Kn hi s2 ⟨rfl, rfl⟩ kt kn
        have hus : ls[i]? = some ls[i] := List.getElem?_eq_getElem hi
        have gd : ls.getD i [] = ls[i] := by rw [List.getD_eq_getElem?_getD, hus]; rfl
        have wd := ok.wd (List.getElem_mem hi)
        rw [gd] at kt kn
        have at_ : atI (ls.map jv) ((0 : Int) + ((i : Nat) : Int)) = some (.str (S (J ls[i]))) := by
          rw [Int.zero_add]
          exact atI_nat (by rw [List.getElem?_map, hus]; rfl)
        have hp2 := upL (s2.ff.trans s2.fh) hp
        refine ⟨rfl, _, rfl, _, rfl, p, _, _, _, rfl, rfl, hp2, at_, rfl, _, rfl, ?_⟩
        rw [e0, S_dec, show decide (J ls[i] = []) = decide (ls[i] = [[]]) from decide_eq_decide.mpr (J_nil wd.ne)]
        by_cases c : ls[i] = [[]]
        · rw [decide_eq_true c] at kn ⊢
          exact iteF (kn rfl _ _ (.refl s2.fh))
        · rw [decide_eq_false c] at kt ⊢
          refine iteT ⟨_, rfl, _, rfl, _, rfl, p, _, _, _, rfl, rfl, hp2, at_, ⟨_, rfl⟩, _, _, rfl, rfl, by decide +kernel, by rw [SX.S_len, sizeLine_eq]; have := wd.len; omega, fun W hW => ⟨by show 2 ≤ sizeLine; decide, fun q hq => ?_⟩⟩
          rw [wd.split, tsS] at hq ⊢
          have s3 := ((Stm.refl s2.fh).newP (o := .lst (tsL ls[i])) hW)
          have s4 := s3.newP (o := .tup [.int ((0 : Int) + (i : Nat)), .ref W]) hq
          refine kt rfl _ _ _ s4 ⟨q, W, rfl, SqT.of ?_, SqL.of (same_new (s3.fh.free hq) _ _ upd_same)⟩
          rw [upd_same, Int.zero_add]
      · intro F' H2 ys s2 hD2 pr
        refine hu _ _ ⟨D, ys, rfl, s2.same, SqL.of (s2.fh _ _ hD2), ?_⟩
        have e : lf ls 0 = ((List.range ls.length).filter fun i => !decide (ls.getD i [] = [[]])).map fun i => (i, ls.getD i []) := by
          show nel 0 (ls.drop 0) = _
          rw [List.drop_zero, nel_eq]
          refine List.map_congr_left fun i _ => ?_
          rw [Nat.zero_add]
        rw [e]
        clear hD2
        generalize (List.range ls.length).filter (fun i => !decide (ls.getD i [] = [[]])) = zs at pr
        induction pr with
        | nil => exact .nil
        | cons h _ ih => exact .cons (h.up s2.fh) ih
    rintro _ H1 ⟨L, lv, rfl, e1, hL, prL⟩
    have lfl : (lf ls 0).length ≤ ls.length := by
      have := nel_len 0 (ls.drop 0)
      rw [List.drop_zero] at this
      exact this
    have lvl : lv.length = (lf ls 0).length := Paired.length prL
    refine ⟨by show 1 ≤ sizeLine; decide, fun m1 hm1 => ⟨by show 2 ≤ sizeLine; decide, fun t1 ht1 => ⟨by show 1 ≤ sizeLine; decide, fun d0 hd0 => ?_⟩⟩⟩
    have g1 := same_new (o := .lst [.str "many"]) hm1
    have g2 := same_new (o := .tup [.str "card", .ref m1]) ht1
    have g3 := same_new (o := .lst [.ref t1]) hd0
    have a1 : (upd (upd (upd H1 m1 (.lst [.str "many"])) t1 (.tup [.str "card", .ref m1])) d0 (.lst [.ref t1])) m1 = some (.lst [.str "many"]) := g3 _ _ (g2 _ _ upd_same)
    have a2 : (upd (upd (upd H1 m1 (.lst [.str "many"])) t1 (.tup [.str "card", .ref m1])) d0 (.lst [.ref t1])) t1 = some (.tup [.str "card", .ref m1]) := g3 _ _ upd_same
    have a3 : (upd (upd (upd H1 m1 (.lst [.str "many"])) t1 (.tup [.str "card", .ref m1])) d0 (.lst [.ref t1])) d0 = some (.lst [.ref t1]) := upd_same
    have e1' := g1.trans (g2.trans g3)
    refine gn ?_
    dsimp only
    generalize upd (upd (upd H1 m1 (.lst [.str "many"])) t1 (.tup [.str "card", .ref m1])) d0 (.lst [.ref t1]) = F0 at a1 a2 a3 e1'
    refine ⟨Nat.zero_le _, fun A hA => ?_⟩
    refine gn ?_
    dsimp only
    refine ⟨Nat.zero_le _, fun B hB => ?_⟩
    refine gn ?_
    dsimp only
    have AB : A ≠ B := fun z => by rw [← z, upd_same] at hB; cases hB
    have fB0 : F0 B = none := (same_new hA).free hB
    have sF : Same F0 (upd (upd F0 A (.lst [])) B (.lst [])) := same_mut (same_new hA) fB0
    have at_A : (upd (upd F0 A (.lst [])) B (.lst [])) A = some (.lst []) := by rw [upd_ne AB, upd_same]
    have at_B : (upd (upd F0 A (.lst [])) B (.lst [])) B = some (.lst []) := upd_same
    have e0F := e1.trans e1'
    have hp0 := upL e0F hp
    have hL0 := upL e1' hL
    have pr0 := Paired.mapP prL fun _ _ z => z.up e1'
    have du0 : Paired (DuV K F0) [V.ref t1] [dC] := .cons ⟨t1, m1, rfl, SqT.of (by rw [a2, eC]; rfl), SqL.of a1⟩ .nil
    generalize upd (upd F0 A (.lst [])) B (.lst []) = H5 at sF at_A at_B
    refine seq_asg (gn ?_)
    refine seq_in ?_
    refine ⟨fun k σ' H' => ∃ F t D d dv xs ys c6 c7 c8 c9, k = (lf ls 0).length + 1 - t ∧ σ' = [some (.ref p), some (.ref L), some (.ref d), some (.ref A), some (.ref B), some (.int (t : Nat)), c6, c7, c8, c9, none, none] ∧ Same F H' ∧ Same F0 F ∧ F A = none ∧ F B = none ∧ F d = some (.lst dv) ∧
      Paired (DuV K F) dv D ∧ H' A = some (.lst xs) ∧ H' B = some (.lst ys) ∧ ((t = 0 ∧ D = [dC] ∧ xs = [] ∧ ys = []) ∨ Ph1 K ls F t D xs ys), ?_, ?_⟩
    · exact ⟨_, F0, 0, [dC], d0, [.ref t1], [], [], none, none, none, none, rfl, rfl, sF, .refl _, hA, fB0, a3, du0, at_A, at_B, .inl ⟨rfl, rfl, rfl, rfl⟩⟩
    rintro k _ H6 ⟨F, t, D, d, dv, xs, ys, c6, c7, c8, c9, rfl, rfl, sF6, s06, fA, fB, hd6, pd6, hA6, hB6, ph⟩
    have dvl : dv.length = D.length := Paired.length pd6
    have hd6' : SqL K H6 d dv := SqL.of (sF6 _ _ hd6)
    have hL6 : SqL K H6 L lv := upL (s06.trans sF6) hL0
    have hp6 : SqL K H6 p (ls.map jv) := upL (s06.trans sF6) hp0
    have e06 : Same H H6 := e0F.trans (s06.trans sF6)
    refine ⟨_, rfl, _, rfl, d, _, rfl, .inl hd6', _, _, rfl, rfl, _, rfl, ?_⟩
    rw [dvl]
    by_cases c : t < D.length
    · refine iteY (decide_eq_true (by omega)) ⟨_, fun σ' H' z => z, ?_⟩
      refine ⟨_, rfl, _, rfl, L, _, rfl, .inl hL6, _, _, rfl, rfl, _, rfl, ?_⟩
      rw [lvl]
      -- what is due at t
      obtain ⟨dd, hdd⟩ : ∃ dd, D[t]? = some dd := ⟨_, List.getElem?_eq_getElem c⟩
      have dropD : D.drop t = dd :: D.drop (t + 1) := by
        obtain ⟨hl, e⟩ := List.getElem?_eq_some_iff.mp hdd
        rw [List.drop_eq_getElem_cons hl, e]
      have err : ∀ e, tk1 ls.length (Du.sh dd) ((lf ls 0).drop t) = .error e → rdc ls = .error e := by
        intro e he
        rcases ph with ⟨rfl, rfl, _, _⟩ | ⟨m0, us0, l1, k, r, M, uss, el, rfl, _, _, _, te, rfl, _, _, tk, _, _⟩
        · cases hdd
          rw [List.drop_zero] at he
          have he : tk1 ls.length shC (lf ls 0) = .error e := he
          simp only [rdc, he]
        · refine te.e e ?_
          rw [tk, dropD, tkD_bad he]
          rfl
      by_cases c2 : t < (lf ls 0).length
      · refine iteN (by rw [decide_eq_false (by omega)]; exact fun z => nomatch z) ?_
        obtain ⟨⟨m, us⟩, hx⟩ : ∃ x, (lf ls 0)[t]? = some x := ⟨_, List.getElem?_eq_getElem c2⟩
        have dropL : (lf ls 0).drop t = (m, us) :: (lf ls 0).drop (t + 1) := by
          obtain ⟨hl, e⟩ := List.getElem?_eq_some_iff.mp hx
          rw [List.drop_eq_getElem_cons hl, e]
        have ul : us ∈ ls := by
          have := List.mem_of_getElem? hx
          have h2 : (m, us) ∈ nel 0 (ls.drop 0) := this
          rw [List.drop_zero] at h2
          exact nel_mem h2
        have hlt : t < lv.length := by omega
        obtain ⟨x', hx', q, W, eq, hq, hW⟩ := paired_get pr0 (List.getElem?_eq_getElem hlt)
        rw [hx] at hx'
        cases hx'
        have atL : atI lv ((t : Nat) : Int) = some (.ref q) := atI_nat (by rw [List.getElem?_eq_getElem hlt, eq])
        have hdl : t < dv.length := by omega
        obtain ⟨dd', hdd', dq, dsh, edq, hdq, hdsh⟩ := paired_get pd6 (List.getElem?_eq_getElem hdl)
        rw [hdd] at hdd'
        cases hdd'
        have atd : atI dv ((t : Nat) : Int) = some (.ref dq) := atI_nat (by rw [List.getElem?_eq_getElem hdl, edq])
        have hq6 := upT (s06.trans sF6) hq
        have hW6 := upL (s06.trans sF6) hW
        have hdq6 := upT sF6 hdq
        have hdsh6 := upL sF6 hdsh
        have fz6 : Fz F H6 A B xs ys := ⟨sF6, fA, fB, hA6, hB6⟩
        refine ⟨_, rfl, _, rfl, L, _, t, .ref q, rfl, rfl, hL6, atL, ?_⟩
        refine ⟨q, _, rfl, hq6, rfl, _, _, rfl, _, _, rfl, rfl, ?_⟩
        have pl : (∀ s ∈ dd.2, s.Pl) ∧ dd.2.length ≤ 1000 := by
          rcases ph with ⟨rfl, rfl, _, _⟩ | ⟨m0, us0, l1, k, r, M, uss, el, rfl, k1, r1, M1, te, rfl, _, _, tk, _, _⟩
          · cases hdd
            exact ⟨fun s hs => by rw [List.mem_singleton.mp hs]; exact .inr (.inr rfl), by decide⟩
          · have : dd ∈ dC :: (List.replicate k dS ++ List.replicate r (dR M)) := List.mem_of_getElem? hdd
            rcases List.mem_cons.mp this with rfl | this
            · exact ⟨fun s hs => by rw [List.mem_singleton.mp hs]; exact .inr (.inr rfl), by decide⟩
            rcases List.mem_append.mp this with this | this
            · obtain rfl := List.eq_of_mem_replicate this
              refine ⟨fun s hs => ?_, by decide⟩
              unfold dS at hs
              simp only [List.mem_cons, List.not_mem_nil, or_false] at hs
              rcases hs with rfl | rfl | rfl
              · exact .inl rfl
              · exact .inr (.inl rfl)
              · exact .inr (.inl rfl)
            · obtain rfl := List.eq_of_mem_replicate this
              exact ⟨fun s hs => .inr (.inl (List.eq_of_mem_replicate hs)), by unfold dR; rw [List.length_replicate]; exact M1⟩
        refine ⟨_, rfl, _, rfl, _, rfl, d, _, t, .ref dq, rfl, rfl, hd6', atd, dq, _, 0, _, rfl, rfl, hdq6, rfl, _, rfl, _, rfl, d, _, t, .ref dq, rfl, rfl, hd6', atd, dq, _, 1, _, rfl, rfl, hdq6, rfl,
          W, dsh, us, dd.1, dd.2, rfl, hW6, hdsh6, ok.w us ul, by have := ok.ne us ul; omega, pl.2, pl.1, fun H7 e7 => ?_⟩
        refine gn ?_
        have fz7 := fz6.up e7
        have e07 := e06.trans e7
        have hW7 := upL e7 hW6
        cases hf : fl us 0 (.head dd.1 :: dd.2) with
        | some i =>
          refine ⟨_, rfl, rfl, true, rfl, iteT ⟨_, rfl, _, rfl, by show 3 ≤ sizeLine; decide, fun z hz => ?_⟩⟩
          have r0 := err (m, i) (by rw [dropL]; exact tk1_bad hf)
          exact ke _ _ r0 _ z (e07.trans (same_new hz)) upd_same
        | none =>
          refine ⟨_, rfl, rfl, false, rfl, iteF ?_⟩
          have good : tk1 ls.length (Du.sh dd) ((lf ls 0).drop t) = .ok (us, (lf ls 0).drop (t + 1)) := by rw [dropL]; exact tk1_good hf
          refine nxt ?_
          dsimp only
          refine seq_with (fun σ' H' => ∃ F' D' d' dv' xs' ys' c9, σ' = [some (.ref p), some (.ref L), some (.ref d'), some (.ref A), some (.ref B), some (.int (t : Nat)), some (.int (m : Nat)), some (.ref W), some .non, c9, none, none] ∧ Fz F' H' A B xs' ys' ∧ Same F F' ∧ F' d' = some (.lst dv') ∧ Paired (DuV K F') dv' D' ∧ Ph1 K ls F' (t + 1) D' xs' ys') (fun u hu => ?_) ?_
          · refine ⟨_, rfl, rfl, _, rfl, ?_⟩
            by_cases t0 : t = 0
            · subst t0
              refine iteY (decide_eq_true rfl) ?_
              rcases ph with ⟨_, rfl, rfl, rfl⟩ | ⟨_, _, _, _, _, _, _, _, _, _, _, _, _, z, _⟩
              rotate_left
              · exact absurd z (by omega)
              cases hdd
              have hf : fl us 0 shC = none := hf
              obtain ⟨u, rfl, wu, mu⟩ := fl_C hf
              obtain ⟨M, eM⟩ : ∃ M : Nat, wholeVal u = ((M : Nat) : Int) := ⟨(wholeVal u).toNat, by omega⟩
              have ev : whV u = .int ((M : Nat) : Int) := by unfold whV; rw [if_pos wu, eM]
              have eMt : (wholeVal (([lC, u] : List Tk).getD 1 [])).toNat = M := by show (wholeVal u).toNat = M; omega
              rw [List.drop_zero] at dropL
              have hp7 : SqL K H7 p (ls.map jv) := upL e7 hp6
              have sz := sizeLine_eq
              refine ⟨_, rfl, W, _, 1, _, rfl, rfl, hW7, rfl, u, rfl, ((ok.w _ ul) u (by simp)).le, ?_⟩
              rw [ev]
              refine gn ?_
              dsimp only
              refine ⟨_, rfl, _, rfl, p, _, rfl, .inl hp7, _, _, rfl, rfl, _, rfl, ?_⟩
              rw [ml]
              have fin : ∀ F5 H8 s5 dt k r M', Fz F5 H8 A B [] [] → Same F F5 → F5 s5 = some (.lst (dv ++ dt)) → Paired (DuV K F5) dt (List.replicate k dS ++ List.replicate r (dR M')) → k ≤ 1000 → r ≤ 1000 → M' ≤ 1000 → Tells ls k (List.replicate k dS ++ List.replicate r (dR M')) ((lf ls 0).drop 1) →
                  ∃ F' D' d' dv' xs' ys' c9, ([some (.ref p), some (.ref L), some (.ref s5), some (.ref A), some (.ref B), some (.int ((0 : Nat) : Int)), some (.int (m : Nat)), some (.ref W), some .non, some (.int ((M : Nat) : Int)), none, none] : L2.St) =
                    [some (.ref p), some (.ref L), some (.ref d'), some (.ref A), some (.ref B), some (.int ((0 : Nat) : Int)), some (.int (m : Nat)), some (.ref W), some .non, c9, none, none] ∧ Fz F' H8 A B xs' ys' ∧ Same F F' ∧ F' d' = some (.lst dv') ∧ Paired (DuV K F') dv' D' ∧ Ph1 K ls F' (0 + 1) D' xs' ys' :=
                fun F5 H8 s5 dt k r M' z g e pd hk hr hM te => ⟨F5, dC :: (List.replicate k dS ++ List.replicate r (dR M')), s5, dv ++ dt, [], [], _, rfl, z, g, e, paired_len_app (Paired.mapP pd6 fun _ _ y => y.up g) pd,
                  ⟨m, _, (lf ls 0).drop 1, k, r, M', [], dropL, rfl, hk, hr, hM, te, rfl, by rw [List.length_cons]; omega, c2, by rw [app_nil]; rfl, by rw [List.take_nil]; exact .nil, by rw [List.drop_nil]; exact .nil⟩⟩
              by_cases cm : ls.length < M
              · refine iteY (decide_eq_true (by omega)) ?_
                refine ⟨_, rfl, by show 3 ≤ sizeLine; decide, fun s1 hs1 => ⟨by show 2 ≤ sizeLine; decide, fun s2 hs2 => ⟨by show 1 ≤ sizeLine; decide, fun s3 hs3 => ?_⟩⟩⟩
                obtain ⟨z1, g1⟩ := fz7.new (o := .lst [.str "name", .str "whole", .str "whole"]) hs1
                obtain ⟨z2, g2⟩ := z1.new (o := .tup [.str "spot", .ref s1]) hs2
                obtain ⟨z3, g3⟩ := z2.new (o := .lst [.ref s2]) hs3
                have hp10 := upL ((s06.trans (g1.trans (g2.trans g3))).trans z3.sf) hp0
                refine ⟨_, rfl, p, _, rfl, .inl hp10, s3, _, _, rfl, rfl, upd_same, by rw [ml]; omega, by rw [ml]; omega, by rw [ml]; show 1 * _ ≤ _; omega, fun s4 hs4 => ?_⟩
                have er : (List.replicate ((((ls.map jv).length : Nat) : Int)).toNat [V.ref s2]).flatten = List.replicate ls.length (.ref s2) := by
                  rw [ml, show (((ls.length : Nat) : Int)).toNat = ls.length by omega, flat_one]
                rw [er]
                obtain ⟨z4, g4⟩ := z3.new (o := .lst (List.replicate ls.length (V.ref s2))) hs4
                refine ⟨d, s4, dv, _, rfl, rfl, z4.sf _ _ ((g1.trans (g2.trans (g3.trans g4))) _ _ hd6), upd_same, by rw [List.length_replicate, dvl]; show 1 + _ ≤ _; omega, fun s5 hs5 => ?_⟩
                obtain ⟨z5, g5⟩ := z4.new (o := .lst (dv ++ List.replicate ls.length (V.ref s2))) hs5
                have g15 := g1.trans (g2.trans (g3.trans (g4.trans g5)))
                have du5 : DuV K (upd (upd (upd (upd (upd F s1 (.lst [.str "name", .str "whole", .str "whole"])) s2 (.tup [.str "spot", .ref s1])) s3 (.lst [.ref s2])) s4 (.lst (List.replicate ls.length (V.ref s2)))) s5 (.lst (dv ++ List.replicate ls.length (V.ref s2)))) (.ref s2) dS := by
                  refine ⟨s2, s1, rfl, SqT.of ?_, SqL.of ?_⟩
                  · have h := (g3.trans (g4.trans g5)) _ _ upd_same
                    rw [eS] at h ⊢
                    exact h
                  · exact (g2.trans (g3.trans (g4.trans g5))) _ _ upd_same
                refine hu _ _ (fin _ _ s5 _ ls.length 0 0 z5 g15 upd_same (by rw [List.replicate_zero, List.append_nil]; exact paired_rep du5 ls.length) N1 (by decide) (by decide) ?_)
                have := tells_A (ls := ls) (l1 := (lf ls 0).drop 1) dropL hf (by rw [eMt]; exact cm)
                rw [List.replicate_zero, List.append_nil]
                exact this
              · refine iteN (by rw [decide_eq_false (by omega)]; exact fun z => nomatch z) ?_
                refine ⟨_, rfl, by show 3 ≤ sizeLine; decide, fun s1 hs1 => ⟨by show 2 ≤ sizeLine; decide, fun s2 hs2 => ⟨by show 1 ≤ sizeLine; decide, fun s3 hs3 => ?_⟩⟩⟩
                obtain ⟨z1, g1⟩ := fz7.new (o := .lst [.str "name", .str "whole", .str "whole"]) hs1
                obtain ⟨z2, g2⟩ := z1.new (o := .tup [.str "spot", .ref s1]) hs2
                obtain ⟨z3, g3⟩ := z2.new (o := .lst [.ref s2]) hs3
                have mn : (((M : Nat) : Int)).toNat = M := by omega
                have er : (List.replicate (((M : Nat) : Int)).toNat [V.ref s2]).flatten = List.replicate M (.ref s2) := by rw [mn, flat_one]
                refine ⟨_, rfl, s3, _, _, rfl, rfl, upd_same, by omega, by omega, by rw [mn]; show 1 * _ ≤ _; omega, fun s4 hs4 => ?_⟩
                rw [er]
                obtain ⟨z4, g4⟩ := z3.new (o := .lst (List.replicate M (V.ref s2))) hs4
                refine ⟨d, s4, dv, _, rfl, rfl, z4.sf _ _ ((g1.trans (g2.trans (g3.trans g4))) _ _ hd6), upd_same, by rw [List.length_replicate, dvl]; show 1 + _ ≤ _; omega, fun s5 hs5 => ?_⟩
                obtain ⟨z5, g5⟩ := z4.new (o := .lst (dv ++ List.replicate M (V.ref s2))) hs5
                have g15 := g1.trans (g2.trans (g3.trans (g4.trans g5)))
                have du5 : DuV K (upd (upd (upd (upd (upd F s1 (.lst [.str "name", .str "whole", .str "whole"])) s2 (.tup [.str "spot", .ref s1])) s3 (.lst [.ref s2])) s4 (.lst (List.replicate M (V.ref s2)))) s5 (.lst (dv ++ List.replicate M (V.ref s2)))) (.ref s2) dS := by
                  refine ⟨s2, s1, rfl, SqT.of ?_, SqL.of ?_⟩
                  · have h := (g3.trans (g4.trans g5)) _ _ upd_same
                    rw [eS] at h ⊢
                    exact h
                  · exact (g2.trans (g3.trans (g4.trans g5))) _ _ upd_same
                have l5 : (upd (upd (upd (upd (upd F s1 (.lst [.str "name", .str "whole", .str "whole"])) s2 (.tup [.str "spot", .ref s1])) s3 (.lst [.ref s2])) s4 (.lst (List.replicate M (V.ref s2)))) s5 (.lst (dv ++ List.replicate M (V.ref s2)))) s5 = some (.lst (dv ++ List.replicate M (V.ref s2))) := upd_same
                generalize upd (upd (upd (upd (upd F s1 (.lst [.str "name", .str "whole", .str "whole"])) s2 (.tup [.str "spot", .ref s1])) s3 (.lst [.ref s2])) s4 (.lst (List.replicate M (V.ref s2)))) s5 (.lst (dv ++ List.replicate M (V.ref s2))) = F5 at z5 g15 du5 l5
                generalize upd (upd (upd (upd (upd H7 s1 (.lst [.str "name", .str "whole", .str "whole"])) s2 (.tup [.str "spot", .ref s1])) s3 (.lst [.ref s2])) s4 (.lst (List.replicate M (V.ref s2)))) s5 (.lst (dv ++ List.replicate M (V.ref s2))) = H8 at z5
                clear z1 z2 z3 z4 g1 g2 g3 g4 g5 hs1 hs2 hs3 hs4 hs5
                refine ⟨by show 1 ≤ sizeLine; decide, fun s6 hs6 => ?_⟩
                obtain ⟨z6, g6⟩ := z5.new (o := .lst [.str "whole"]) hs6
                have er2 : (List.replicate (((M : Nat) : Int)).toNat [V.str "whole"]).flatten = List.replicate M (.str "whole") := by rw [mn, flat_one]
                refine ⟨_, rfl, s6, _, _, rfl, rfl, upd_same, by omega, by omega, by rw [mn]; show 1 * _ ≤ _; omega, fun s7 hs7 => ?_⟩
                rw [er2]
                obtain ⟨z7, g7⟩ := z6.new (o := .lst (List.replicate M (V.str "whole"))) hs7
                refine ⟨by show 2 ≤ sizeLine; decide, fun s8 hs8 => ⟨by show 1 ≤ sizeLine; decide, fun s9 hs9 => ?_⟩⟩
                obtain ⟨z8, g8⟩ := z7.new (o := .tup [.str "row", .ref s7]) hs8
                obtain ⟨z9, g9⟩ := z8.new (o := .lst [.ref s8]) hs9
                have er3 : (List.replicate (((M : Nat) : Int)).toNat [V.ref s8]).flatten = List.replicate M (.ref s8) := by rw [mn, flat_one]
                refine ⟨_, rfl, s9, _, _, rfl, rfl, upd_same, by omega, by omega, by rw [mn]; show 1 * _ ≤ _; omega, fun s10 hs10 => ?_⟩
                rw [er3]
                obtain ⟨z10, g10⟩ := z9.new (o := .lst (List.replicate M (V.ref s8))) hs10
                have g610 := g6.trans (g7.trans (g8.trans (g9.trans g10)))
                refine ⟨s5, s10, _, _, rfl, rfl, z10.sf _ _ (g610 _ _ l5), upd_same, by rw [List.length_append, List.length_replicate, List.length_replicate, dvl]; show 1 + _ + _ ≤ _; omega, fun s11 hs11 => ?_⟩
                rw [List.append_assoc]
                obtain ⟨z11, g11⟩ := z10.new (o := .lst (dv ++ (List.replicate M (V.ref s2) ++ List.replicate M (V.ref s8)))) hs11
                refine hu _ _ (fin _ _ s11 _ M M M z11 (g15.trans (g610.trans g11)) upd_same (paired_len_app (paired_rep (du5.up (g610.trans g11)) M) (paired_rep (x := V.ref s8) (y := dR M) ⟨s8, s7, rfl, SqT.of ?_, SqL.of ?_⟩ M)) (by omega) (by omega) (by omega) (tells_B (ls := ls) (l1 := (lf ls 0).drop 1) dropL hf eMt))
                · have h := (g9.trans (g10.trans g11)) _ _ upd_same
                  rw [eR] at h ⊢
                  exact h
                · have h := (g8.trans (g9.trans (g10.trans g11))) _ _ upd_same
                  have e : (dR M).2.map shV = List.replicate M (V.str "whole") := by unfold dR; rw [List.map_replicate]; rfl
                  rw [e]
                  exact h
            · refine iteN (by rw [decide_eq_false (by intro z; injection z with z; omega)]; decide) ?_
              rcases ph with ⟨rfl, _⟩ | ⟨m0, us0, l1, k, r, M, uss, el, rfl, k1, r1, M1, te, rfl, tD, tL, tk, px, py⟩
              · exact absurd rfl t0
              have hX : (List.replicate k dS ++ List.replicate r (dR M))[uss.length]? = some dd := by
                rw [Nat.add_comm] at hdd
                exact hdd
              have tk' : tkD ls.length (List.replicate k dS ++ List.replicate r (dR M)) l1 = app (uss ++ [us]) (tkD ls.length ((dC :: (List.replicate k dS ++ List.replicate r (dR M))).drop (1 + uss.length + 1)) ((lf ls 0).drop (1 + uss.length + 1))) := by
                rw [tk, dropD, tkD_ok good, app_app]
              have tE : 1 + uss.length + 1 = 1 + (uss ++ [us]).length := by rw [List.length_append, List.length_singleton]; omega
              have hd7' := upL e7 hd6'
              have hdq7 := upT e7 hdq6
              have lx : xs.length ≤ 1000 := by have := Paired.length px; rw [List.length_map, List.length_take] at this; omega
              have ly : ys.length ≤ 2000 := by
                have := Paired.length py
                rw [List.length_map, List.length_drop] at this
                rw [List.length_cons, List.length_append, List.length_replicate, List.length_replicate] at tD
                omega
              have sz := sizeLine_eq
              refine ⟨_, rfl, _, rfl, d, _, ((1 + uss.length : Nat) : Int), .ref dq, rfl, rfl, hd7', atd, dq, _, 0, _, rfl, rfl, hdq7, rfl, rfl, _, rfl, ?_⟩
              rw [eS, S_dec]
              by_cases c3 : uss.length < k
              · have ed : dd = dS := by
                  rw [List.getElem?_append_left (by rw [List.length_replicate]; exact c3), List.getElem?_replicate, if_pos c3] at hX
                  exact (Option.some.inj hX).symm
                subst ed
                obtain ⟨u1, u2, u3, rfl, w2, w3⟩ := fl_S hf
                refine iteY (decide_eq_true rfl) ?_
                have tk2 := (ok.w _ ul) u2 (by simp)
                have tk3 := (ok.w _ ul) u3 (by simp)
                have ev2 : whV u2 = .int (wholeVal u2) := by unfold whV; rw [if_pos w2]
                have ev3 : whV u3 = .int (wholeVal u3) := by unfold whV; rw [if_pos w3]
                refine ⟨_, rfl, .inl ⟨rfl, _, SqL.of fz7.hA⟩, _, rfl, W, _, 1, _, rfl, rfl, hW7, rfl, _, rfl, W, _, 2, _, rfl, rfl, hW7, rfl, u2, rfl, tk2.le, ?_⟩
                rw [ev2]
                refine ⟨_, rfl, W, _, 3, _, rfl, rfl, hW7, rfl, u3, rfl, tk3.le, ?_⟩
                rw [ev3]
                refine ⟨by show 3 ≤ sizeLine; decide, fun q2 hq2 => ?_⟩
                obtain ⟨z1, g1⟩ := fz7.new (o := .tup [.str (S u1), .int (wholeVal u2), .int (wholeVal u3)]) hq2
                refine ⟨A, xs, _, rfl, rfl, z1.hA, by omega, ?_⟩
                have tkx : (uss ++ [[lS, u1, u2, u3]]).take k = uss.take k ++ [[lS, u1, u2, u3]] := by
                  rw [List.take_of_length_le (by rw [List.length_append, List.length_singleton]; omega), List.take_of_length_le (by omega)]
                have dky : (uss ++ [[lS, u1, u2, u3]]).drop k = uss.drop k := by
                  rw [List.drop_eq_nil_of_le (by rw [List.length_append, List.length_singleton]; omega), List.drop_eq_nil_of_le (by omega)]
                refine hu _ _ ⟨_, dC :: (List.replicate k dS ++ List.replicate r (dR M)), d, dv, xs ++ [.ref q2], ys, _, rfl, z1.setA AB, g1, g1 _ _ hd6, Paired.mapP pd6 fun _ _ y => y.up g1,
                  ⟨m0, us0, l1, k, r, M, uss ++ [[lS, u1, u2, u3]], el, rfl, k1, r1, M1, te, tE, by omega, c2, tk', ?_, ?_⟩⟩
                · rw [tkx, List.map_append]
                  exact Paired.snoc (Paired.mapP px fun _ _ y => y.up g1) ⟨q2, rfl, upd_same⟩
                · rw [dky]
                  exact Paired.mapP py fun _ _ ⟨q, z1, z2⟩ => ⟨q, z1, upL g1 z2⟩
              · have ed : dd = dR M := by
                  rw [List.getElem?_append_right (by rw [List.length_replicate]; omega)] at hX
                  exact List.eq_of_mem_replicate (List.mem_of_getElem? hX)
                subst ed
                obtain ⟨rl, rw_⟩ := fl_R hf
                refine iteN (by rw [decide_eq_false (show ¬ (dR M).1 = lS from by show ¬ lR = lS; decide)]; decide) ?_
                refine ⟨_, rfl, .inl ⟨rfl, _, SqL.of fz7.hB⟩, _, rfl, _, rfl, W, _, rfl, hW7, fun q1 hq1 => ?_⟩
                have ec : cutV (tsL us) (some ((1 : Nat) : Int)) none = tsL (us.drop 1) := by
                  rw [cut_from _ (by rw [tsL_len]; omega)]
                  unfold tsL
                  rw [List.map_drop]
                have ec' : cutV (tsL us) (some (1 : Int)) none = tsL (us.drop 1) := ec
                rw [ec']
                have g1 := same_new (o := .lst (tsL (us.drop 1))) hq1
                have fz8 := fz7.up g1
                have hq8 : SqL K (upd H7 q1 (.lst (tsL (us.drop 1)))) q1 (tsL (us.drop 1)) := SqL.of upd_same
                generalize upd H7 q1 (.lst (tsL (us.drop 1))) = H8 at g1 fz8 hq8
                refine ⟨q1, rfl, ⟨_, hq8⟩, fun D3 hD3 => ?_⟩
                refine lcM memP (walk_list (a := q1) (xs := tsL (us.drop 1))) (.refl H8) trivial hD3 (fun i _ y => ∃ w, (us.drop 1)[i]? = some w ∧ y = V.int (wholeVal w)) (fun _ _ _ _ _ z => z) (by rw [tsL_len, List.length_drop]; have := ok.ne us ul; omega) (fun F' H' y1 y2 => upL y2 (upL y1 hq8)) ?_ ?_
                · rintro i y F' _ H9 Kt Kn hi s9 _ ⟨rfl, hy⟩ kk
                  unfold tsL at hy
                  rw [List.getElem?_map] at hy
                  obtain ⟨w, hw, rfl⟩ := Option.map_eq_some_iff.mp hy
                  have hm := List.mem_of_getElem? hw
                  have hw30 := rw_ w hm
                  have ev : whV w = .int (wholeVal w) := by unfold whV; rw [if_pos hw30]
                  refine ⟨rfl, lc_yes ⟨_, rfl, w, rfl, (ok.w _ ul w (List.mem_of_mem_drop hm)).le, ?_⟩⟩
                  rw [ev]
                  exact kk _ _ _ (.refl s9.fh) trivial ⟨w, hw, rfl⟩
                intro F9 H9 zs s9 _ hD9 hz hr9
                rw [tsL_len] at hz
                have ez : zs = (rowOf us).map V.int := by
                  obtain rfl := map_of (f := fun w => V.int (wholeVal w)) hz hr9
                  unfold rowOf
                  rw [List.map_map]
                  rfl
                have fz9 := fz8.up s9.same
                have hD9' := s9.fh _ _ hD9
                have dA : D3 ≠ A := fun z => by rw [z, fz8.hA] at hD3; cases hD3
                have dB : D3 ≠ B := fun z => by rw [z, fz8.hB] at hD3; cases hD3
                obtain ⟨z10, g10⟩ := fz9.frz (fz8.sf.free hD3) hD9' dA dB
                refine ⟨B, ys, _, rfl, rfl, z10.hB, by omega, ?_⟩
                have tkx : (uss ++ [us]).take k = uss.take k := List.take_append_of_le_length (by omega)
                have dky : (uss ++ [us]).drop k = uss.drop k ++ [us] := List.drop_append_of_le_length (by omega)
                refine hu _ _ ⟨_, dC :: (List.replicate k dS ++ List.replicate r (dR M)), d, dv, xs, ys ++ [.ref D3], _, rfl, z10.setB AB, g10, g10 _ _ hd6, Paired.mapP pd6 fun _ _ y => y.up g10,
                  ⟨m0, us0, l1, k, r, M, uss ++ [us], el, rfl, k1, r1, M1, te, tE, by omega, c2, tk', ?_, ?_⟩⟩
                · rw [tkx]
                  exact Paired.mapP px fun _ _ y => y.up g10
                · rw [dky, List.map_append]
                  refine paired_len_app (Paired.mapP py fun _ _ ⟨q, z1, z2⟩ => ⟨q, z1, upL g10 z2⟩) (.cons ⟨D3, rfl, SqL.of ?_⟩ .nil)
                  rw [upd_same, ez]
          rintro _ H8 ⟨F', D', d', dv', xs', ys', c9, rfl, fz8, s8, hd8, pd8, ph8⟩
          refine ⟨_, rfl, _, _, rfl, rfl, ?_⟩
          refine ⟨_, (by omega : (lf ls 0).length + 1 - (t + 1) < (lf ls 0).length + 1 - t), F', t + 1, D', d', dv', xs', ys', _, _, _, _, rfl, rfl, fz8.sf, s06.trans s8, fz8.fA, fz8.fB, hd8, pd8, fz8.hA, fz8.hB, .inr ph8⟩
      · refine iteY (decide_eq_true (by omega)) ?_
        have dn : (lf ls 0).drop t = [] := List.drop_eq_nil_of_le (by omega)
        have r0 := err (ls.length, 0) (by rw [dn]; rfl)
        refine ⟨_, rfl, p, _, rfl, .inl hp6, by show 3 ≤ sizeLine; decide, fun q hq => ?_⟩
        exact ke _ _ r0 _ q (e06.trans (same_new hq)) (by rw [upd_same, ml]; rfl)
    · refine iteN (by rw [decide_eq_false (by omega)]; exact fun z => nomatch z) ?_
      rcases ph with ⟨rfl, rfl, _, _⟩ | ⟨m0, us0, l1, k, r, M, uss, el, rfl, _, _, _, te, rfl, tD, tL, tk, px, py⟩
      · exact absurd (show 0 < [dC].length by decide) c
      generalize 1 + uss.length = t at *
      have dn : (dC :: (List.replicate k dS ++ List.replicate r (dR M))).drop t = [] := List.drop_eq_nil_of_le (by omega)
      rw [dn] at tk
      have tk : tkD ls.length (List.replicate k dS ++ List.replicate r (dR M)) l1 = .ok (uss, (lf ls 0).drop t) := by
        rw [tk]
        show Except.ok (uss ++ [], (lf ls 0).drop t) = _
        rw [List.append_nil]
      have tt : t = (dC :: (List.replicate k dS ++ List.replicate r (dR M))).length := by omega
      refine ⟨_, rfl, L, _, rfl, .inl hL6, _, rfl, d, _, rfl, .inl hd6', _, _, rfl, rfl, _, rfl, ?_⟩
      rw [lvl, dvl]
      by_cases c3 : t < (lf ls 0).length
      · refine iteY (decide_eq_true (by omega)) ?_
        obtain ⟨⟨m, us⟩, hx⟩ : ∃ x, (lf ls 0)[t]? = some x := ⟨_, List.getElem?_eq_getElem c3⟩
        have dropL : (lf ls 0).drop t = (m, us) :: (lf ls 0).drop (t + 1) := by
          obtain ⟨hl, e⟩ := List.getElem?_eq_some_iff.mp hx
          rw [List.drop_eq_getElem_cons hl, e]
        rw [dropL] at tk
        have r0 := te.x _ _ _ _ tk
        have hlt : t < lv.length := by omega
        obtain ⟨x', hx', q, W, eq, hq, hW⟩ := paired_get pr0 (List.getElem?_eq_getElem hlt)
        rw [hx] at hx'
        cases hx'
        have atL : atI lv ((dv.length : Nat) : Int) = some (.ref q) := atI_nat (by rw [dvl, ← tt, List.getElem?_eq_getElem hlt, eq])
        have hq6 := upT (s06.trans sF6) hq
        refine ⟨_, rfl, _, rfl, d, _, rfl, .inl hd6', L, _, _, .ref q, rfl, rfl, hL6, atL, q, _, 0, _, rfl, rfl, hq6, rfl, by show 3 ≤ sizeLine; decide, fun z hz => ?_⟩
        exact ke _ _ r0 _ z (e06.trans (same_new hz)) upd_same
      · refine iteN (by rw [decide_eq_false (by omega)]; exact fun z => nomatch z) ?_
        rw [List.drop_eq_nil_of_le (by omega : (lf ls 0).length ≤ t)] at tk
        have r0 := te.o _ tk
        refine ⟨_, rfl, _, rfl, by show 3 ≤ sizeLine; decide, fun z hz => ?_⟩
        have g1 := same_new (o := .tup [.str "card", .ref A, .ref B]) hz
        refine kg _ _ r0 _ z A B (e06.trans g1) upd_same ⟨xs, g1 _ _ hA6, Paired.mapP px fun _ _ y => y.up (sF6.trans g1)⟩ ⟨ys, g1 _ _ hB6, Paired.mapP py fun _ _ ⟨q, z1, z2⟩ => ⟨q, z1, upL (sF6.trans g1) z2⟩⟩
end
end K52

set_option Elab.async false
set_option linter.all false
set_option maxRecDepth 100000
set_option maxHeartbeats 4000000
namespace K52
open PySem PySem.Spec PyProof.Rows L2 Ew
open SX (S)
section
variable {P : Program} {w : World} {K : PySem.W.Frag} {mg : Str → Option Value} {base : Heap} {a : Ad}
theorem paired_take {α β : Type} {F : α → β → Prop} : ∀ {xs : List α} {ys : List β} (n : Nat), Paired F xs ys → Paired F (xs.take n) (ys.take n)
  | _, _, 0, _ => by rw [List.take_zero, List.take_zero]; exact .nil
  | [], [], n + 1, .nil => .nil
  | _ :: _, _ :: _, n + 1, .cons a b => .cons a (paired_take n b)
theorem Rws.up {H H' : Hp} {B : Addr} {rs : List (List Int)} (h : Rws K H B rs) (e : Same H H') : Rws K H' B rs := by
  obtain ⟨ys, h1, h2⟩ := h
  exact ⟨ys, e _ _ h1, Paired.mapP h2 fun _ _ ⟨q, z1, z2⟩ => ⟨q, z1, upL e z2⟩⟩
/-- rows.. [i][j] -/
theorem Rws.at_ {H : Hp} {B : Addr} {rs : List (List Int)} {n i j : Nat} (h : Rws K H B rs) (hn : rs.length = n) (hr : ∀ r ∈ rs, r.length = n) (hi : i < n) (hj : j < n) :
    ∃ ys q xs, SqL K H B ys ∧ atI ys ((i : Nat) : Int) = some (.ref q) ∧ SqL K H q xs ∧ atI xs ((j : Nat) : Int) = some (.int (tbl rs i j)) := by
  obtain ⟨ys, h1, h2⟩ := h
  have yl := Paired.length h2
  have hi2 : i < ys.length := by omega
  obtain ⟨r, hr1, q, eq, hq⟩ := paired_get h2 (List.getElem?_eq_getElem hi2)
  have rl := hr r (List.mem_of_getElem? hr1)
  refine ⟨ys, q, r.map V.int, SqL.of h1, atI_nat (by rw [List.getElem?_eq_getElem hi2, eq]), hq, atI_nat ?_⟩
  have hj2 : j < r.length := by omega
  rw [List.getElem?_map, List.getElem?_eq_getElem hj2]
  unfold tbl
  rw [List.getD_eq_getElem?_getD (l := rs), hr1]
  show some (V.int r[j]) = some (V.int (r.getD j 0))
  rw [List.getD_eq_getElem?_getD, List.getElem?_eq_getElem hj2]
  rfl
def sp__law_place_of (K : PySem.W.Frag) : Sp := fun vs H Q _ => ∃ (A B : Addr) (ps : List Spot) (rs : List (List Int)), vs = [.ref A, .ref B] ∧ Spl K H A ps ∧ Rws K H B rs ∧ 0 < ps.length ∧ ps.length ≤ 1000 ∧ (∀ s ∈ ps, PyData.strOk s.1 = true) ∧ rs.length = ps.length ∧ (∀ r ∈ rs, r.length = ps.length) ∧
  (∀ z, Flaw ps (tbl rs) z → ∀ H', Same H H' → Q (.int z) H') ∧ (OkS ps → Cld ps.length (tbl rs) → ∀ H', Same H H' → Q .non H')
theorem c__law_place_of (T : Txt K mg a) : Cl P w K mg base 2 "_law_place_of" P__law_place_of (sp__law_place_of K) [] :=
  T.d__law_place_of.cl sc__law_place_of (fun vs H Q E h => by obtain ⟨A, B, ps, rs, rfl, _⟩ := h; rfl) fun f cdv A outer s H vs Q E hr h => by
    obtain ⟨A, B, ps, rs, rfl, hA, hB, pos, le, sk, rn, rl, kf, kg⟩ := h
    refine ⟨_, ((pss_cons (ps_for (passes_of rfl) rfl (pi_range1 (by rfl) T.n_range (pa_cons (pe_callB call_len_seq (by rfl) T.n_len (by decide +kernel) (pa_cons (pv 0) pa_nil)) pa_nil)) (pg_name (i := 2) sc__law_place_of.nd rfl (Or.inl rfl))
 (pss_one (ps_if (PW.pt (pw_or (pt_cmpR (op_inD (units5 hr)) (pe_ix ix_list (pv 0) (pv 2) (fun _ _ => rfl)) (pe_slice sl_list (pv 0) po_none (po_some (pv 2))) (by rfl)) (pw_or1 (PW.pt (pw_and (pt_cmpR op_eq (pv 2) pe_int (nomark _)) (pw_and1 (pt_cmpR (op_neD hr.units) (pe_ix ix_list (pv 0) (pv 2) (fun _ _ => rfl)) (pe_f0 (c__law_ground T) hr (by decide) rfl) (nomark _))))))))
 (pss_one (ps_ret (pv 2)))
 pss_nil)))
 (pss_cons (ps_for (passes_of rfl) rfl (pi_range1 (by rfl) T.n_range (pa_cons (pe_callB call_len_seq (by rfl) T.n_len (by decide +kernel) (pa_cons (pv 1) pa_nil)) pa_nil)) (pg_name (i := 2) sc__law_place_of.nd rfl (Or.inl rfl))
 (pss_one (ps_if (pt_cmpR op_ne (pe_ix ix_list (pe_ix ix_list (pv 1) (pv 2) (fun _ _ => rfl)) (pv 2) (fun _ _ => rfl)) pe_int (nomark _))
 (pss_one (ps_ret (pv 2)))
 pss_nil)))
 (pss_cons (ps_for (passes_of rfl) rfl (pi_range1 (by rfl) T.n_range (pa_cons (pe_callB call_len_seq (by rfl) T.n_len (by decide +kernel) (pa_cons (pv 1) pa_nil)) pa_nil)) (pg_name (i := 3) sc__law_place_of.nd rfl (Or.inl rfl))
 (pss_one (ps_for (passes_of rfl) rfl (pi_range1 (by rfl) T.n_range (pa_cons (pe_callB call_len_seq (by rfl) T.n_len (by decide +kernel) (pa_cons (pv 1) pa_nil)) pa_nil)) (pg_name (i := 4) sc__law_place_of.nd rfl (Or.inl rfl))
 (pss_one (ps_for (passes_of rfl) rfl (pi_range1 (by rfl) T.n_range (pa_cons (pe_callB call_len_seq (by rfl) T.n_len (by decide +kernel) (pa_cons (pv 1) pa_nil)) pa_nil)) (pg_name (i := 5) sc__law_place_of.nd rfl (Or.inl rfl))
 (pss_one (ps_if (pt_cmpR op_gt (pe_ix ix_list (pe_ix ix_list (pv 1) (pv 3) (fun _ _ => rfl)) (pv 5) (fun _ _ => rfl)) (pe_op op_add (pe_ix ix_list (pe_ix ix_list (pv 1) (pv 3) (fun _ _ => rfl)) (pv 4) (fun _ _ => rfl)) (pe_ix ix_list (pe_ix ix_list (pv 1) (pv 4) (fun _ _ => rfl)) (pv 5) (fun _ _ => rfl))) (nomark _))
 (pss_one (ps_ret (pe_un un_neg pe_int)))
 pss_nil)))))))
 (pss_one (ps_ret pe_non)))))), ?_⟩
    obtain ⟨us, hu, pr⟩ := id hA
    obtain ⟨ys, hy, pry⟩ := id hB
    have ul : us.length = ps.length := Paired.length pr
    have yl : ys.length = ps.length := by rw [Paired.length pry, rn]
    refine ⟨_, rfl, A, _, rfl, .inl (SqL.of hu), _, rfl, by omega, by omega, ?_⟩
    rw [show (((us.length : Nat) : Int)).toNat = ps.length by omega]
    refine for_it walk_range (fun j σ' H' => ∃ c2, σ' = [some (.ref A), some (.ref B), c2, none, none, none] ∧ Same H H' ∧ ∀ i, i < j → okAt ps i) ⟨none, rfl, .refl H, fun i h => absurd h (Nat.not_lt_zero i)⟩ (fun _ _ _ _ _ => trivial) ?_ ?_
    · rintro j _ _ _ H2 hj ⟨c2, rfl, e2, oks⟩ ⟨rfl, rfl⟩
      show gName 2 (V.int (0 + ((j : Nat) : Int))) _ _ _
      rw [Int.zero_add]
      refine gn ?_
      have hju : j < us.length := by omega
      obtain ⟨sj, hsj, q, eq, hq⟩ := paired_get pr (List.getElem?_eq_getElem hju)
      have hu2 := SqL.of (K := K) (e2 _ _ hu)
      have atj : atI us ((j : Nat) : Int) = some (.ref q) := atI_nat (by rw [List.getElem?_eq_getElem hju, eq])
      have bad : ¬ okAt ps j → ∀ H', Same H H' → Q (.int ((j : Nat) : Int)) H' := fun z => kf _ (.spot ⟨hj, oks, z⟩)
      refine ⟨_, rfl, _, rfl, A, us, _, .ref q, rfl, rfl, hu2, atj, _, rfl, _, rfl, _, rfl, A, us, rfl, hu2, fun sl hsl => ?_⟩
      rw [cut_to]
      have e3 := e2.trans (same_new (o := .lst (us.take j)) hsl)
      have sp3 : Spt K (upd H2 sl (.lst (us.take j))) (.ref q) sj := ⟨q, rfl, e3 _ _ hq⟩
      have prt := Paired.mapP (paired_take j pr) fun v p z => z.up e3
      have fz : Fl 2 (.list ((ps.take j).map spD)) := Fl.lst (FlA.all fun d hd => by
        obtain ⟨x, hx, rfl⟩ := List.mem_map.mp hd
        exact fl_sp (sk x (List.mem_of_mem_take hx)))
      refine ⟨spD sj, (ps.take j).map spD, sp3.dp, .lst (SqL.of upd_same) (dps prt fun v l y => y.dp), (fl_sp (sk sj (List.mem_of_getElem? hsj))).sh (by decide), fz.sh (by decide), _, rfl, ?_⟩
      rw [any_sp]
      generalize upd H2 sl (.lst (us.take j)) = H3 at e3 sp3
      by_cases hin : sj ∈ ps.take j
      · exact iteY (decide_eq_true hin) (iteT ⟨_, rfl, bad (fun z => (z sj hsj).1 hin) _ e3⟩)
      refine iteN (by rw [decide_eq_false hin]; decide) ?_
      refine ⟨_, rfl, rfl, _, rfl, ?_⟩
      by_cases j0 : j = 0
      · subst j0
        refine iteY (decide_eq_true rfl) ?_
        have hu3 := SqL.of (K := K) (e3 _ _ hu)
        refine ⟨_, rfl, _, rfl, A, us, _, .ref q, rfl, rfl, hu3, atj, rfl, fun g hg => ?_⟩
        have e4 := e3.trans (same_new (o := .tup (spV ground)) hg)
        refine ⟨spD sj, spD ground, (Spt.up sp3 (same_new hg)).dp, dp_sp (SqT.of upd_same), (fl_sp (sk sj (List.mem_of_getElem? hsj))).sh (by decide), (fl_sp (by decide +kernel)).sh (by decide), _, rfl, ?_⟩
        rw [eqv_sp]
        by_cases hg : sj = ground
        · refine iteN (by rw [decide_eq_true hg]; decide) ⟨_, rfl, e4, fun i hi => ?_⟩
          have : i = 0 := by omega
          subst this
          exact fun p hp => by rw [hsj] at hp; cases hp; exact ⟨hin, fun _ => hg⟩
        · exact iteY (by rw [decide_eq_false hg]; rfl) ⟨_, rfl, bad (fun z => hg ((z sj hsj).2 rfl)) _ e4⟩
      · refine iteN (by rw [decide_eq_false (by intro z; injection z with z; omega)]; decide) (iteN (fun z => nomatch z) ⟨_, rfl, e3, fun i hi => ?_⟩)
        by_cases ej : i = j
        · subst ej
          exact fun p hp => by rw [hsj] at hp; cases hp; exact ⟨hin, fun z => absurd z j0⟩
        · exact oks i (by omega)
    rintro _ H2 ⟨c2, rfl, e2, oks⟩
    have okS : OkS ps := OkS.of_at oks sk le pos
    have len2 : ∀ {H'}, Same H H' → SqL K H' B ys := fun e => SqL.of (e _ _ hy)
    refine ⟨_, rfl, B, _, rfl, .inl (len2 e2), _, rfl, by omega, by omega, ?_⟩
    rw [show (((ys.length : Nat) : Int)).toNat = ps.length by omega]
    refine for_it walk_range (fun j σ' H' => ∃ c2, σ' = [some (.ref A), some (.ref B), c2, none, none, none] ∧ Same H H' ∧ ∀ i, i < j → tbl rs i i = 0) ⟨_, rfl, e2, fun i h => absurd h (Nat.not_lt_zero i)⟩ (fun _ _ _ _ _ => trivial) ?_ ?_
    · rintro j _ _ _ H3 hj ⟨c2, rfl, e3, dg⟩ ⟨rfl, rfl⟩
      show gName 2 (V.int (0 + ((j : Nat) : Int))) _ _ _
      rw [Int.zero_add]
      refine gn ?_
      obtain ⟨ys', q, xs, h1, h2, h3, h4⟩ := (hB.up e3).at_ rn rl hj hj
      refine ⟨_, rfl, _, rfl, B, ys', _, .ref q, rfl, rfl, h1, h2, _, rfl, q, xs, _, _, rfl, rfl, h3, h4, rfl, _, rfl, ?_⟩
      by_cases z : tbl rs j j = 0
      · refine iteN (by rw [z]; decide) ⟨_, rfl, e3, fun i hi => ?_⟩
        by_cases ej : i = j
        · rw [ej]; exact z
        · exact dg i (by omega)
      · exact iteY (by simp [z]) ⟨_, rfl, kf _ (.diag okS hj dg z) _ e3⟩
    rintro _ H3 ⟨c2', rfl, e3, dg⟩
    refine ⟨_, rfl, B, _, rfl, .inl (len2 e3), _, rfl, by omega, by omega, ?_⟩
    rw [show (((ys.length : Nat) : Int)).toNat = ps.length by omega]
    refine for_it walk_range (fun x σ' H' => ∃ c2 c3 c4 c5, σ' = [some (.ref A), some (.ref B), c2, c3, c4, c5] ∧ Same H H' ∧ ∀ a b c, a < x → b < ps.length → c < ps.length → tbl rs a c ≤ tbl rs a b + tbl rs b c) ⟨_, _, _, _, rfl, e3, fun a _ _ h => absurd h (Nat.not_lt_zero a)⟩ (fun _ _ _ _ _ => trivial) ?_ ?_
    · rintro x _ _ _ H4 hx ⟨c2, c3, c4, c5, rfl, e4, t4⟩ ⟨rfl, rfl⟩
      show gName 3 (V.int (0 + ((x : Nat) : Int))) _ _ _
      rw [Int.zero_add]
      refine gn ?_
      refine ⟨_, rfl, B, _, rfl, .inl (len2 e4), _, rfl, by omega, by omega, ?_⟩
      rw [show (((ys.length : Nat) : Int)).toNat = ps.length by omega]
      refine for_it walk_range (fun y σ' H' => ∃ c2 c4 c5, σ' = [some (.ref A), some (.ref B), c2, some (.int (x : Nat)), c4, c5] ∧ Same H H' ∧ ∀ b c, b < y → c < ps.length → tbl rs x c ≤ tbl rs x b + tbl rs b c) ⟨_, _, _, rfl, e4, fun b _ h => absurd h (Nat.not_lt_zero b)⟩ (fun _ _ _ _ _ => trivial) ?_ ?_
      · rintro y _ _ _ H5 hy' ⟨c2, c4, c5, rfl, e5, t5⟩ ⟨rfl, rfl⟩
        show gName 4 (V.int (0 + ((y : Nat) : Int))) _ _ _
        rw [Int.zero_add]
        refine gn ?_
        refine ⟨_, rfl, B, _, rfl, .inl (len2 e5), _, rfl, by omega, by omega, ?_⟩
        rw [show (((ys.length : Nat) : Int)).toNat = ps.length by omega]
        refine for_it walk_range (fun z σ' H' => ∃ c2 c5, σ' = [some (.ref A), some (.ref B), c2, some (.int (x : Nat)), some (.int (y : Nat)), c5] ∧ Same H H' ∧ ∀ c, c < z → tbl rs x c ≤ tbl rs x y + tbl rs y c) ⟨_, _, rfl, e5, fun c h => absurd h (Nat.not_lt_zero c)⟩ (fun _ _ _ _ _ => trivial) ?_ ?_
        · rintro z _ _ _ H6 hz ⟨c2, c5, rfl, e6, t6⟩ ⟨rfl, rfl⟩
          show gName 5 (V.int (0 + ((z : Nat) : Int))) _ _ _
          rw [Int.zero_add]
          refine gn ?_
          obtain ⟨y1, q1, x1, a1, a2, a3, a4⟩ := (hB.up e6).at_ rn rl hx hz
          obtain ⟨y2, q2, x2, b1, b2, b3, b4⟩ := (hB.up e6).at_ rn rl hx hy'
          obtain ⟨y3, q3, x3, d1, d2, d3, d4⟩ := (hB.up e6).at_ rn rl hy' hz
          refine ⟨_, rfl, _, rfl, B, y1, _, .ref q1, rfl, rfl, a1, a2, _, rfl, q1, x1, _, _, rfl, rfl, a3, a4,
            _, rfl, _, rfl, B, y2, _, .ref q2, rfl, rfl, b1, b2, _, rfl, q2, x2, _, _, rfl, rfl, b3, b4, _, rfl, _, rfl, B, y3, _, .ref q3, rfl, rfl, d1, d2, _, rfl, q3, x3, _, _, rfl, rfl, d3, d4, _, _, rfl, rfl, _, _, rfl, rfl, _, rfl, ?_⟩
          by_cases g : tbl rs x z ≤ tbl rs x y + tbl rs y z
          · refine iteN (by rw [decide_eq_false (by omega)]; decide) ⟨_, _, rfl, e6, fun c hc => ?_⟩
            by_cases ec : c = z
            · rw [ec]; exact g
            · exact t6 c (by omega)
          · exact iteY (decide_eq_true (by omega)) ⟨_, rfl, kf _ (.tri okS dg fun tr => g (tr x y z hx hy' hz)) _ e6⟩
        · rintro _ H6 ⟨c2, c5, rfl, e6, t6⟩
          refine ⟨_, _, _, rfl, e6, fun b c hb hc => ?_⟩
          by_cases eb : b = y
          · rw [eb]; exact t6 c hc
          · exact t5 b c (by omega) hc
      · rintro _ H5 ⟨c2, c4, c5, rfl, e5, t5⟩
        refine ⟨_, _, _, _, rfl, e5, fun a b c ha hb hc => ?_⟩
        by_cases ea : a = x
        · rw [ea]; exact t5 b c hb hc
        · exact t4 a b c (by omega) hb hc
    · rintro _ H4 ⟨c2, c3, c4, c5, rfl, e4, t4⟩
      exact kg okS ⟨dg, t4⟩ _ e4
end
end K52

set_option Elab.async false
set_option linter.all false
set_option maxRecDepth 100000
set_option maxHeartbeats 4000000
namespace K52
open PySem PySem.Spec PyProof.Rows L2 Ew
open SX (S)
theorem tkN_mem {N : Nat} {sh : List Shp} : ∀ {k : Nat} {l l2 : List Ln} {uss : List (List Tk)}, tkN N sh k l = .ok (uss, l2) → k ≤ l.length ∧ (∀ us ∈ uss, fl us 0 sh = none ∧ ∃ m, (m, us) ∈ l) ∧ ∀ x ∈ l2, x ∈ l
  | 0, _, _, _, h => by cases h; exact ⟨Nat.zero_le _, fun _ h => (nomatch h), fun _ h => h⟩
  | k + 1, l, l2, uss, h => by
    cases c : tk1 N sh l with
    | error e => rw [tkN_bad c] at h; cases h
    | ok x =>
      obtain ⟨us, l1⟩ := x
      rw [tkN_ok c] at h
      obtain ⟨⟨m, el⟩, hf⟩ := tk1_of c
      cases c2 : tkN N sh k l1 with
      | error e => rw [c2] at h; cases h
      | ok y =>
        obtain ⟨vss, l3⟩ := y
        rw [c2] at h
        have h : (Except.ok ([us] ++ vss, l3) : Rst _) = .ok (uss, l2) := h
        cases h
        obtain ⟨h1, h2, h3⟩ := tkN_mem c2
        subst el
        refine ⟨by rw [List.length_cons]; omega, fun x hx => ?_, fun x hx => List.mem_cons_of_mem _ (h3 x hx)⟩
        rcases List.mem_append.mp hx with hx | hx
        · rw [List.mem_singleton] at hx
          subst hx
          exact ⟨hf, m, List.mem_cons_self⟩
        · obtain ⟨g1, m', g2⟩ := h2 x hx
          exact ⟨g1, m', List.mem_cons_of_mem _ g2⟩
structure RdOk (ps : List Spot) (rs : List (List Int)) : Prop where
  pos : 0 < ps.length
  le : ps.length ≤ 1000
  sk : ∀ s ∈ ps, PyData.strOk s.1 = true
  rn : rs.length = ps.length
  rl : ∀ r ∈ rs, r.length = ps.length
theorem rdc_ok {ls : List (List Tk)} (ok : LsOk ls) {ps : List Spot} {rs : List (List Int)} (h : rdc ls = .ok (ps, rs)) : RdOk ps rs := by
  have N1 := ok.n
  have lfl : (lf ls 0).length ≤ ls.length := by
    have := nel_len 0 (ls.drop 0)
    rw [List.drop_zero] at this
    exact this
  unfold rdc at h
  cases c : tk1 ls.length shC (lf ls 0) with
  | error e => simp only [c] at h; cases h
  | ok x =>
    obtain ⟨us, l1⟩ := x
    simp only [c] at h
    obtain ⟨⟨m0, el⟩, hf⟩ := tk1_of c
    obtain ⟨u, rfl, wu, mu⟩ := fl_C hf
    have gu : ([lC, u] : List Tk).getD 1 [] = u := rfl
    rw [gu] at h
    generalize hM : (wholeVal u).toNat = M at h
    cases c2 : tkN ls.length shS M l1 with
    | error e => simp only [c2] at h; cases h
    | ok y =>
      obtain ⟨ss, l2⟩ := y
      simp only [c2] at h
      cases c3 : tkN ls.length (shR M) M l2 with
      | error e => simp only [c3] at h; cases h
      | ok z =>
        obtain ⟨rr, l3⟩ := z
        simp only [c3] at h
        cases l3 with
        | cons x l => cases h
        | nil =>
          cases h
          obtain ⟨k1, k2, k3⟩ := tkN_mem c2
          obtain ⟨j1, j2, _⟩ := tkN_mem c3
          have sl := tkN_len c2
          have rl := tkN_len c3
          rw [el, List.length_cons] at lfl
          refine ⟨by rw [List.length_map, sl]; omega, by rw [List.length_map, sl]; omega, fun s hs => ?_, by rw [List.length_map, List.length_map, sl, rl], fun r hr => ?_⟩
          · obtain ⟨x, hx, rfl⟩ := List.mem_map.mp hs
            obtain ⟨fx, m, hm⟩ := k2 x hx
            obtain ⟨u1, u2, u3, rfl, _, _⟩ := fl_S fx
            have hm2 : (m, [lS, u1, u2, u3]) ∈ lf ls 0 := by rw [el]; exact List.mem_cons_of_mem _ hm
            have hm3 : (m, [lS, u1, u2, u3]) ∈ nel 0 (ls.drop 0) := hm2
            rw [List.drop_zero] at hm3
            exact strOk_S (ok.w _ (nel_mem hm3) u1 (by simp)).lt
          · obtain ⟨x, hx, rfl⟩ := List.mem_map.mp hr
            obtain ⟨fx, _⟩ := j2 x hx
            obtain ⟨h1, _⟩ := fl_R fx
            unfold rowOf
            rw [List.length_map, List.length_map, List.length_drop, h1, sl]
            omega
/-- what is told of some lines -/
inductive OD
  | line (m i : Nat)
  | place (z : Int)
  | card (ps : List Spot) (rs : List (List Int))
inductive OutC (ls : List (List Tk)) : OD → Prop
  | line {m i : Nat} : rdc ls = .error (m, i) → OutC ls (.line m i)
  | place {ps : List Spot} {rs : List (List Int)} {z : Int} : rdc ls = .ok (ps, rs) → Flaw ps (tbl rs) z → OutC ls (.place z)
  | card {ps : List Spot} {rs : List (List Int)} : rdc ls = .ok (ps, rs) → OkS ps → Cld ps.length (tbl rs) → OutC ls (.card ps rs)
theorem Flaw.uniq {ps : List Spot} {f : Tb2} {z z' : Int} (h : Flaw ps f z) (h' : Flaw ps f z') : z = z' := by
  cases h with
  | spot h =>
    cases h' with
    | spot h' =>
      congr 1
      rcases Nat.lt_trichotomy _ _ with q | q | q
      · exact absurd (h'.bef _ q) h.bad
      · exact q
      · exact absurd (h.bef _ q) h'.bad
    | diag ok => exact absurd h (ok.good _)
    | tri ok => exact absurd h (ok.good _)
  | diag ok hj hb hn =>
    cases h' with
    | spot h' => exact absurd h' (ok.good _)
    | diag ok' hj' hb' hn' =>
      congr 1
      rcases Nat.lt_trichotomy _ _ with q | q | q
      · exact absurd (hb' _ q) hn
      · exact q
      · exact absurd (hb _ q) hn'
    | tri _ hz => exact absurd (hz _ hj) hn
  | tri ok hz ht =>
    cases h' with
    | spot h' => exact absurd h' (ok.good _)
    | diag _ hj _ hn => exact absurd (hz _ hj) hn
    | tri => rfl
theorem OutC.uniq {ls : List (List Tk)} {o o' : OD} (h : OutC ls o) (h' : OutC ls o') : o = o' := by
  cases h with
  | line e =>
    cases h' with
    | line e' => rw [e] at e'; cases e'; rfl
    | place e' => rw [e] at e'; cases e'
    | card e' => rw [e] at e'; cases e'
  | place e f =>
    cases h' with
    | line e' => rw [e] at e'; cases e'
    | place e' f' =>
      rw [e] at e'
      cases e'
      rw [f.uniq f']
    | card e' ok hc =>
      rw [e] at e'
      cases e'
      exact absurd f (Flaw.no ok hc)
  | card e ok hc =>
    cases h' with
    | line e' => rw [e] at e'; cases e'
    | place e' f' =>
      rw [e] at e'
      cases e'
      exact absurd f' (Flaw.no ok hc)
    | card e' => rw [e] at e'; cases e'; rfl
def AnsV (K : PySem.W.Frag) (H : Hp) (v : V) : OD → Prop
  | .line m i => ∃ q, v = .ref q ∧ H q = some (.tup [.str "line", .int (m : Nat), .int (i : Nat)])
  | .place z => ∃ q, v = .ref q ∧ H q = some (.tup [.str "place", .int z])
  | .card ps rs => ∃ q A B, v = .ref q ∧ H q = some (.tup [.str "card", .ref A, .ref B]) ∧ Spl K H A ps ∧ Rws K H B rs
section
variable {P : Program} {w : World} {K : PySem.W.Frag} {mg : Str → Option Value} {base : Heap} {a : Ad}
def sp__law_due_of (K : PySem.W.Frag) : Sp := fun vs H Q _ => ∃ (p : Addr) (ls : List (List Tk)), vs = [.ref p] ∧ Lns K false H p ls ∧ LsOk ls ∧ ∀ o, OutC ls o → ∀ H' v, Same H H' → AnsV K H' v o → Q v H'
theorem c__law_due_of (T : Txt K mg a) : Cl P w K mg base 5 "_law_due_of" P__law_due_of (sp__law_due_of K) [] :=
  T.d__law_due_of.cl sc__law_due_of (fun vs H Q E h => by obtain ⟨p, ls, rfl, _⟩ := h; rfl) fun f cdv A outer s H vs Q E hr h => by
    obtain ⟨p, ls, rfl, hp, ok, k⟩ := h
    refine ⟨_, ((pss_cons (ps_set (i := 1) sc__law_due_of.nd rfl (Or.inl rfl) (pe_f (c__law_read T) (takes_of rfl rfl rfl rfl) hr (by decide) rfl (pa_cons (pv 0) pa_nil)))
 (pss_cons (ps_if (pt_cmpR op_eq (pe_ix ix_tup (pv 1) pe_int (fun _ _ => rfl)) pe_str (nomark _))
 (pss_one (ps_ret (pv 1)))
 pss_nil)
 (pss_cons (ps_set (i := 2) sc__law_due_of.nd rfl (Or.inl rfl) (pe_f (c__law_place_of T) (takes_of rfl rfl rfl rfl) hr (by decide) rfl (pa_cons (pe_ix ix_tup (pv 1) pe_int (fun _ _ => rfl)) (pa_cons (pe_ix ix_tup (pv 1) pe_int (fun _ _ => rfl)) pa_nil))))
 (pss_cons (ps_if (pt_cmpR op_notN (pv 2) pe_non (nomark _))
 (pss_one (ps_ret (pe_tup (pa_cons pe_str (pa_cons (pv 2) pa_nil)))))
 pss_nil)
 (pss_one (ps_ret (pv 1)))))))), ?_⟩
    refine ⟨_, rfl, p, ls, rfl, hp, ok, fun m i hr' H1 q e1 hq => ?_, fun ps rs hr' H1 q A B e1 hq hA hB => ?_⟩
    · refine gn ?_
      refine ⟨_, rfl, q, _, 0, _, rfl, rfl, SqT.of hq, rfl, rfl, _, rfl, iteY (by decide +kernel) ⟨_, rfl, ?_⟩⟩
      exact k _ (.line hr') _ _ e1 ⟨q, rfl, hq⟩
    · refine gn ?_
      have r := rdc_ok ok hr'
      refine ⟨_, rfl, q, _, 0, _, rfl, rfl, SqT.of hq, rfl, rfl, _, rfl, iteN (by decide +kernel) ?_⟩
      refine ⟨_, rfl, q, _, 1, _, rfl, rfl, SqT.of hq, rfl, _, rfl, q, _, 2, _, rfl, rfl, SqT.of hq, rfl, A, B, ps, rs, rfl, hA, hB, r.pos, r.le, r.sk, r.rn, r.rl, fun z hz H2 e2 => ?_, fun oS hc H2 e2 => ?_⟩
      · refine gn ?_
        refine ⟨_, rfl, rfl, _, rfl, iteY (by rw [decide_eq_false (fun z => nomatch z)]; rfl) ⟨_, rfl, by show 2 ≤ sizeLine; decide, fun t ht => ?_⟩⟩
        exact k _ (.place hr' hz) _ _ (e1.trans (e2.trans (same_new ht))) ⟨t, rfl, upd_same⟩
      · refine gn ?_
        refine ⟨_, rfl, rfl, _, rfl, iteN (by decide) ⟨_, rfl, ?_⟩⟩
        exact k _ (.card hr' oS hc) _ _ (e1.trans e2) ⟨q, A, B, rfl, e2 _ _ hq, hA.up e2, hB.up e2⟩
end
end K52

set_option Elab.async false
set_option linter.all false
set_option maxRecDepth 100000
set_option maxHeartbeats 4000000
namespace K52
open PySem PySem.Spec PyProof.Rows L2 Ew
open SX (S)
theorem rs_tbl {rs : List (List Int)} {n j : Nat} {ws : List Int} (e : rs[j]? = some ws) (h : ws.length = n) : rowV n (tbl rs j) = ws.map V.int := by
  have : tbl rs j = fun b => ws.getD b 0 := by
    funext b
    unfold tbl
    rw [List.getD_eq_getElem?_getD (l := rs), e]
    rfl
  rw [this]
  exact row_tbl h
section
variable {P : Program} {w : World} {K : PySem.W.Frag} {mg : Str → Option Value} {base : Heap} {a : Ad}
def sp__law_answer_of (K : PySem.W.Frag) : Sp := fun vs H Q _ => ∃ (t : Bool) (p : Addr) (ls : List (List Tk)), vs = [.ref p] ∧ Lns K t H p ls ∧ LsOk ls ∧ ∀ o, OutC ls o → ∀ H' v, Same H H' → AnsV K H' v o → Q v H'
theorem c__law_answer_of (T : Txt K mg a) : Cl P w K mg base 8 "_law_answer_of" P__law_answer_of (sp__law_answer_of K) [] :=
  T.d__law_answer_of.cl sc__law_answer_of (fun vs H Q E h => by obtain ⟨t, p, ls, rfl, _⟩ := h; rfl) fun f cdv A outer s H vs Q E hr h => by
    obtain ⟨t, p, ls, rfl, hp, ok, k⟩ := h
    refine ⟨_, ((pss_cons (ps_tryN rfl rfl sc__law_answer_of.nd (takes_of rfl rfl rfl rfl)
 (fun W pn xe tk tkp => (pss_one (show PS _ _ (tAsg (tF (sp_read_card P w K a) [] W (tCons (tVar 0) tNil)) (gName 1)) from (ps_set (i := 1) sc__law_answer_of.nd rfl (Or.inl rfl) (pe_f (c_read_card T) tk hr (by decide) rfl (pa_cons (pv 0) pa_nil))))))
 (.nm (i := 2) rfl rfl ⟨rfl, by decide, .inl T.g_BadLine⟩ (fun xa oe cls d pn hz hf => (pss_cons (ps_if (PW.pt (pw_or (pt_not (pt_val (pe_callB (call_isErrC T.e_BadLine hz hf) (by rfl) T.n_isinstance (by decide +kernel) (pa_cons (pv 2) (pa_cons (pe_glob (v := .ref a.EllError) rfl T.g_EllError rfl) pa_nil))))) (pw_or (pt_not (pt_val (pe_callB (call_isErrC T.e_BadLine hz hf) (by rfl) T.n_isinstance (by decide +kernel) (pa_cons (pv 2) (pa_cons (pe_bltn (v := .ty "ValueError") (by rfl) T.n_ValueError (by decide +kernel) rfl) pa_nil))))) (pw_or1 (pt_val (pe_callB (call_isErrC T.e_BadLine hz hf) (by rfl) T.n_isinstance (by decide +kernel) (pa_cons (pv 2) (pa_cons (pe_glob (v := .ref a.BadCard) rfl T.g_BadCard rfl) pa_nil))))))))
 (pss_one (ps_ret (pe_tup (pa_cons pe_str pa_nil))))
 pss_nil)
 (pss_one (ps_ret (pe_tup (pa_cons pe_str (pa_cons (pe_xf T.xf_BadLine T.no_BadLine_line hz hf (pv 2)) (pa_cons (pe_xf T.xf_BadLine T.no_BadLine_word hz hf (pv 2)) pa_nil)))))))) (.nm (i := 2) rfl rfl ⟨rfl, by decide, .inl T.g_BadCard⟩ (fun xa oe cls d pn hz hf => (pss_one (ps_ret (pe_tup (pa_cons pe_str (pa_cons (pe_xf T.xf_BadCard T.no_BadCard_place hz hf (pv 2)) pa_nil)))))) (.pl ⟨rfl, by decide, .inl T.g_EllError⟩ (fun xa oe cls d pn hz hf => (pss_one (ps_ret (pe_tup (pa_cons pe_str pa_nil))))) .nil))))
 (pss_cons (ps_if (pt_not (pt_val (pe_callB call_isi (by rfl) T.n_isinstance (by decide +kernel) (pa_cons (pv 1) (pa_cons (pe_glob (v := .ref a.Card) rfl T.g_Card rfl) pa_nil)))))
 (pss_one (ps_ret (pe_tup (pa_cons pe_str pa_nil))))
 pss_nil)
 (pss_one (ps_ret (pe_tup (pa_cons pe_str (pa_cons (pe_callTy (T := "list") (r := rLstS K) call_lstS (by rfl) T.n_list (by decide +kernel) (pa_cons (pe_fld (pv 1) rfl) pa_nil)) (pa_cons (pe_lc (own := [("_law_row", 3)]) (g := (gName 3)) (by rfl) sc__law_answer_of.nd (pi_tup (pe_fld (pv 1) rfl)) (blkOk_by (own := [("_law_row", 3)]) (N := N__law_answer_of) (sc := defScope s__law_answer_of) (by decide +kernel)) (fun _ _ _ _ _ => (pg_name (i := 3) sc__law_answer_of.nd rfl (Or.inl rfl) (hf := .inr rfl))) (fun _ _ _ _ _ => pts_nil) (fun _ _ _ _ _ => (pe_callTy (T := "list") (r := rLstS K) call_lstS (by rfl) T.n_list (by decide +kernel) (pa_cons (pv 3) pa_nil)))) pa_nil))))))))), ?_⟩
    refine ⟨_, rfl, t, p, ls, rfl, hp, ok, fun m i er H' d e1 hd => ?_, fun ps rs er => ⟨fun z hz H' d e1 hd => ?_, fun oS hc H' x e1 x0 cd => ?_⟩⟩
    · refine ⟨true, T.em_BadLine, fun _ ea hea => ?_, fun z => nomatch z⟩
      refine ⟨_, rfl, rfl, fun d' z => ⟨_, by cases z; exact hd⟩, .inl ⟨_, _, true, rfl, .own _, T.ke_BadLine, true, rfl, iteF ?_⟩⟩
      refine ⟨_, rfl, rfl, fun d' z => ⟨_, by cases z; exact hd⟩, .inl ⟨_, _, true, rfl, .ty _, T.kv_BadLine, true, rfl, iteF ?_⟩⟩
      refine ⟨_, rfl, rfl, fun d' z => ⟨_, by cases z; exact hd⟩, .inl ⟨_, _, false, rfl, .own _, T.kc_BadLine, false, rfl, iteF ?_⟩⟩
      refine ⟨_, rfl, rfl, rfl, d, _, .int (m : Nat), rfl, hd, rfl, _, rfl, rfl, rfl, d, _, .int (i : Nat), rfl, hd, rfl, by show 3 ≤ sizeLine; decide, fun q hq => ?_⟩
      exact k _ (.line er) _ _ (e1.trans (same_new hq)) ⟨q, rfl, upd_same⟩
    · refine ⟨false, T.en_BadCard, fun z _ _ => Bool.noConfusion z, fun _ => ⟨true, T.em_BadCard, fun _ ea hea => ?_, fun z => nomatch z⟩⟩
      refine ⟨_, rfl, rfl, rfl, d, _, .int z, rfl, hd, rfl, by show 2 ≤ sizeLine; decide, fun q hq => ?_⟩
      exact k _ (.place er hz) _ _ (e1.trans (same_new hq)) ⟨q, rfl, upd_same⟩
    have r := rdc_ok ok er
    obtain ⟨y, dx, sp, d, rw, ex, hx, hps, _, tb⟩ := id cd
    cases ex
    refine ⟨_, rfl, _, _, _, _, true, rfl, .own _, T.ki.ty hx, kit_same, true, rfl, iteN (by decide) ?_⟩
    obtain ⟨us, hus, pr⟩ := id hps
    refine ⟨_, rfl, x, a.Card, dx, _, _, rfl, hx, T.ki.cl, T.nS, rfl, sp, us, rfl, .inr hus, fun l1 hl1 => ?_⟩
    have e2 := same_new (o := .lst us) hl1
    have z1 : (upd H' l1 (.lst us)) l1 = some (.lst us) := upd_same
    have pr2 := Paired.mapP pr fun v p z => z.up e2
    generalize upd H' l1 (.lst us) = H2 at e2 z1 pr2
    have hx2 := e2 _ _ hx
    obtain ⟨r0, vs, er0, hr0, vl, hvs⟩ := tb.up e2
    cases er0
    refine ⟨_, rfl, x, a.Card, dx, _, _, rfl, hx2, T.ki.cl, T.nR, rfl, rw, rfl, ⟨vs, hr0⟩, fun D hD => ?_⟩
    have nle := r.le
    refine lcM memP (walk_tup (a := rw) (xs := vs)) (.refl H2) trivial hD (fun i F y => ∃ q, y = V.ref q ∧ SqL K F q (rowV ps.length (tbl rs i))) (fun _ _ _ _ e z => by obtain ⟨q, z1, z2⟩ := z; exact ⟨q, z1, upL e z2⟩) (by omega) (fun F' H' z1 z2 => upT z2 (upT z1 hr0)) ?_ ?_
    · rintro i y F3 _ H3 Kt Kn hi s3 _ ⟨rfl, hy⟩ kk
      obtain ⟨q, rfl, hq⟩ := hvs i y hy
      refine ⟨rfl, lc_yes ⟨_, rfl, ?_⟩⟩
      dsimp only [tNil]
      refine ⟨q, _, rfl, .inr (upT (s3.ff.trans s3.fh) hq), fun m hm => ?_⟩
      exact kk _ _ _ ((Stm.refl s3.fh).newP hm) trivial ⟨m, rfl, SqL.of upd_same⟩
    · intro F3 H3 ys s3 _ hD3 hy hr3
      have e3 : Same H2 H3 := s3.ff.trans s3.fh
      refine ⟨by show 3 ≤ sizeLine; decide, fun q hq => ?_⟩
      have e4 := same_new (o := .tup [.str "card", .ref l1, .ref D]) hq
      refine k _ (.card er oS hc) _ _ (e1.trans (e2.trans (e3.trans e4))) ⟨q, l1, D, rfl, upd_same, ⟨us, e4 _ _ (e3 _ _ z1), Paired.mapP pr2 fun v p z => z.up (e3.trans e4)⟩, ys, e4 _ _ (s3.fh _ _ hD3), paired_of (by rw [hy, vl, r.rn]) fun j v hv => ?_⟩
      obtain ⟨q', rfl, hq'⟩ := hr3 j v hv
      have hj : j < rs.length := by have := (List.getElem?_eq_some_iff.mp hv).1; rw [hy, vl] at this; rw [r.rn]; exact this
      refine ⟨rs[j], List.getElem?_eq_getElem hj, q', rfl, ?_⟩
      rw [← rs_tbl (List.getElem?_eq_getElem hj) (r.rl _ (List.getElem_mem hj))]
      exact upL (s3.fh.trans e4) hq'
end
end K52

set_option Elab.async false
set_option linter.all false
set_option maxRecDepth 100000
set_option maxHeartbeats 4000000
namespace K52
open PySem PySem.Spec PyProof.Rows L2 Ew
open SX (S)
def lsI (ws : List Int) : PyData := .list (ws.map .int)
theorem eqv_lsI (a b : List Int) : PyData.eqv (lsI a) (lsI b) = decide (a = b) := by
  unfold lsI
  rw [PyData.eqv, eqvAll_ints]
def crdD (ps : List Spot) (rs : List (List Int)) : PyData := .tuple [.str "card", .list (ps.map spD), .list (rs.map lsI)]
theorem eqv_crd (ps : List Spot) (rs : List (List Int)) : PyData.eqv (crdD ps rs) (crdD ps rs) = true := by
  unfold crdD
  rw [PyData.eqv, PyData.eqvAll, PyData.eqvAll, PyData.eqvAll, PyData.eqv, PyData.eqv, PyData.eqv, eqvAll_map eqv_sp, eqvAll_map eqv_lsI]
  simp [PyData.eqvAll]
theorem fl_crd {ps : List Spot} {rs : List (List Int)} (h : ∀ s ∈ ps, PyData.strOk s.1 = true) : Fl 3 (crdD ps rs) := by
  refine Fl.tup (.cons (.str (by decide +kernel)) (.cons ?_ (.cons ?_ .nil)))
  · refine Fl.lst (FlA.all fun d hd => ?_)
    obtain ⟨p, hp, rfl⟩ := List.mem_map.mp hd
    exact fl_sp (h p hp)
  · refine Fl.lst (FlA.all fun d hd => ?_)
    obtain ⟨p, hp, rfl⟩ := List.mem_map.mp hd
    refine Fl.lst (FlA.all fun d hd => ?_)
    obtain ⟨i, _, rfl⟩ := List.mem_map.mp hd
    exact Fl.int
theorem dp_rws {K : PySem.W.Frag} {H : Hp} : ∀ {ys : List V} {rs : List (List Int)}, Paired (fun v ws => ∃ q, v = V.ref q ∧ SqL K H q (ws.map V.int)) ys rs → DpAll K H ys (rs.map lsI)
  | [], [], _ => .nil
  | _ :: _, _ :: _, .cons ⟨q, e, h⟩ t => .cons (by rw [e]; exact .lst h (dpAll_ints _)) (dp_rws t)
theorem dp_crd {K : PySem.W.Frag} {H : Hp} {q A B : Addr} {ps : List Spot} {rs : List (List Int)} (h : H q = some (.tup [.str "card", .ref A, .ref B])) (hA : Spl K H A ps) (hB : Rws K H B rs) : Dp K H (.ref q) (crdD ps rs) := by
  obtain ⟨us, h1, h2⟩ := hA
  obtain ⟨ys, h3, h4⟩ := hB
  exact .tup (SqT.of h) (.cons (.str _) (.cons (.lst (SqL.of h1) (dps h2 fun v l z => z.dp)) (.cons (.lst (SqL.of h3) (dp_rws h4)) .nil)))
theorem AnsV.up {K : PySem.W.Frag} {H H' : Hp} {v : V} {o : OD} (h : AnsV K H v o) (e : Same H H') : AnsV K H' v o := by
  cases o with
  | line m i => obtain ⟨q, h1, h2⟩ := h; exact ⟨q, h1, e _ _ h2⟩
  | place z => obtain ⟨q, h1, h2⟩ := h; exact ⟨q, h1, e _ _ h2⟩
  | card ps rs => obtain ⟨q, A, B, h1, h2, h3, h4⟩ := h; exact ⟨q, A, B, h1, e _ _ h2, h3.up e, h4.up e⟩
/-- as much of it as a comparison asks -/
def AnsW (K : PySem.W.Frag) (H : Hp) (v : V) : OD → Prop
  | .line m i => ∃ q, v = .ref q ∧ H q = some (.tup [.str "line", .int (m : Nat), .int (i : Nat)])
  | .place z => ∃ q, v = .ref q ∧ H q = some (.tup [.str "place", .int z])
  | .card ps rs => ∃ q A B, v = .ref q ∧ H q = some (.tup [.str "card", .ref A, .ref B]) ∧ Dp K H (.ref q) (crdD ps rs)
theorem AnsV.w {K : PySem.W.Frag} {H : Hp} {v : V} {o : OD} (h : AnsV K H v o) : AnsW K H v o := by
  cases o with
  | line m i => exact h
  | place z => exact h
  | card ps rs => obtain ⟨q, A, B, h1, h2, h3, h4⟩ := h; exact ⟨q, A, B, h1, h2, dp_crd h2 h3 h4⟩
section
variable {P : Program} {w : World} {K : PySem.W.Frag} {mg : Str → Option Value} {base : Heap} {a : Ad}
def sp__law_same (K : PySem.W.Frag) : Sp := fun vs H Q _ => ∃ (u v : V) (o : OD), vs = [u, v] ∧ AnsW K H u o ∧ AnsW K H v o ∧ (∀ ps rs, o = .card ps rs → ∀ s ∈ ps, PyData.strOk s.1 = true) ∧ Q (.bl true) H
theorem c__law_same (T : Txt K mg a) : Cl P w K mg base 2 "_law_same" P__law_same (sp__law_same K) [] :=
  T.d__law_same.cl sc__law_same (fun vs H Q E h => by obtain ⟨u, v, o, rfl, _⟩ := h; rfl) fun f cdv A outer s H vs Q E hr h => by
    obtain ⟨u, v, o, rfl, h1, h2, hk, k⟩ := h
    refine ⟨_, ((pss_cons (ps_if (PW.pt (pw_or (pt_cmpR op_ne (pe_callB call_len_seq (by rfl) T.n_len (by decide +kernel) (pa_cons (pv 0) pa_nil)) (pe_callB call_len_seq (by rfl) T.n_len (by decide +kernel) (pa_cons (pv 1) pa_nil)) (nomark _)) (pw_or1 (pt_cmpR op_ne (pe_ix ix_tup (pv 0) pe_int (fun _ _ => rfl)) (pe_ix ix_tup (pv 1) pe_int (fun _ _ => rfl)) (nomark _)))))
 (pss_one (ps_ret pe_bl))
 pss_nil)
 (pss_cons (ps_if (pt_cmpR op_eq (pe_ix ix_tup (pv 1) pe_int (fun _ _ => rfl)) pe_str (nomark _))
 (pss_one (ps_ret (pe_cmpR (op_eqD hr.units) (pv 0) (pv 1) (nomark _))))
 pss_nil)
 (pss_cons (ps_for (passes_of rfl) rfl (pi_range2 (by rfl) T.n_range (pa_cons pe_int (pa_cons (pe_callB call_len_seq (by rfl) T.n_len (by decide +kernel) (pa_cons (pv 1) pa_nil)) pa_nil))) (pg_name (i := 2) sc__law_same.nd rfl (Or.inl rfl))
 (pss_one (ps_if (PW.pt (pw_or (pt_not (pt_val (pe_f (c__law_integer T) (takes_of rfl rfl rfl rfl) hr (by decide) rfl (pa_cons (pe_ix ix_tup (pv 0) (pv 2) (fun _ _ => rfl)) pa_nil)))) (pw_or1 (pt_cmpR op_ne (pe_ix ix_tup (pv 0) (pv 2) (fun _ _ => rfl)) (pe_ix ix_tup (pv 1) (pv 2) (fun _ _ => rfl)) (nomark _)))))
 (pss_one (ps_ret pe_bl))
 pss_nil)))
 (pss_one (ps_ret pe_bl)))))), ?_⟩
    cases o with
    | line m i =>
      obtain ⟨q1, rfl, h1⟩ := h1
      obtain ⟨q2, rfl, h2⟩ := h2
      have h1 := SqT.of (K := K) h1
      have h2 := SqT.of (K := K) h2
      refine ⟨_, rfl, q1, _, rfl, .inr h1, _, rfl, q2, _, rfl, .inr h2, rfl, _, rfl, iteF ?_⟩
      refine ⟨_, rfl, q1, _, 0, _, rfl, rfl, h1, rfl, _, rfl, q2, _, 0, _, rfl, rfl, h2, rfl, rfl, _, rfl, iteN (by decide +kernel) ?_⟩
      refine ⟨_, rfl, q2, _, 0, _, rfl, rfl, h2, rfl, rfl, _, rfl, iteN (by decide +kernel) ?_⟩
      refine ⟨_, rfl, q2, _, rfl, .inr h2, _, _, rfl, ⟨by decide, by decide, by show (-(2 ^ 62) : Int) ≤ 3; decide, by show (3 : Int) < 2 ^ 62; decide⟩, ?_⟩
      refine for_range (lo := 1) (n := 2) (fun j σ' H' => H' = H ∧ ∃ c, σ' = [some (.ref q1), some (.ref q2), c]) ⟨rfl, none, rfl⟩ ?_ ?_
      · rintro j _ _ hj ⟨rfl, c, rfl⟩
        have st : ∃ x : Int, (atI [V.str "line", .int (m : Nat), .int (i : Nat)] (1 + (j : Int)) = some (.int x)) := by
          rcases (by omega : j = 0 ∨ j = 1) with rfl | rfl
          · exact ⟨_, rfl⟩
          · exact ⟨_, rfl⟩
        obtain ⟨x, hx⟩ := st
        refine ⟨_, rfl, _, rfl, q1, _, _, _, rfl, rfl, h1, hx, _, rfl, .inl ⟨x, rfl, _, rfl, iteF ?_⟩⟩
        refine ⟨_, rfl, _, rfl, q1, _, _, _, rfl, rfl, h1, hx, _, rfl, _, rfl, q2, _, _, _, rfl, rfl, h2, hx, rfl, _, rfl, iteN (by simp) ?_⟩
        exact ⟨rfl, _, rfl⟩
      · rintro _ _ ⟨rfl, c, rfl⟩
        exact k
    | place z =>
      obtain ⟨q1, rfl, h1⟩ := h1
      obtain ⟨q2, rfl, h2⟩ := h2
      have h1 := SqT.of (K := K) h1
      have h2 := SqT.of (K := K) h2
      refine ⟨_, rfl, q1, _, rfl, .inr h1, _, rfl, q2, _, rfl, .inr h2, rfl, _, rfl, iteF ?_⟩
      refine ⟨_, rfl, q1, _, 0, _, rfl, rfl, h1, rfl, _, rfl, q2, _, 0, _, rfl, rfl, h2, rfl, rfl, _, rfl, iteN (by decide +kernel) ?_⟩
      refine ⟨_, rfl, q2, _, 0, _, rfl, rfl, h2, rfl, rfl, _, rfl, iteN (by decide +kernel) ?_⟩
      refine ⟨_, rfl, q2, _, rfl, .inr h2, _, _, rfl, ⟨by decide, by decide, by show (-(2 ^ 62) : Int) ≤ 2; decide, by show (2 : Int) < 2 ^ 62; decide⟩, ?_⟩
      refine for_range (lo := 1) (n := 1) (fun j σ' H' => H' = H ∧ ∃ c, σ' = [some (.ref q1), some (.ref q2), c]) ⟨rfl, none, rfl⟩ ?_ ?_
      · rintro j _ _ hj ⟨rfl, c, rfl⟩
        have hx : (atI [V.str "place", .int z] (1 + (j : Int)) = some (.int z)) := by
          rcases (by omega : j = 0) with rfl
          rfl
        refine ⟨_, rfl, _, rfl, q1, _, _, _, rfl, rfl, h1, hx, _, rfl, .inl ⟨z, rfl, _, rfl, iteF ?_⟩⟩
        refine ⟨_, rfl, _, rfl, q1, _, _, _, rfl, rfl, h1, hx, _, rfl, _, rfl, q2, _, _, _, rfl, rfl, h2, hx, rfl, _, rfl, iteN (by simp) ?_⟩
        exact ⟨rfl, _, rfl⟩
      · rintro _ _ ⟨rfl, c, rfl⟩
        exact k
    | card ps rs =>
      obtain ⟨q1, A1, B1, rfl, h1, d1⟩ := h1
      obtain ⟨q2, A2, B2, rfl, h2, d2⟩ := h2
      have sh := (fl_crd (rs := rs) (hk ps rs rfl)).sh (by decide)
      have h1 := SqT.of (K := K) h1
      have h2 := SqT.of (K := K) h2
      refine ⟨_, rfl, q1, _, rfl, .inr h1, _, rfl, q2, _, rfl, .inr h2, rfl, _, rfl, iteF ?_⟩
      refine ⟨_, rfl, q1, _, 0, _, rfl, rfl, h1, rfl, _, rfl, q2, _, 0, _, rfl, rfl, h2, rfl, rfl, _, rfl, iteN (by decide +kernel) ?_⟩
      refine ⟨_, rfl, q2, _, 0, _, rfl, rfl, h2, rfl, rfl, _, rfl, iteY (by decide +kernel) ?_⟩
      refine ⟨_, rfl, _, rfl, _, _, d1, d2, sh, sh, ?_⟩
      rw [eqv_crd]
      exact k
end
end K52

set_option Elab.async false
set_option linter.all false
set_option maxRecDepth 100000
set_option maxHeartbeats 4000000
namespace K52
open PySem PySem.Spec PyProof.Rows L2 Ew
open SX (S)
/-- a text that may be a word -/
def TkV (v : V) : Prop := ∃ L : Tk, v = .str (S L) ∧ TkOk L
def tkb (z : Str) : Bool := decide (z.cps.toList.length ≤ 200) && z.cps.toList.all (fun c => decide (c < 1114112) && decide (c ≠ 32))
theorem tkV_of {z : Str} (h : tkb z = true) : TkV (.str z) := by
  unfold tkb at h
  rw [Bool.and_eq_true, List.all_eq_true] at h
  refine ⟨z.cps.toList, by show V.str z = .str ⟨z.cps.toList.toArray⟩; rw [Array.toArray_toList], of_decide_eq_true h.1, fun c hc => ?_, fun hc => ?_⟩
  · have := h.2 c hc
    rw [Bool.and_eq_true] at this
    exact of_decide_eq_true this.1
  · have := h.2 32 hc
    rw [Bool.and_eq_true] at this
    exact absurd rfl (of_decide_eq_true this.2)
section
variable {P : Program} {w : World} {K : PySem.W.Frag} {mg : Str → Option Value} {base : Heap} {a : Ad}
def sp__law_odd_word (K : PySem.W.Frag) : Sp := fun vs H Q _ => ∃ (F : Hp) (b : Addr), vs = [.ref b] ∧ Bag K b F H ∧ Same F H ∧ ∀ F' H' L, Sb b F H F' H' → Bag K b F' H' → TkOk L → Q (.str (S L)) H'
theorem c__law_odd_word (T : Txt K mg a) : Cl P w K mg base 3 "_law_odd_word" P__law_odd_word (sp__law_odd_word K) [] :=
  T.d__law_odd_word.cl sc__law_odd_word (fun vs H Q E h => by obtain ⟨F, b, rfl, _⟩ := h; rfl) fun f cdv A outer s H vs Q E hr h => by
    obtain ⟨F, b, rfl, hB, hf, k⟩ := h
    refine ⟨_, ((pss_cons (ps_set (i := 1) sc__law_odd_word.nd rfl (Or.inl rfl) (pe_lst (pa_cons pe_str (pa_cons pe_str (pa_cons pe_str (pa_cons pe_str (pa_cons pe_str (pa_cons pe_str (pa_cons pe_str (pa_cons pe_str (pa_cons pe_str (pa_cons pe_str (pa_cons pe_str (pa_cons pe_str (pa_cons pe_str (pa_cons pe_str (pa_cons pe_str (pa_cons pe_str (pa_cons pe_str (pa_cons pe_str (pa_cons pe_str pa_nil)))))))))))))))))))))
 (pss_cons (ps_set (i := 1) sc__law_odd_word.nd rfl (Or.inl rfl) (pe_op op_cat (pv 1) (pe_lst (pa_cons pe_str (pa_cons pe_str (pa_cons pe_str (pa_cons pe_str (pa_cons pe_str (pa_cons pe_str (pa_cons pe_str (pa_cons pe_str (pa_cons (pe_op op_repS pe_str pe_int) (pa_cons (pe_op op_repS pe_str pe_int) (pa_cons (pe_op op_add_str pe_str (pe_op op_repS pe_str pe_int)) pa_nil))))))))))))))
 (pss_cons (ps_set (i := 1) sc__law_odd_word.nd rfl (Or.inl rfl) (pe_op op_cat (pv 1) (pe_lst (pa_cons (pe_op op_add_str pe_str (pe_op op_repS pe_str pe_int)) (pa_cons (pe_op op_repS pe_str pe_int) (pa_cons pe_str (pa_cons pe_str (pa_cons pe_str pa_nil))))))))
 (pss_one (ps_ret (pe_f (c__law_choice T) (takes_of rfl rfl rfl rfl) hr (by decide) rfl (pa_cons (pv 0) (pa_cons (pv 1) pa_nil))))))))), ?_⟩
    refine ⟨by show 19 ≤ sizeLine; decide, fun q1 hq1 => ?_⟩
    refine gn ?_
    try dsimp only
    obtain ⟨s1, B1⟩ := newB (o := .lst [.str "", .str "0", .str "-0", .str "-0", .str "-0", .str "00", .str "07", .str "+1", .str "1x", .str "x", .str "row", .str "spot", .str "card", .str "ground", .str "nobody", .str "Ab", .str "a1", .str "1/2", .str "-"]) (Stm.refl hf) hB hq1
    have t1 : ∀ x ∈ ([.str "", .str "0", .str "-0", .str "-0", .str "-0", .str "00", .str "07", .str "+1", .str "1x", .str "x", .str "row", .str "spot", .str "card", .str "ground", .str "nobody", .str "Ab", .str "a1", .str "1/2", .str "-"] : List V), TkV x := by
      intro x hx
      simp only [List.mem_cons, List.not_mem_nil, or_false] at hx
      rcases hx with rfl | rfl | rfl | rfl | rfl | rfl | rfl | rfl | rfl | rfl | rfl | rfl | rfl | rfl | rfl | rfl | rfl | rfl | rfl <;> exact tkV_of (by decide +kernel)
    have n1 : ([.str "", .str "0", .str "-0", .str "-0", .str "-0", .str "00", .str "07", .str "+1", .str "1x", .str "x", .str "row", .str "spot", .str "card", .str "ground", .str "nobody", .str "Ab", .str "a1", .str "1/2", .str "-"] : List V).length = 19 := rfl
    generalize ([.str "", .str "0", .str "-0", .str "-0", .str "-0", .str "00", .str "07", .str "+1", .str "1x", .str "x", .str "row", .str "spot", .str "card", .str "ground", .str "nobody", .str "Ab", .str "a1", .str "1/2", .str "-"] : List V) = xs1 at s1 B1 t1 n1 ⊢
    have h1 : (upd H q1 (.lst xs1)) q1 = some (.lst xs1) := upd_same
    have f1 : (upd F q1 (.lst xs1)) q1 = some (.lst xs1) := upd_same
    generalize upd F q1 (.lst xs1) = F1 at s1 B1 f1
    generalize upd H q1 (.lst xs1) = H1 at s1 B1 h1 ⊢
    have e1 : V.str "1" = .str (S [49]) := congrArg V.str (by decide +kernel)
    have e9 : V.str "9" = .str (S [57]) := congrArg V.str (by decide +kernel)
    have e0 : V.str "0" = .str (S [48]) := congrArg V.str (by decide +kernel)
    refine ⟨_, rfl, [49], 30, e1, rfl, by decide, by decide, by decide, by decide, [49], 31, e1, rfl, by decide, by decide, by decide, by decide, [57], 30, e9, rfl, by decide, by decide, by decide, by decide, _, _, rfl, rfl, by decide +kernel, by show 11 ≤ sizeLine; decide, fun q2 hq2 => ?_⟩
    obtain ⟨s2, B2⟩ := newB (o := .lst [.str "--1", .str "-1", .str "1", .str "2", .str "3", .str "size", .str "abcdefghijkl", .str "abcdefghijklm", .str (S (rep (30 : Int).toNat [49])), .str (S (rep (31 : Int).toNat [49])), .str ("-" ++ S (rep (30 : Int).toNat [57]))]) s1 B1 hq2
    have t2 : ∀ x ∈ ([.str "--1", .str "-1", .str "1", .str "2", .str "3", .str "size", .str "abcdefghijkl", .str "abcdefghijklm", .str (S (rep (30 : Int).toNat [49])), .str (S (rep (31 : Int).toNat [49])), .str ("-" ++ S (rep (30 : Int).toNat [57]))] : List V), TkV x := by
      intro x hx
      simp only [List.mem_cons, List.not_mem_nil, or_false] at hx
      rcases hx with rfl | rfl | rfl | rfl | rfl | rfl | rfl | rfl | rfl | rfl | rfl <;> exact tkV_of (by decide +kernel)
    have n2 : ([.str "--1", .str "-1", .str "1", .str "2", .str "3", .str "size", .str "abcdefghijkl", .str "abcdefghijklm", .str (S (rep (30 : Int).toNat [49])), .str (S (rep (31 : Int).toNat [49])), .str ("-" ++ S (rep (30 : Int).toNat [57]))] : List V).length = 11 := rfl
    generalize ([.str "--1", .str "-1", .str "1", .str "2", .str "3", .str "size", .str "abcdefghijkl", .str "abcdefghijklm", .str (S (rep (30 : Int).toNat [49])), .str (S (rep (31 : Int).toNat [49])), .str ("-" ++ S (rep (30 : Int).toNat [57]))] : List V) = xs2 at s2 B2 t2 n2 ⊢
    have h2 : (upd H1 q2 (.lst xs2)) q2 = some (.lst xs2) := upd_same
    have g2 := same_new (o := .lst xs2) (s1.fh.free hq2)
    have f2 : (upd F1 q2 (.lst xs2)) q2 = some (.lst xs2) := upd_same
    generalize upd F1 q2 (.lst xs2) = F2 at s2 B2 f2 g2
    generalize upd H1 q2 (.lst xs2) = H2 at s2 B2 h2 ⊢
    refine ⟨q1, q2, _, _, rfl, rfl, s2.fh _ _ (g2 _ _ f1), h2, by rw [n1, n2]; show 19 + 11 ≤ sizeLine; decide, fun q3 hq3 => ?_⟩
    obtain ⟨s3, B3⟩ := newB (o := .lst (xs1 ++ xs2)) s2 B2 hq3
    have t3 : ∀ x ∈ xs1 ++ xs2, TkV x := fun x hx => by
      rcases List.mem_append.mp hx with hx | hx
      · exact t1 x hx
      · exact t2 x hx
    have n3 : (xs1 ++ xs2).length = 30 := by rw [List.length_append, n1, n2]
    generalize xs1 ++ xs2 = xs3 at s3 B3 t3 n3 ⊢
    have h3 : (upd H2 q3 (.lst xs3)) q3 = some (.lst xs3) := upd_same
    have f3 : (upd F2 q3 (.lst xs3)) q3 = some (.lst xs3) := upd_same
    generalize upd F2 q3 (.lst xs3) = F3 at s3 B3 f3
    generalize upd H2 q3 (.lst xs3) = H3 at s3 B3 h3 ⊢
    refine gn ?_
    try dsimp only
    refine ⟨_, rfl, [57], 31, e9, rfl, by decide, by decide, by decide, by decide, _, _, rfl, rfl, by decide +kernel, [48], 30, e0, rfl, by decide, by decide, by decide, by decide, by show 5 ≤ sizeLine; decide, fun q4 hq4 => ?_⟩
    obtain ⟨s4, B4⟩ := newB (o := .lst [.str ("-" ++ S (rep (31 : Int).toNat [57])), .str (S (rep (30 : Int).toNat [48])), .str "1.0", .str "a_b", .str "1_0"]) s3 B3 hq4
    have t4 : ∀ x ∈ ([.str ("-" ++ S (rep (31 : Int).toNat [57])), .str (S (rep (30 : Int).toNat [48])), .str "1.0", .str "a_b", .str "1_0"] : List V), TkV x := by
      intro x hx
      simp only [List.mem_cons, List.not_mem_nil, or_false] at hx
      rcases hx with rfl | rfl | rfl | rfl | rfl <;> exact tkV_of (by decide +kernel)
    have n4 : ([.str ("-" ++ S (rep (31 : Int).toNat [57])), .str (S (rep (30 : Int).toNat [48])), .str "1.0", .str "a_b", .str "1_0"] : List V).length = 5 := rfl
    generalize ([.str ("-" ++ S (rep (31 : Int).toNat [57])), .str (S (rep (30 : Int).toNat [48])), .str "1.0", .str "a_b", .str "1_0"] : List V) = xs4 at s4 B4 t4 n4 ⊢
    have h4 : (upd H3 q4 (.lst xs4)) q4 = some (.lst xs4) := upd_same
    have g4 := same_new (o := .lst xs4) (s3.fh.free hq4)
    have f4 : (upd F3 q4 (.lst xs4)) q4 = some (.lst xs4) := upd_same
    generalize upd F3 q4 (.lst xs4) = F4 at s4 B4 f4 g4
    generalize upd H3 q4 (.lst xs4) = H4 at s4 B4 h4 ⊢
    refine ⟨q3, q4, _, _, rfl, rfl, s4.fh _ _ (g4 _ _ f3), h4, by rw [n3, n4]; show 30 + 5 ≤ sizeLine; decide, fun q5 hq5 => ?_⟩
    obtain ⟨s5, B5⟩ := newB (o := .lst (xs3 ++ xs4)) s4 B4 hq5
    have t5 : ∀ x ∈ xs3 ++ xs4, TkV x := fun x hx => by
      rcases List.mem_append.mp hx with hx | hx
      · exact t3 x hx
      · exact t4 x hx
    have n5 : (xs3 ++ xs4).length = 35 := by rw [List.length_append, n3, n4]
    generalize xs3 ++ xs4 = xs5 at s5 B5 t5 n5 ⊢
    have h5 : (upd H4 q5 (.lst xs5)) q5 = some (.lst xs5) := upd_same
    have f5 : (upd F4 q5 (.lst xs5)) q5 = some (.lst xs5) := upd_same
    generalize upd F4 q5 (.lst xs5) = F5 at s5 B5 f5
    generalize upd H4 q5 (.lst xs5) = H5 at s5 B5 h5 ⊢
    refine gn ?_
    try dsimp only
    have ne5 : xs5 ≠ [] := by rintro rfl; cases n5
    refine ⟨_, rfl, _, rfl, F5, b, _, xs5, rfl, .inl ⟨q5, rfl, SqL.of f5⟩, ne5, by omega, B5, s5.fh, fun H6 x i s6 B6 hx => ?_⟩
    obtain ⟨L, rfl, hL⟩ := t5 x (List.mem_of_getElem? hx)
    exact k _ _ L (seqB s5 B5 s6) B6 hL
end
end K52

set_option Elab.async false
set_option linter.all false
set_option maxRecDepth 100000
set_option maxHeartbeats 4000000
namespace K52
open PySem PySem.Spec PyProof.Rows L2 Ew
open SX (S)
theorem tsL_get {us : List Tk} {i : Nat} {u : Tk} (h : us[i]? = some u) : (tsL us)[i]? = some (.str (S u)) := by unfold tsL; rw [List.getElem?_map, h]; rfl
theorem tsL_erase : ∀ (us : List Tk) (i : Nat), (tsL us).eraseIdx i = tsL (us.eraseIdx i)
  | [], _ => rfl
  | _ :: _, 0 => rfl
  | u :: us, i + 1 => congrArg (V.str (S u) :: ·) (tsL_erase us i)
theorem tsL_set (us : List Tk) (i : Nat) (u : Tk) : (tsL us).set i (.str (S u)) = tsL (us.set i u) := by unfold tsL; rw [List.map_set]
theorem tsL_ins (us : List Tk) (i : Nat) (u : Tk) : (tsL us).take i ++ [.str (S u)] ++ (tsL us).drop i = tsL (us.take i ++ [u] ++ us.drop i) := by unfold tsL; simp [List.map_take, List.map_drop]
theorem tsL_snoc (us : List Tk) (u : Tk) : tsL us ++ [.str (S u)] = tsL (us ++ [u]) := by unfold tsL; simp
/-- some words -/
structure Wds (n : Nat) (us : List Tk) : Prop where
  le : us.length ≤ n
  w : ∀ w ∈ us, TkOk w
theorem Wds.erase {n : Nat} {us : List Tk} (h : Wds n us) (i : Nat) : Wds (n + 1) (us.eraseIdx i) := ⟨by have := List.length_eraseIdx_le us i; have := h.le; omega, fun w hw => h.w w (List.mem_of_mem_eraseIdx hw)⟩
theorem Wds.set {n : Nat} {us : List Tk} (h : Wds n us) (i : Nat) {u : Tk} (k : TkOk u) : Wds (n + 1) (us.set i u) := ⟨by rw [List.length_set]; have := h.le; omega, fun w hw => by
  rcases List.mem_or_eq_of_mem_set hw with hw | rfl
  · exact h.w w hw
  · exact k⟩
theorem Wds.ins {n : Nat} {us : List Tk} (h : Wds n us) (i : Nat) {u : Tk} (k : TkOk u) : Wds (n + 1) (us.take i ++ [u] ++ us.drop i) := ⟨by have := h.le; simp only [List.length_append, List.length_take, List.length_drop, List.length_singleton]; omega, fun w hw => by
  simp only [List.mem_append, List.mem_singleton] at hw
  rcases hw with (hw | rfl) | hw
  · exact h.w w (List.mem_of_mem_take hw)
  · exact k
  · exact h.w w (List.mem_of_mem_drop hw)⟩
theorem Wds.app {n : Nat} {us : List Tk} (h : Wds n us) {u : Tk} (k : TkOk u) : Wds (n + 1) (us ++ [u]) := ⟨by have := h.le; rw [List.length_append, List.length_singleton]; omega, fun w hw => by
  rcases List.mem_append.mp hw with hw | hw
  · exact h.w w hw
  · rw [List.mem_singleton.mp hw]; exact k⟩
theorem Wds.join {n : Nat} {us : List Tk} (h : Wds n us) (hn : 1 ≤ n) : ∃ vs : List Tk, vs ≠ [] ∧ Wds n vs ∧ S (J us) = S (J vs) := by
  by_cases c : us = []
  · subst c
    exact ⟨[[]], by simp, ⟨by simpa using hn, fun w hw => by rw [List.mem_singleton.mp hw]; exact ⟨by decide, by decide, by decide⟩⟩, rfl⟩
  · exact ⟨us, c, h, rfl⟩
theorem ixN_nat {n : Nat} {i : Int} (h0 : 0 ≤ i) (h1 : i < n) : ixN n i = some i.toNat := by
  unfold ixN
  rw [if_pos h0, if_pos h1]
section
variable {P : Program} {w : World} {K : PySem.W.Frag} {mg : Str → Option Value} {base : Heap} {a : Ad}
def SpoilV (K : PySem.W.Frag) (F H : Hp) (b : Addr) (n : Nat) (Q : VK) : Prop := ∀ F' H' us, Sb b F H F' H' → Bag K b F' H' → us ≠ [] → Wds n us → Q (jv us) H'
def sp__law_spoil_words (K : PySem.W.Frag) : Sp := fun vs H Q _ => ∃ (F : Hp) (b : Addr) (us : List Tk) (n : Nat), vs = [.ref b, jv us] ∧ Bag K b F H ∧ Same F H ∧ us ≠ [] ∧ Wds n us ∧ n ≤ 200 ∧ SpoilV K F H b (n + 1) Q
theorem c__law_spoil_words (T : Txt K mg a) : Cl P w K mg base 4 "_law_spoil_words" P__law_spoil_words (sp__law_spoil_words K) [] :=
  T.d__law_spoil_words.cl sc__law_spoil_words (fun vs H Q E h => by obtain ⟨F, b, us, n, rfl, _⟩ := h; rfl) fun f cdv A outer s H vs Q E hr h => by
    obtain ⟨F, b, us, n, rfl, hB, hf, ne, wd, hn, k⟩ := h
    refine ⟨_, ((pss_cons (ps_set (i := 2) sc__law_spoil_words.nd rfl (Or.inl rfl) (pe_m1 PySem.F.slot_str_split PySem.F.type_str_split mt_split (pv 1) pe_str))
 (pss_cons (ps_set (i := 3) sc__law_spoil_words.nd rfl (Or.inl rfl) (pe_f (c__law_pick T) (takes_of rfl rfl rfl rfl) hr (by decide) rfl (pa_cons (pv 0) (pa_cons (pe_callB call_len_seq (by rfl) T.n_len (by decide +kernel) (pa_cons (pv 2) pa_nil)) pa_nil))))
 (pss_cons (ps_set (i := 4) sc__law_spoil_words.nd rfl (Or.inl rfl) (pe_f (c__law_pick T) (takes_of rfl rfl rfl rfl) hr (by decide) rfl (pa_cons (pv 0) (pa_cons pe_int pa_nil))))
 (pss_cons (ps_if (pt_cmpR op_eq (pv 4) pe_int (nomark _))
 (pss_one (ps_expr (by show PE _ _ (tBM K "list" rPopAt (tVar 2) (tCons (tVar 3) tNil)); exact pe_bm PySem.F.plainAttrs_list PySem.F.slot_list_pop PySem.F.type_list_pop mt_popAt (pv 2) (pa_cons (pv 3) pa_nil))))
 (pss_one (ps_if (pt_cmpR op_eq (pv 4) pe_int (nomark _))
 (pss_one (ps_expr (pe_bm PySem.F.plainAttrs_list PySem.F.slot_list_insert PySem.F.type_list_insert mt_insert (pv 2) (pa_cons (pv 3) (pa_cons (pe_f (c__law_odd_word T) (takes_of rfl rfl rfl rfl) hr (by decide) rfl (pa_cons (pv 0) pa_nil)) pa_nil)))))
 (pss_one (ps_if (pt_cmpR op_eq (pv 4) pe_int (nomark _))
 (pss_one (ps_expr (pe_bm PySem.F.plainAttrs_list PySem.F.slot_list_append PySem.F.type_list_append mt_append (pv 2) (pa_cons (pe_f (c__law_odd_word T) (takes_of rfl rfl rfl rfl) hr (by decide) rfl (pa_cons (pv 0) pa_nil)) pa_nil))))
 (pss_one (ps_if (pt_cmpR op_eq (pv 4) pe_int (nomark _))
 (pss_one (ps_expr (pe_bm PySem.F.plainAttrs_list PySem.F.slot_list_insert PySem.F.type_list_insert mt_insert (pv 2) (pa_cons (pv 3) (pa_cons (pe_ix ix_list (pv 2) (pv 3) (fun _ _ => rfl)) pa_nil)))))
 (pss_one (ps_asg (pe_f (c__law_odd_word T) (takes_of rfl rfl rfl rfl) hr (by decide) rfl (pa_cons (pv 0) pa_nil)) (pg_sub (pv 2) (pv 3) set_list))))))))))
 (pss_one (ps_ret (pe_m1 PySem.F.slot_str_join PySem.F.type_str_join mt_join pe_str (pv 2))))))))), ?_⟩
    have wk : WdOk us := ⟨ne, by have := wd.le; omega, wd.w⟩
    refine ⟨_, rfl, ⟨_, rfl⟩, _, _, rfl, rfl, by decide +kernel, by rw [SX.S_len, sizeLine_eq]; have := wk.len; omega, fun W hW => ?_⟩
    rw [wk.split, tsS]
    obtain ⟨s1, B1⟩ := rawB (o := .lst (tsL us)) (Stm.refl hf) hB hW
    have nb : W ≠ b := fun z => (memB K b).there hB z hW
    have fW : F W = none := hf.free hW
    have h1 : (upd H W (.lst (tsL us))) W = some (.lst (tsL us)) := upd_same
    generalize upd H W (.lst (tsL us)) = H1 at s1 B1 h1 ⊢
    refine gn ?_
    try dsimp only
    have lp : 0 < us.length := List.length_pos_iff.mpr ne
    have le := wd.le
    have ul := tsL_len us
    refine ⟨_, rfl, _, rfl, W, _, rfl, .inl (SqL.of h1), F, b, _, rfl, B1, s1.fh, by rw [ul]; omega, sz_len (by omega), fun H2 i s2 B2 i0 i1 => ?_⟩
    rw [ul] at i1
    refine gn ?_
    try dsimp only
    refine ⟨_, rfl, F, b, 6, rfl, B2, s2.fh, by decide, sz_of 3 (by decide) (by decide), fun H3 d s3 B3 d0 d1 => ?_⟩
    refine gn ?_
    try dsimp only
    have t3 := seqB (seqB s1 B1 s2) B2 s3
    have h3 := s3.hh W _ nb (s2.hh W _ nb h1)
    refine seq_with (fun σ' H' => ∃ F' us', σ' = [some (.ref b), some (jv us), some (.ref W), some (.int i), some (.int d)] ∧ Sb b F H F' H' ∧ Bag K b F' H' ∧ H' W = some (.lst (tsL us')) ∧ Wds (n + 1) us') (fun u hu => ?_) ?_
    · have hat : us[i.toNat]? = some (us[i.toNat]'(by omega)) := List.getElem?_eq_getElem _
      generalize us[i.toNat]'(by omega) = ui at hat
      have kui : TkOk ui := wd.w ui (List.mem_of_getElem? hat)
      have si : seqIndex? i (tsL us).length = some i.toNat := by
        rw [ul]
        unfold seqIndex?
        simp only [show ¬ i < 0 by omega, if_false]
        rw [decide_eq_true i0, decide_eq_true i1]
        rfl
      have mt : ∀ {F' H'} {us' : List Tk}, Sb b F H F' H' → Bag K b F' H' → F' W = none → Wds (n + 1) us' → ∃ F2 us2, ([some (.ref b), some (jv us), some (.ref W), some (.int i), some (.int d)] : List (Option V)) = [some (.ref b), some (jv us), some (.ref W), some (.int i), some (.int d)] ∧ Sb b F H F2 (upd H' W (.lst (tsL us'))) ∧ Bag K b F2 (upd H' W (.lst (tsL us'))) ∧ (upd H' W (.lst (tsL us'))) W = some (.lst (tsL us2)) ∧ Wds (n + 1) us2 := fun s B f wd' => by
        obtain ⟨s', B'⟩ := mutB (o := .lst (tsL _)) s B f hW nb
        exact ⟨_, _, rfl, s', B', upd_same, wd'⟩
      refine ⟨_, rfl, rfl, _, rfl, ite2 (fun _ => ?_) (fun _ => ?_)⟩
      · refine ⟨_, rfl, .inl ⟨rfl, _, SqL.of h3⟩, _, rfl, W, tsL us, i, i.toNat, .str (S ui), rfl, rfl, h3, by omega, by omega, si, tsL_get hat, ?_⟩
        rw [tsL_erase]
        exact hu _ _ (mt t3 B3 fW (wd.erase _))
      refine ⟨_, rfl, rfl, _, rfl, ite2 (fun _ => ?_) (fun _ => ?_)⟩
      · refine ⟨_, rfl, .inl ⟨rfl, _, SqL.of h3⟩, _, rfl, _, rfl, F, b, rfl, B3, t3.fh, fun F5 H5 L s5 B5 hL => ?_⟩
        have h5 := s5.hh W _ nb h3
        have f5 : F5 W = none := s5.nw W fW (by rw [h3]; exact fun z => nomatch z)
        refine ⟨W, tsL us, i, .str (S L), rfl, rfl, h5, by rw [ul, sizeLine_eq]; omega, i0, by omega, ?_⟩
        rw [tsL_ins]
        exact hu _ _ (mt (seqB t3 B3 s5) B5 f5 (wd.ins _ hL))
      refine ⟨_, rfl, rfl, _, rfl, ite2 (fun _ => ?_) (fun _ => ?_)⟩
      · refine ⟨_, rfl, .inl ⟨rfl, _, SqL.of h3⟩, _, rfl, F, b, rfl, B3, t3.fh, fun F5 H5 L s5 B5 hL => ?_⟩
        have h5 := s5.hh W _ nb h3
        have f5 : F5 W = none := s5.nw W fW (by rw [h3]; exact fun z => nomatch z)
        refine ⟨W, _, _, rfl, rfl, h5, by rw [ul, sizeLine_eq]; omega, ?_⟩
        rw [tsL_snoc]
        exact hu _ _ (mt (seqB t3 B3 s5) B5 f5 (wd.app hL))
      refine ⟨_, rfl, rfl, _, rfl, ite2 (fun _ => ?_) (fun _ => ?_)⟩
      · refine ⟨_, rfl, .inl ⟨rfl, _, SqL.of h3⟩, _, rfl, _, rfl, _, rfl, W, _, _, _, rfl, rfl, SqL.of h3, atI_int i0 (by omega) (tsL_get hat), W, tsL us, i, _, rfl, rfl, h3, by rw [ul, sizeLine_eq]; omega, i0, by omega, ?_⟩
        rw [tsL_ins]
        exact hu _ _ (mt t3 B3 fW (wd.ins _ kui))
      · refine ⟨_, rfl, F, b, rfl, B3, t3.fh, fun F5 H5 L s5 B5 hL => ?_⟩
        have h5 := s5.hh W _ nb h3
        have f5 : F5 W = none := s5.nw W fW (by rw [h3]; exact fun z => nomatch z)
        dsimp only [gSub]
        refine ⟨_, rfl, _, rfl, W, _, i, i.toNat, rfl, rfl, h5, ixN_nat i0 (by omega), ?_⟩
        rw [tsL_set]
        exact hu _ _ (mt (seqB t3 B3 s5) B5 f5 (wd.set _ hL))
    rintro _ H4 ⟨F4, us4, rfl, t4, B4, h4, w4⟩
    have l4 := w4.le
    refine ⟨⟨_, rfl⟩, _, rfl, _, W, us4.map S, rfl, rfl, .inl (SqL.of (by rw [h4, tsS])), ?_, ?_⟩
    · have h1 := sum_le fun w hw => (w4.w w hw).le
      rw [List.length_map]
      have h2 : us4.length * 200 ≤ 201 * 200 := Nat.mul_le_mul_right _ (by omega)
      show _ + us4.length * 1 ≤ _
      omega
    · rw [join_S]
      obtain ⟨vs, nv, wv, ev⟩ := w4.join (by omega)
      rw [ev]
      exact k _ _ vs t4 B4 nv wv
def sp__law_spoil_number (K : PySem.W.Frag) : Sp := fun vs H Q _ => ∃ (F : Hp) (b : Addr) (us : List Tk) (n : Nat), vs = [.ref b, jv us] ∧ Bag K b F H ∧ Same F H ∧ us ≠ [] ∧ Wds n us ∧ n ≤ 200 ∧ SpoilV K F H b (n + 1) Q
theorem c__law_spoil_number (T : Txt K mg a) : Cl P w K mg base 2 "_law_spoil_number" P__law_spoil_number (sp__law_spoil_number K) [] :=
  T.d__law_spoil_number.cl sc__law_spoil_number (fun vs H Q E h => by obtain ⟨F, b, us, n, rfl, _⟩ := h; rfl) fun f cdv A outer s H vs Q E hr h => by
    obtain ⟨F, b, us, n, rfl, hB, hf, ne, wd, hn, k⟩ := h
    refine ⟨_, ((pss_cons (ps_set (i := 2) sc__law_spoil_number.nd rfl (Or.inl rfl) (pe_m1 PySem.F.slot_str_split PySem.F.type_str_split mt_split (pv 1) pe_str))
 (pss_cons (ps_set (i := 3) sc__law_spoil_number.nd rfl (Or.inl rfl) (pe_f (c__law_pick T) (takes_of rfl rfl rfl rfl) hr (by decide) rfl (pa_cons (pv 0) (pa_cons (pe_callB call_len_seq (by rfl) T.n_len (by decide +kernel) (pa_cons (pv 2) pa_nil)) pa_nil))))
 (pss_cons (ps_set (i := 4) sc__law_spoil_number.nd rfl (Or.inl rfl) (pe_f (c__law_whole T) (takes_of rfl rfl rfl rfl) hr (by decide) rfl (pa_cons (pe_ix ix_list (pv 2) (pv 3) (fun _ _ => rfl)) pa_nil)))
 (pss_cons (ps_if (PW.pt (pw_and (pt_cmpR op_notN (pv 4) pe_non (nomark _)) (pw_and1 (pt_cmpR op_lt (pe_callB call_abs (by rfl) T.n_abs (by decide +kernel) (pa_cons (pv 4) pa_nil)) (pe_op op_pow pe_int pe_int) (nomark _)))))
 (pss_one (ps_asg (pe_callTy call_str_int (by rfl) T.n_str (by decide +kernel) (pa_cons (pe_op op_sub (pe_op op_add (pv 4) (pe_f (c__law_pick T) (takes_of rfl rfl rfl rfl) hr (by decide) rfl (pa_cons (pv 0) (pa_cons pe_int pa_nil)))) pe_int) pa_nil)) (pg_sub (pv 2) (pv 3) set_list)))
 pss_nil)
 (pss_one (ps_ret (pe_m1 PySem.F.slot_str_join PySem.F.type_str_join mt_join pe_str (pv 2))))))))), ?_⟩
    have wk : WdOk us := ⟨ne, by have := wd.le; omega, wd.w⟩
    refine ⟨_, rfl, ⟨_, rfl⟩, _, _, rfl, rfl, by decide +kernel, by rw [SX.S_len, sizeLine_eq]; have := wk.len; omega, fun W hW => ?_⟩
    rw [wk.split, tsS]
    obtain ⟨s1, B1⟩ := rawB (o := .lst (tsL us)) (Stm.refl hf) hB hW
    have nb : W ≠ b := fun z => (memB K b).there hB z hW
    have fW : F W = none := hf.free hW
    have h1 : (upd H W (.lst (tsL us))) W = some (.lst (tsL us)) := upd_same
    generalize upd H W (.lst (tsL us)) = H1 at s1 B1 h1 ⊢
    refine gn ?_
    try dsimp only
    have lp : 0 < us.length := List.length_pos_iff.mpr ne
    have le := wd.le
    have ul := tsL_len us
    refine ⟨_, rfl, _, rfl, W, _, rfl, .inl (SqL.of h1), F, b, _, rfl, B1, s1.fh, by rw [ul]; omega, sz_len (by omega), fun H2 i s2 B2 i0 i1 => ?_⟩
    rw [ul] at i1
    refine gn ?_
    try dsimp only
    have h2 := s2.hh W _ nb h1
    have t2 := seqB s1 B1 s2
    have hat : us[i.toNat]? = some (us[i.toNat]'(by omega)) := List.getElem?_eq_getElem _
    generalize us[i.toNat]'(by omega) = ui at hat
    have kui : TkOk ui := wd.w ui (List.mem_of_getElem? hat)
    refine ⟨_, rfl, _, rfl, W, _, _, _, rfl, rfl, SqL.of h2, atI_int i0 (by omega) (tsL_get hat), ui, rfl, kui.le, ?_⟩
    refine gn ?_
    try dsimp only
    refine seq_with (fun σ' H' => ∃ us', σ' = [some (.ref b), some (jv us), some (.ref W), some (.int i), some (whV ui)] ∧ Sb b F H F H' ∧ Bag K b F H' ∧ H' W = some (.lst (tsL us')) ∧ Wds (n + 1) us') (fun u hu => ?_) ?_
    · have out : Wds (n + 1) us := ⟨by omega, wd.w⟩
      by_cases c : isWh 30 ui = true
      · have eW : whV ui = .int (wholeVal ui) := by unfold whV; rw [if_pos c]
        rw [eW] at hu ⊢
        refine ⟨_, rfl, rfl, _, rfl, iteY (by rw [decide_eq_false (fun z => nomatch z)]; rfl) ?_⟩
        refine ⟨_, rfl, _, rfl, ?_⟩
        have ab : (if wholeVal ui < 0 then -(wholeVal ui) else wholeVal ui) = ((wholeVal ui).natAbs : Int) := by split <;> omega
        rw [ab]
        refine ⟨_, _, rfl, rfl, ⟨by decide, by decide, by decide⟩, ?_⟩
        dsimp only
        have t29 : (29 : Int).toNat = 29 := rfl
        rw [t29]
        generalize hp : (10 : Int) ^ 29 = p29
        refine ⟨_, _, rfl, rfl, _, rfl, ite2 (fun e => ?_) (fun e => ?_)⟩
        · have e := of_decide_eq_true e
          refine ⟨_, rfl, _, rfl, F, b, 5, rfl, B2, s2.fh, by decide, sz_of 3 (by decide) (by decide), fun H3 j s3 B3 j0 j1 => ?_⟩
          have h3 := s3.hh W _ nb h2
          have t3 := seqB t2 B2 s3
          have nj : (wholeVal ui + j - 2).natAbs < 10 ^ 30 := by
            have e' : ((wholeVal ui).natAbs : Int) < 10 ^ 29 := by rw [hp]; exact e
            omega
          refine ⟨_, _, rfl, rfl, _, _, rfl, rfl, _, rfl, log30 nj, ?_⟩
          dsimp only
          rw [S_int]
          refine ⟨_, rfl, _, rfl, W, _, i, i.toNat, rfl, rfl, h3, ixN_nat i0 (by omega), ?_⟩
          rw [tsL_set]
          obtain ⟨s', B'⟩ := mutB (o := .lst (tsL (us.set i.toNat (intL (wholeVal ui + j - 2))))) t3 B3 fW hW nb
          exact hu _ _ ⟨_, rfl, s', B', upd_same, wd.set _ (tkOk_int nj)⟩
        · exact hu _ _ ⟨us, rfl, t2, B2, h2, out⟩
      · have eW : whV ui = .non := by unfold whV; rw [if_neg c]
        rw [eW] at hu ⊢
        refine ⟨_, rfl, rfl, _, rfl, iteN (by decide) ?_⟩
        exact hu _ _ ⟨us, rfl, t2, B2, h2, out⟩
    rintro _ H4 ⟨us4, rfl, t4, B4, h4, w4⟩
    have l4 := w4.le
    refine ⟨⟨_, rfl⟩, _, rfl, _, W, us4.map S, rfl, rfl, .inl (SqL.of (by rw [h4, tsS])), ?_, ?_⟩
    · have h1 := sum_le fun w hw => (w4.w w hw).le
      rw [List.length_map]
      have h2 : us4.length * 200 ≤ 201 * 200 := Nat.mul_le_mul_right _ (by omega)
      show _ + us4.length * 1 ≤ _
      omega
    · rw [join_S]
      obtain ⟨vs, nv, wv, ev⟩ := w4.join (by omega)
      rw [ev]
      exact k _ _ vs t4 B4 nv wv
end
end K52

set_option Elab.async false
set_option linter.all false
set_option maxRecDepth 100000
set_option maxHeartbeats 4000000
namespace K52
open PySem PySem.Spec PyProof.Rows L2 Ew
open SX (S)
theorem map_erase {α β : Type} (f : α → β) : ∀ (us : List α) (i : Nat), (us.map f).eraseIdx i = (us.eraseIdx i).map f
  | [], _ => rfl
  | _ :: _, 0 => rfl
  | u :: us, i + 1 => congrArg (f u :: ·) (map_erase f us i)
theorem map_get {α β : Type} {f : α → β} {us : List α} {i : Nat} {u : α} (h : us[i]? = some u) : (us.map f)[i]? = some (f u) := by rw [List.getElem?_map, h]; rfl
theorem map_ins {α β : Type} (f : α → β) (us : List α) (i : Nat) (u : α) : (us.map f).take i ++ [f u] ++ (us.map f).drop i = (us.take i ++ [u] ++ us.drop i).map f := by simp [List.map_take, List.map_drop]
theorem map_snoc {α β : Type} (f : α → β) (us : List α) (u : α) : us.map f ++ [f u] = (us ++ [u]).map f := by simp
theorem J_lt : ∀ {us : List Tk}, (∀ w ∈ us, ∀ c ∈ w, c < 1114112) → ∀ c ∈ J us, c < 1114112
  | [], _, c, hc => nomatch hc
  | [u], h, c, hc => h u List.mem_cons_self c hc
  | u :: v :: us, h, c, hc => by
    rw [J_cons (by simp)] at hc
    rcases List.mem_append.mp hc with hc | hc
    · exact h u List.mem_cons_self c hc
    · rcases List.mem_cons.mp hc with rfl | hc
      · decide
      · exact J_lt (fun w hw => h w (List.mem_cons_of_mem _ hw)) c hc
theorem jv_ts (ls : List (List Tk)) : ls.map jv = tsL (ls.map J) := by unfold tsL; rw [List.map_map]; rfl
def Wn (n : Nat) (us : List Tk) : Prop := us ≠ [] ∧ Wds n us
theorem Wn.mono {n m : Nat} {us : List Tk} (h : Wn n us) (k : n ≤ m) : Wn m us := ⟨h.1, by have := h.2.le; omega, h.2.w⟩
/-- some lines -/
structure Lx (n : Nat) (ls : List (List Tk)) : Prop where
  le : ls.length ≤ n
  al : ∀ us ∈ ls, Wn n us
theorem LsB.lx {n : Nat} {ls : List (List Tk)} (h : LsB n ls) : Lx n ls := ⟨h.le, fun us hu => ⟨h.pos us hu, h.wl us hu, h.w us hu⟩⟩
theorem Lx.ls {n : Nat} {ls : List (List Tk)} (h : Lx n ls) (ne : ls ≠ []) : LsB n ls := ⟨ne, h.le, fun us hu => (h.al us hu).1, fun us hu => (h.al us hu).2.le, fun us hu => (h.al us hu).2.w⟩
theorem Lx.fl {n : Nat} {ls : List (List Tk)} (h : Lx n ls) : Fl 1 (ssD (ls.map J)) := fl_ss fun w hw => by
  obtain ⟨us, hu, rfl⟩ := List.mem_map.mp hw
  exact J_lt fun w hw => ((h.al us hu).2.w w hw).lt
theorem dp_ls {K : PySem.W.Frag} {H : Hp} {p : Addr} {ls : List (List Tk)} (h : SqL K H p (ls.map jv)) : Dp K H (.ref p) (ssD (ls.map J)) := dp_ss (by rw [← jv_ts]; exact h)
theorem Lx.erase {n : Nat} {ls : List (List Tk)} (h : Lx n ls) (i : Nat) : Lx (n + 1) (ls.eraseIdx i) := ⟨by have := List.length_eraseIdx_le ls i; have := h.le; omega, fun w hw => (h.al w (List.mem_of_mem_eraseIdx hw)).mono (by omega)⟩
theorem Lx.set {n : Nat} {ls : List (List Tk)} (h : Lx n ls) (i : Nat) {u : List Tk} (k : Wn (n + 1) u) : Lx (n + 1) (ls.set i u) := ⟨by rw [List.length_set]; have := h.le; omega, fun w hw => by
  rcases List.mem_or_eq_of_mem_set hw with hw | rfl
  · exact (h.al w hw).mono (by omega)
  · exact k⟩
theorem Lx.set0 {n : Nat} {ls : List (List Tk)} (h : Lx n ls) (i : Nat) {u : List Tk} (k : Wn n u) : Lx n (ls.set i u) := ⟨by rw [List.length_set]; exact h.le, fun w hw => by
  rcases List.mem_or_eq_of_mem_set hw with hw | rfl
  · exact h.al w hw
  · exact k⟩
theorem Lx.ins {n : Nat} {ls : List (List Tk)} (h : Lx n ls) (i : Nat) {u : List Tk} (k : Wn (n + 1) u) : Lx (n + 1) (ls.take i ++ [u] ++ ls.drop i) := ⟨by have := h.le; simp only [List.length_append, List.length_take, List.length_drop, List.length_singleton]; omega, fun w hw => by
  simp only [List.mem_append, List.mem_singleton] at hw
  rcases hw with (hw | rfl) | hw
  · exact (h.al w (List.mem_of_mem_take hw)).mono (by omega)
  · exact k
  · exact (h.al w (List.mem_of_mem_drop hw)).mono (by omega)⟩
theorem Lx.app {n : Nat} {ls : List (List Tk)} (h : Lx n ls) {u : List Tk} (k : Wn (n + 1) u) : Lx (n + 1) (ls ++ [u]) := ⟨by have := h.le; rw [List.length_append, List.length_singleton]; omega, fun w hw => by
  rcases List.mem_append.mp hw with hw | hw
  · exact (h.al w hw).mono (by omega)
  · rw [List.mem_singleton.mp hw]; exact k⟩
theorem wn_of {n : Nat} {us : List Tk} (h : us ≠ []) (l : us.length ≤ n) (k : us.all (fun w => decide (w.length ≤ 200) && w.all fun c => decide (c < 1114112) && decide (c ≠ 32)) = true) : Wn n us := ⟨h, l, fun w hw => by
  have := List.all_eq_true.mp k w hw
  rw [Bool.and_eq_true, List.all_eq_true] at this
  refine ⟨of_decide_eq_true this.1, fun c hc => ?_, fun hc => ?_⟩
  · have := this.2 c hc
    rw [Bool.and_eq_true] at this
    exact of_decide_eq_true this.1
  · have := this.2 32 hc
    rw [Bool.and_eq_true] at this
    exact absurd rfl (of_decide_eq_true this.2)⟩
section
variable {P : Program} {w : World} {K : PySem.W.Frag} {mg : Str → Option Value} {base : Heap} {a : Ad}
def sp__law_spoil_lines (K : PySem.W.Frag) : Sp := fun vs H Q _ => ∃ (F : Hp) (b p : Addr) (ls : List (List Tk)) (n : Nat), vs = [.ref b, .ref p] ∧ Bag K b F H ∧ Same F H ∧ F p = some (.lst (ls.map jv)) ∧ LsB n ls ∧ 4 ≤ n ∧ n ≤ 200 ∧
  ∀ F' H' D ls', Sb b F H F' H' → Bag K b F' H' → F' D = some (.lst (ls'.map jv)) → LsB (n + 1) ls' → Q (.ref D) H'
theorem c__law_spoil_lines (T : Txt K mg a) : Cl P w K mg base 5 "_law_spoil_lines" P__law_spoil_lines (sp__law_spoil_lines K) [] :=
  T.d__law_spoil_lines.cl sc__law_spoil_lines (fun vs H Q E h => by obtain ⟨F, b, p, ls, n, rfl, _⟩ := h; rfl) fun f cdv A outer s H vs Q E hr h => by
    obtain ⟨F, b, p, ls, n, rfl, hB, hf, hp, lb, hn4, hn, k⟩ := h
    refine ⟨_, ((pss_cons (ps_set (i := 2) sc__law_spoil_lines.nd rfl (Or.inl rfl) (pe_f (c__law_pick T) (takes_of rfl rfl rfl rfl) hr (by decide) rfl (pa_cons (pv 0) (pa_cons pe_int pa_nil))))
 (pss_cons (ps_set (i := 3) sc__law_spoil_lines.nd rfl (Or.inl rfl) (pe_f (c__law_pick T) (takes_of rfl rfl rfl rfl) hr (by decide) rfl (pa_cons (pv 0) (pa_cons (pe_callB call_len_seq (by rfl) T.n_len (by decide +kernel) (pa_cons (pv 1) pa_nil)) pa_nil))))
 (pss_cons (ps_set (i := 4) sc__law_spoil_lines.nd rfl (Or.inl rfl) (pe_f (c__law_pick T) (takes_of rfl rfl rfl rfl) hr (by decide) rfl (pa_cons (pv 0) (pa_cons (pe_callB call_len_seq (by rfl) T.n_len (by decide +kernel) (pa_cons (pv 1) pa_nil)) pa_nil))))
 (pss_cons (ps_set (i := 5) sc__law_spoil_lines.nd rfl (Or.inl rfl) (pe_callTy call_list_of (by rfl) T.n_list (by decide +kernel) (pa_cons (pv 1) pa_nil)))
 (pss_cons (ps_if (pt_cmpR op_eq (pv 2) pe_int (nomark _))
 (pss_one (ps_expr (by show PE _ _ (tBM K "list" rPopAt (tVar 5) (tCons (tVar 3) tNil)); exact pe_bm PySem.F.plainAttrs_list PySem.F.slot_list_pop PySem.F.type_list_pop mt_popAt (pv 5) (pa_cons (pv 3) pa_nil))))
 (pss_one (ps_if (pt_cmpR op_eq (pv 2) pe_int (nomark _))
 (pss_one (ps_expr (pe_bm PySem.F.plainAttrs_list PySem.F.slot_list_insert PySem.F.type_list_insert mt_insert (pv 5) (pa_cons (pv 3) (pa_cons (pe_ix ix_list (pv 1) (pv 4) (fun _ _ => rfl)) pa_nil)))))
 (pss_one (ps_if (pt_cmpR op_eq (pv 2) pe_int (nomark _))
 (pss_cons (ps_asg (pe_ix ix_list (pv 1) (pv 4) (fun _ _ => rfl)) (pg_sub (pv 5) (pv 3) set_list))
 (pss_one (ps_asg (pe_ix ix_list (pv 1) (pv 3) (fun _ _ => rfl)) (pg_sub (pv 5) (pv 4) set_list))))
 (pss_one (ps_if (pt_cmpR op_eq (pv 2) pe_int (nomark _))
 (pss_one (ps_expr (pe_bm PySem.F.plainAttrs_list PySem.F.slot_list_append PySem.F.type_list_append mt_append (pv 5) (pa_cons (pe_f (c__law_choice T) (takes_of rfl rfl rfl rfl) hr (by decide) rfl (pa_cons (pv 0) (pa_cons (pe_lst (pa_cons pe_str (pa_cons pe_str (pa_cons pe_str (pa_cons pe_str (pa_cons pe_str (pa_cons pe_str (pa_cons (pe_ix ix_list (pv 1) (pv 3) (fun _ _ => rfl)) pa_nil)))))))) pa_nil))) pa_nil))))
 (pss_one (ps_if (pt_cmpR op_eq (pv 2) pe_int (nomark _))
 (pss_one (ps_asg (pe_ix ix_list (pv 1) (pv 4) (fun _ _ => rfl)) (pg_sub (pv 5) (pv 3) set_list)))
 (pss_one (ps_if (pt_cmpR op_lt (pv 2) pe_int (nomark _))
 (pss_one (ps_asg (pe_f (c__law_spoil_number T) (takes_of rfl rfl rfl rfl) hr (by decide) rfl (pa_cons (pv 0) (pa_cons (pe_ix ix_list (pv 1) (pv 3) (fun _ _ => rfl)) pa_nil))) (pg_sub (pv 5) (pv 3) set_list)))
 (pss_one (ps_asg (pe_f (c__law_spoil_words T) (takes_of rfl rfl rfl rfl) hr (by decide) rfl (pa_cons (pv 0) (pa_cons (pe_ix ix_list (pv 1) (pv 3) (fun _ _ => rfl)) pa_nil))) (pg_sub (pv 5) (pv 3) set_list))))))))))))))
 (pss_one (ps_ret (pe_ifExp (pt_cmpR (op_neD hr.units) (pv 5) (pe_lst pa_nil) (nomark _)) (pv 5) (pe_lst (pa_cons pe_str pa_nil))))))))))), ?_⟩
    have lx := lb.lx
    have lp : 0 < ls.length := List.length_pos_iff.mpr lb.ne
    have le := lx.le
    have ll : (ls.map jv).length = ls.length := by rw [List.length_map]
    refine ⟨_, rfl, F, b, 10, rfl, hB, hf, by decide, sz_of 4 (by decide) (by decide), fun H1 d s1 B1 d0 d1 => ?_⟩
    refine gn ?_
    try dsimp only
    refine ⟨_, rfl, _, rfl, p, _, rfl, .inl (SqL.of (s1.fh _ _ hp)), F, b, _, rfl, B1, s1.fh, by rw [ll]; omega, sz_len (by omega), fun H2 i s2 B2 i0 i1 => ?_⟩
    refine gn ?_
    try dsimp only
    refine ⟨_, rfl, _, rfl, p, _, rfl, .inl (SqL.of (s2.fh _ _ hp)), F, b, _, rfl, B2, s2.fh, by rw [ll]; omega, sz_len (by omega), fun H3 j s3 B3 j0 j1 => ?_⟩
    rw [ll] at i1 j1
    refine gn ?_
    try dsimp only
    have t3 := seqB (seqB s1 B1 s2) B2 s3
    refine ⟨_, rfl, p, _, rfl, .inl (SqL.of (s3.fh _ _ hp)), fun W hW => ?_⟩
    have h0 : H W = none := t3.fresh (fun x z => (memB K b).there B3 z) hW
    have nb : W ≠ b := fun z => (memB K b).there B3 z hW
    have fW : F W = none := t3.fh.free hW
    obtain ⟨t4, B4⟩ := rawB (o := .lst (ls.map jv)) t3 B3 hW
    have h4 : (upd H3 W (.lst (ls.map jv))) W = some (.lst (ls.map jv)) := upd_same
    generalize upd H3 W (.lst (ls.map jv)) = H4 at t4 B4 h4 ⊢
    refine gn ?_
    try dsimp only
    have hi : ls[i.toNat]? = some (ls[i.toNat]'(by omega)) := List.getElem?_eq_getElem _
    generalize ls[i.toNat]'(by omega) = ui at hi
    have hj : ls[j.toNat]? = some (ls[j.toNat]'(by omega)) := List.getElem?_eq_getElem _
    generalize ls[j.toNat]'(by omega) = uj at hj
    have ki := lx.al ui (List.mem_of_getElem? hi)
    have kj := lx.al uj (List.mem_of_getElem? hj)
    have ki' := ki.mono (Nat.le_succ n)
    have kj' := kj.mono (Nat.le_succ n)
    have pr : ∀ {F' H' : Hp}, Sb b F H F' H' → SqL K H' p (ls.map jv) := fun s => SqL.of (s.fh _ _ (s.ff _ _ hp))
    have gi : atI (ls.map jv) i = some (jv ui) := atI_int i0 (by omega) (map_get hi)
    have gj : atI (ls.map jv) j = some (jv uj) := atI_int j0 (by omega) (map_get hj)
    have mt : ∀ {F' H'} {us' : List (List Tk)}, Sb b F H F' H' → Bag K b F' H' → F' W = none → Lx (n + 1) us' → ∃ F2 us2, ([some (.ref b), some (.ref p), some (.int d), some (.int i), some (.int j), some (.ref W)] : List (Option V)) = [some (.ref b), some (.ref p), some (.int d), some (.int i), some (.int j), some (.ref W)] ∧ Sb b F H F2 (upd H' W (.lst (us'.map jv))) ∧ Bag K b F2 (upd H' W (.lst (us'.map jv))) ∧ F2 W = none ∧ (upd H' W (.lst (us'.map jv))) W = some (.lst (us2.map jv)) ∧ Lx (n + 1) us2 := fun s B f wd' => by
      obtain ⟨s', B'⟩ := mutB (o := .lst (List.map jv _)) s B f h0 nb
      exact ⟨_, _, rfl, s', B', f, upd_same, wd'⟩
    refine seq_with (fun σ' H' => ∃ F' us', σ' = [some (.ref b), some (.ref p), some (.int d), some (.int i), some (.int j), some (.ref W)] ∧ Sb b F H F' H' ∧ Bag K b F' H' ∧ F' W = none ∧ H' W = some (.lst (us'.map jv)) ∧ Lx (n + 1) us') (fun u hu => ?_) ?_
    · have si : seqIndex? i (ls.map jv).length = some i.toNat := by
        rw [ll]
        unfold seqIndex?
        simp only [show ¬ i < 0 by omega, if_false]
        rw [decide_eq_true i0, decide_eq_true i1]
        rfl
      refine ⟨_, rfl, rfl, _, rfl, ite2 (fun _ => ?_) (fun _ => ?_)⟩
      · refine ⟨_, rfl, .inl ⟨rfl, _, SqL.of h4⟩, _, rfl, W, _, i, i.toNat, jv ui, rfl, rfl, h4, by omega, by omega, si, map_get hi, ?_⟩
        rw [map_erase]
        exact hu _ _ (mt t4 B4 fW (lx.erase _))
      refine ⟨_, rfl, rfl, _, rfl, ite2 (fun _ => ?_) (fun _ => ?_)⟩
      · refine ⟨_, rfl, .inl ⟨rfl, _, SqL.of h4⟩, _, rfl, _, rfl, _, rfl, p, _, _, _, rfl, rfl, pr t4, gj, W, _, i, _, rfl, rfl, h4, by rw [ll, sizeLine_eq]; omega, i0, by omega, ?_⟩
        rw [map_ins]
        exact hu _ _ (mt t4 B4 fW (lx.ins _ kj'))
      refine ⟨_, rfl, rfl, _, rfl, ite2 (fun _ => ?_) (fun _ => ?_)⟩
      · refine ⟨_, rfl, _, rfl, p, _, _, _, rfl, rfl, pr t4, gj, ?_⟩
        dsimp only [gSub]
        refine ⟨_, rfl, _, rfl, W, _, i, i.toNat, rfl, rfl, h4, ixN_nat i0 (by rw [ll]; omega), ?_⟩
        rw [← List.map_set]
        obtain ⟨t5, B5⟩ := mutB (o := .lst ((ls.set i.toNat uj).map jv)) t4 B4 fW h0 nb
        have h5 : (upd H4 W (.lst ((ls.set i.toNat uj).map jv))) W = some (.lst ((ls.set i.toNat uj).map jv)) := upd_same
        generalize upd H4 W (.lst ((ls.set i.toNat uj).map jv)) = H5 at t5 B5 h5 ⊢
        refine ⟨_, rfl, _, rfl, p, _, _, _, rfl, rfl, pr t5, gi, ?_⟩
        dsimp only [gSub]
        refine ⟨_, rfl, _, rfl, W, _, j, j.toNat, rfl, rfl, h5, ixN_nat j0 (by rw [List.length_map, List.length_set]; omega), ?_⟩
        rw [← List.map_set]
        exact hu _ _ (mt t5 B5 fW ((lx.set0 _ kj).set _ ki'))
      refine ⟨_, rfl, rfl, _, rfl, ite2 (fun _ => ?_) (fun _ => ?_)⟩
      · refine ⟨_, rfl, .inl ⟨rfl, _, SqL.of h4⟩, _, rfl, _, rfl, _, rfl, p, _, _, _, rfl, rfl, pr t4, gi, by show 7 ≤ sizeLine; decide, fun q hq => ?_⟩
        obtain ⟨t5, B5⟩ := newB (o := .lst [.str "row 0", .str "spot a 0 0", .str " ", .str "card 1", .str "end", .str "row", jv ui]) t4 B4 hq
        have nq : W ≠ q := fun z => by rw [← z, h4] at hq; cases hq
        have f5 : (upd F q (.lst [.str "row 0", .str "spot a 0 0", .str " ", .str "card 1", .str "end", .str "row", jv ui])) W = none := by rw [upd_ne nq]; exact fW
        have h5 : (upd H4 q (.lst [.str "row 0", .str "spot a 0 0", .str " ", .str "card 1", .str "end", .str "row", jv ui])) W = some (.lst (ls.map jv)) := by rw [upd_ne nq]; exact h4
        refine ⟨_, b, _, [.str "row 0", .str "spot a 0 0", .str " ", .str "card 1", .str "end", .str "row", jv ui], rfl, .inl ⟨q, rfl, SqL.of upd_same⟩, by simp, by show 7 ≤ 1000; decide, B5, t5.fh, fun H6 x m s6 B6 hx => ?_⟩
        obtain ⟨us, rfl, hus⟩ : ∃ us, x = jv us ∧ Wn (n + 1) us := by
          have hm := List.mem_of_getElem? hx
          simp only [List.mem_cons, List.not_mem_nil, or_false] at hm
          rcases hm with rfl | rfl | rfl | rfl | rfl | rfl | rfl
          · exact ⟨[lR, [48]], congrArg V.str (by decide +kernel), wn_of (by simp) (by show 2 ≤ n + 1; omega) (by decide)⟩
          · exact ⟨[lS, [97], [48], [48]], congrArg V.str (by decide +kernel), wn_of (by simp) (by show 4 ≤ n + 1; omega) (by decide)⟩
          · exact ⟨[[], []], congrArg V.str (by decide +kernel), wn_of (by simp) (by show 2 ≤ n + 1; omega) (by decide)⟩
          · exact ⟨[lC, [49]], congrArg V.str (by decide +kernel), wn_of (by simp) (by show 2 ≤ n + 1; omega) (by decide)⟩
          · exact ⟨[[101, 110, 100]], congrArg V.str (by decide +kernel), wn_of (by simp) (by show 1 ≤ n + 1; omega) (by decide)⟩
          · exact ⟨[lR], congrArg V.str (by decide +kernel), wn_of (by simp) (by show 1 ≤ n + 1; omega) (by decide)⟩
          · exact ⟨ui, rfl, ki'⟩
        have h6 := s6.hh W _ nb h5
        refine ⟨W, _, _, rfl, rfl, h6, by rw [ll, sizeLine_eq]; omega, ?_⟩
        rw [map_snoc]
        exact hu _ _ (mt (seqB t5 B5 s6) B6 f5 (lx.app hus))
      refine ⟨_, rfl, rfl, _, rfl, ite2 (fun _ => ?_) (fun _ => ?_)⟩
      · refine ⟨_, rfl, _, rfl, p, _, _, _, rfl, rfl, pr t4, gj, ?_⟩
        dsimp only [gSub]
        refine ⟨_, rfl, _, rfl, W, _, i, i.toNat, rfl, rfl, h4, ixN_nat i0 (by rw [ll]; omega), ?_⟩
        rw [← List.map_set]
        exact hu _ _ (mt t4 B4 fW (lx.set _ kj'))
      have fin : ∀ F6 H6 us, Sb b F H4 F6 H6 → Bag K b F6 H6 → us ≠ [] → Wds (n + 1) us → ∃ F2 us2, ([some (.ref b), some (.ref p), some (.int d), some (.int i), some (.int j), some (.ref W)] : List (Option V)) = [some (.ref b), some (.ref p), some (.int d), some (.int i), some (.int j), some (.ref W)] ∧ Sb b F H F2 (upd H6 W (.lst ((ls.set i.toNat us).map jv))) ∧ Bag K b F2 (upd H6 W (.lst ((ls.set i.toNat us).map jv))) ∧ F2 W = none ∧ (upd H6 W (.lst ((ls.set i.toNat us).map jv))) W = some (.lst (us2.map jv)) ∧ Lx (n + 1) us2 := fun F6 H6 us s6 B6 ne w6 =>
        mt (seqB t4 B4 s6) B6 (s6.nw W fW (by rw [h4]; exact fun z => nomatch z)) (lx.set _ ⟨ne, w6⟩)
      refine ⟨_, rfl, _, _, rfl, rfl, _, rfl, ite2 (fun _ => ?_) (fun _ => ?_)⟩
      · refine ⟨_, rfl, _, rfl, _, rfl, p, _, _, _, rfl, rfl, pr t4, gi, F, b, ui, n, rfl, B4, t4.fh, ki.1, ki.2, hn, fun F6 H6 us s6 B6 ne w6 => ?_⟩
        have h6 := s6.hh W _ nb h4
        dsimp only [gSub]
        refine ⟨_, rfl, _, rfl, W, _, i, i.toNat, rfl, rfl, h6, ixN_nat i0 (by rw [ll]; omega), ?_⟩
        rw [← List.map_set]
        exact hu _ _ (fin F6 H6 us s6 B6 ne w6)
      · refine ⟨_, rfl, _, rfl, _, rfl, p, _, _, _, rfl, rfl, pr t4, gi, F, b, ui, n, rfl, B4, t4.fh, ki.1, ki.2, hn, fun F6 H6 us s6 B6 ne w6 => ?_⟩
        have h6 := s6.hh W _ nb h4
        dsimp only [gSub]
        refine ⟨_, rfl, _, rfl, W, _, i, i.toNat, rfl, rfl, h6, ixN_nat i0 (by rw [ll]; omega), ?_⟩
        rw [← List.map_set]
        exact hu _ _ (fin F6 H6 us s6 B6 ne w6)
    rintro _ H5 ⟨F5, us5, rfl, t5, B5, f5, h5, l5⟩
    have e1 : V.str "card" = jv [lC] := by rw [eC]; rfl
    have nfr := freezeB t5 B5 f5 h0 nb h5
    refine ⟨_, rfl, by show 0 ≤ sizeLine; decide, fun q hq => ?_⟩
    have nq : W ≠ q := fun z => by rw [← z, h5] at hq; cases hq
    refine ⟨ssD (us5.map J), ssD [], dp_ls (SqL.of (by rw [upd_ne nq]; exact h5)), dp_ss (us := []) (SqL.of upd_same), (l5.fl).sh (by decide), (fl_ss (us := []) (by simp)).sh (by decide), _, rfl, ?_⟩
    rw [eqv_ss]
    obtain ⟨t6, B6⟩ := newB (o := .lst []) nfr.1 nfr.2 hq
    by_cases c : us5 = []
    · subst c
      refine iteN (by decide) ⟨by show 1 ≤ sizeLine; decide, fun r hr => ?_⟩
      obtain ⟨t7, B7⟩ := newB (o := .lst [.str "card"]) t6 B6 hr
      refine k _ _ r [[lC]] t7 B7 ?_ ?_
      · rw [upd_same, e1]
        rfl
      · exact ⟨by simp, by show 1 ≤ n + 1; omega, fun us hu => by rw [List.mem_singleton.mp hu]; simp, fun us hu => by rw [List.mem_singleton.mp hu]; show 1 ≤ n + 1; omega, fun us hu => by rw [List.mem_singleton.mp hu]; exact (wn_of (n := 1) (us := [lC]) (by simp) (by decide) (by decide)).2.w⟩
    · refine iteY (by rw [decide_eq_false (fun z => c (List.map_eq_nil_iff.mp z))]; rfl) ⟨_, rfl, ?_⟩
      exact k _ _ W us5 t6 B6 (by rw [upd_ne nq, upd_same]) (l5.ls c)
end
end K52

set_option Elab.async false
set_option linter.all false
set_option maxRecDepth 100000
set_option maxHeartbeats 4000000
namespace K52
open PySem PySem.Spec PyProof.Rows L2 Ew
open SX (S)
/-- lines with empty ones put in -/
inductive Emp : List (List Tk) → List (List Tk) → Prop
  | nil : Emp [] []
  | keep {us : List Tk} {ls ls' : List (List Tk)} : Emp ls ls' → Emp (us :: ls) (us :: ls')
  | put {ls ls' : List (List Tk)} : Emp ls ls' → Emp ls ([[]] :: ls')
theorem Emp.snoc {us : List Tk} {ls ls' : List (List Tk)} (h : Emp ls ls') : Emp (ls ++ [us]) (ls' ++ [us]) := by
  induction h with
  | nil => exact .keep .nil
  | keep _ ih => exact .keep ih
  | put _ ih => exact .put ih
theorem Emp.end_ {ls ls' : List (List Tk)} (h : Emp ls ls') : Emp ls (ls' ++ [[[]]]) := by
  induction h with
  | nil => exact .put .nil
  | keep _ ih => exact .keep ih
  | put _ ih => exact .put ih
theorem Emp.mem {ls ls' : List (List Tk)} (h : Emp ls ls') : ∀ us ∈ ls', us ∈ ls ∨ us = [[]] := by
  induction h with
  | nil => exact fun us h => nomatch h
  | keep _ ih =>
    intro us hu
    rcases List.mem_cons.mp hu with rfl | hu
    · exact .inl List.mem_cons_self
    · rcases ih us hu with h | h
      · exact .inl (List.mem_cons_of_mem _ h)
      · exact .inr h
  | put _ ih =>
    intro us hu
    rcases List.mem_cons.mp hu with rfl | hu
    · exact .inr rfl
    · exact ih us hu
theorem Emp.ok {n : Nat} {ls ls' : List (List Tk)} (h : Emp ls ls') (b : LsB n ls) (hn : n ≤ 200) (le : ls'.length ≤ 2 * ls.length + 1) : LsOk ls' := by
  have l := b.le
  have al : ∀ us ∈ ls', WdOk us := fun us hu => by
    rcases h.mem us hu with h | rfl
    · exact ⟨b.pos us h, by have := b.wl us h; omega, b.w us h⟩
    · exact ⟨by simp, by decide, fun w hw => by rw [List.mem_singleton.mp hw]; exact ⟨by decide, by decide, by decide⟩⟩
  exact LsOk.of al (by omega)
theorem Emp.nel {ls ls' : List (List Tk)} (h : Emp ls ls') (ne : ∀ us ∈ ls, us ≠ [[]]) : ∀ m, (nel m ls').map Prod.snd = ls := by
  induction h with
  | nil => exact fun m => rfl
  | keep _ ih =>
    intro m
    rw [K52.nel, if_neg (ne _ List.mem_cons_self), List.map_cons, ih (fun us hu => ne us (List.mem_cons_of_mem _ hu))]
  | put _ ih =>
    intro m
    rw [K52.nel, if_pos rfl, ih ne]
section
variable {P : Program} {w : World} {K : PySem.W.Frag} {mg : Str → Option Value} {base : Heap} {a : Ad}
def sp__law_with_empty (K : PySem.W.Frag) : Sp := fun vs H Q _ => ∃ (F : Hp) (b p : Addr) (ls : List (List Tk)), vs = [.ref b, .ref p] ∧ Bag K b F H ∧ Same F H ∧ F p = some (.lst (ls.map jv)) ∧ ls.length ≤ 400 ∧
  ∀ F' H' D ls', Sb b F H F' H' → Bag K b F' H' → F' D = some (.lst (ls'.map jv)) → Emp ls ls' → ls'.length ≤ 2 * ls.length + 1 → Q (.ref D) H'
theorem c__law_with_empty (T : Txt K mg a) : Cl P w K mg base 3 "_law_with_empty" P__law_with_empty (sp__law_with_empty K) [] :=
  T.d__law_with_empty.cl sc__law_with_empty (fun vs H Q E h => by obtain ⟨F, b, p, ls, rfl, _⟩ := h; rfl) fun f cdv A outer s H vs Q E hr h => by
    obtain ⟨F, b, p, ls, rfl, hB, hf, hp, hn, k⟩ := h
    refine ⟨_, ((pss_cons (ps_set (i := 2) sc__law_with_empty.nd rfl (Or.inl rfl) (pe_lst pa_nil))
 (pss_cons (ps_for (passes_of rfl) rfl (pi_list (pv 1)) (pg_name (i := 3) sc__law_with_empty.nd rfl (Or.inl rfl))
 (pss_cons (ps_if (pt_val (pe_f (c__law_one_in T) (takes_of rfl rfl rfl rfl) hr (by decide) rfl (pa_cons (pv 0) (pa_cons pe_int pa_nil))))
 (pss_one (ps_expr (pe_bm PySem.F.plainAttrs_list PySem.F.slot_list_append PySem.F.type_list_append mt_append (pv 2) (pa_cons pe_str pa_nil))))
 pss_nil)
 (pss_one (ps_expr (pe_bm PySem.F.plainAttrs_list PySem.F.slot_list_append PySem.F.type_list_append mt_append (pv 2) (pa_cons (pv 3) pa_nil))))))
 (pss_cons (ps_if (pt_val (pe_f (c__law_one_in T) (takes_of rfl rfl rfl rfl) hr (by decide) rfl (pa_cons (pv 0) (pa_cons pe_int pa_nil))))
 (pss_one (ps_expr (pe_bm PySem.F.plainAttrs_list PySem.F.slot_list_append PySem.F.type_list_append mt_append (pv 2) (pa_cons pe_str pa_nil))))
 pss_nil)
 (pss_one (ps_ret (pv 2))))))), ?_⟩
    have e0 : V.str "" = jv [[]] := congrArg V.str (by decide +kernel)
    refine ⟨by show 0 ≤ sizeLine; decide, fun D hD => ?_⟩
    have nb : D ≠ b := fun z => (memB K b).there hB z hD
    have fD : F D = none := hf.free hD
    obtain ⟨s1, B1⟩ := rawB (o := .lst []) (Stm.refl hf) hB hD
    have h1 : (upd H D (.lst [])) D = some (.lst []) := upd_same
    generalize upd H D (.lst []) = H1 at s1 B1 h1 ⊢
    refine gn ?_
    try dsimp only
    refine ⟨_, rfl, p, rfl, ⟨_, SqL.of (s1.fh _ _ hp)⟩, ?_⟩
    refine for_list (fun j σ' H' => ∃ c3 ls', σ' = [some (.ref b), some (.ref p), some (.ref D), c3] ∧ Sb b F H F H' ∧ Bag K b F H' ∧ H' D = some (.lst (ls'.map jv)) ∧ Emp (ls.take j) ls' ∧ ls'.length ≤ 2 * j) ⟨none, [], rfl, s1, B1, h1, .nil, Nat.le_refl _⟩ (fun j σ' H' _ z => by obtain ⟨_, _, _, z, _⟩ := z; exact SqL.of (z.fh _ _ hp)) ?_ ?_
    · rintro j y _ H2 hx ⟨c3, ls2, rfl, s2, B2, h2, em, le⟩
      rw [List.getElem?_map] at hx
      obtain ⟨us, hus, rfl⟩ := Option.map_eq_some_iff.mp hx
      have hj : j < ls.length := (List.getElem?_eq_some_iff.mp hus).1
      refine gn ?_
      try dsimp only
      refine seq_with (fun σ' H' => ∃ ls', σ' = [some (.ref b), some (.ref p), some (.ref D), some (jv us)] ∧ Sb b F H F H' ∧ Bag K b F H' ∧ H' D = some (.lst (ls'.map jv)) ∧ Emp (ls.take j) ls' ∧ ls'.length ≤ 2 * j + 1) (fun u hu => ?_) ?_
      · refine ⟨_, rfl, F, b, 6, rfl, B2, s2.fh, by decide, sz_of 3 (by decide) (by decide), fun H3 c s3 B3 => ⟨c, rfl, ?_⟩⟩
        have h3 := s3.hh D _ nb h2
        have t3 := seqB s2 B2 s3
        cases c with
        | false => exact iteF (hu _ _ ⟨ls2, rfl, t3, B3, h3, em, by omega⟩)
        | true =>
          refine iteT ⟨_, rfl, .inl ⟨rfl, _, SqL.of h3⟩, D, _, _, rfl, rfl, h3, by rw [List.length_map, sizeLine_eq]; omega, ?_⟩
          obtain ⟨t4, B4⟩ := mutB (o := .lst (ls2.map jv ++ [.str ""])) t3 B3 fD hD nb
          refine hu _ _ ⟨ls2 ++ [[[]]], rfl, t4, B4, ?_, em.end_, by rw [List.length_append, List.length_singleton]; omega⟩
          rw [upd_same, e0, map_snoc]
      rintro _ H4 ⟨ls4, rfl, t4, B4, h4, em4, le4⟩
      refine ⟨_, rfl, .inl ⟨rfl, _, SqL.of h4⟩, _, rfl, D, _, _, rfl, rfl, h4, by rw [List.length_map, sizeLine_eq]; omega, ?_⟩
      obtain ⟨t5, B5⟩ := mutB (o := .lst (ls4.map jv ++ [jv us])) t4 B4 fD hD nb
      refine ⟨_, ls4 ++ [us], rfl, t5, B5, ?_, ?_, by rw [List.length_append, List.length_singleton]; omega⟩
      · rw [upd_same, map_snoc]
      · rw [List.take_add_one, hus]
        exact em4.snoc
    · rintro _ H2 ⟨c3, ls2, rfl, s2, B2, h2, em, le⟩
      rw [List.length_map] at em le
      rw [List.take_length] at em
      have fin : ∀ {H4 ls4}, Sb b F H F H4 → Bag K b F H4 → H4 D = some (.lst (List.map jv ls4)) → Emp ls ls4 → ls4.length ≤ 2 * ls.length + 1 → Q (.ref D) H4 := fun {H4 ls4} t4 B4 h4 em4 le4 => by
        obtain ⟨t5, B5⟩ := freezeB t4 B4 fD hD nb h4
        exact k _ _ D ls4 t5 B5 upd_same em4 le4
      refine ⟨_, rfl, F, b, 4, rfl, B2, s2.fh, by decide, sz_of 3 (by decide) (by decide), fun H3 c s3 B3 => ⟨c, rfl, ?_⟩⟩
      have h3 := s3.hh D _ nb h2
      have t3 := seqB s2 B2 s3
      cases c with
      | false => exact iteF ⟨_, rfl, fin t3 B3 h3 em (by omega)⟩
      | true =>
        refine iteT ⟨_, rfl, .inl ⟨rfl, _, SqL.of h3⟩, D, _, _, rfl, rfl, h3, by rw [List.length_map, sizeLine_eq]; omega, ?_⟩
        obtain ⟨t4, B4⟩ := mutB (o := .lst (ls2.map jv ++ [.str ""])) t3 B3 fD hD nb
        refine ⟨_, rfl, fin (ls4 := ls2 ++ [[[]]]) t4 B4 ?_ em.end_ (by rw [List.length_append, List.length_singleton]; omega)⟩
        rw [upd_same, e0, map_snoc]
end
end K52

set_option Elab.async false
set_option linter.all false
set_option maxRecDepth 100000
set_option maxHeartbeats 4000000
namespace K52
open PySem PySem.Spec PyProof.Rows L2 Ew
open SX (S)
theorem flt_ok {i : Nat} {u : Tk} {us : List Tk} {s : Shp} {ss : List Shp} (k : s.ok u = true) : flt i (u :: us) (s :: ss) = flt (i + 1) us ss := by rw [flt, if_pos k]
theorem fl0 (us : List Tk) (ss : List Shp) : fl us 0 ss = flt 0 us ss := rfl
theorem ok_many {n : Nat} (h1 : 1 ≤ n) (h : n < 10 ^ 30) : Shp.many.ok (intL (n : Int)) = true := by
  have e : intL (n : Int) = TL.numL n := by
    unfold intL
    rw [if_neg (by omega)]
    rfl
  have hw : isWh 30 (intL (n : Int)) = true := wh_int (by decide) (by simpa using h)
  obtain ⟨c, r, ec, k1, k2⟩ := numL_head n h1
  show (isWh 30 _ && (!decide (List.head? _ = some 45) && !decide (_ = [48]))) = true
  rw [hw, e, ec, decide_eq_false (by simp; omega), decide_eq_false (by simp; omega)]
  rfl
theorem fl_hd {n : Nat} (h1 : 1 ≤ n) (h : n < 10 ^ 30) : fl (hdL n) 0 shC = none := by
  unfold hdL shC
  rw [fl0, flt_ok ok_h, flt_ok (ok_many h1 h)]
  rfl
theorem fl_spL {p : Spot} (h : SpW p) : fl (spL p) 0 shS = none := by
  unfold spL shS
  rw [fl0, flt_ok ok_h, flt_ok (ok_nm h.nmOk.2), flt_ok (ok_w (wh_int (by decide) h.st)), flt_ok (ok_w (wh_int (by decide) h.dy))]
  rfl
theorem flt_ws : ∀ {ws : List Int} {i : Nat}, (∀ v ∈ ws, v.natAbs < 10 ^ 30) → flt i (ws.map intL) (List.replicate ws.length .whole) = none
  | [], _, _ => rfl
  | v :: ws, i, h => by
    rw [List.map_cons, List.length_cons, List.replicate_succ, flt_ok (ok_w (wh_int (by decide) (h v List.mem_cons_self)))]
    exact flt_ws fun x hx => h x (List.mem_cons_of_mem _ hx)
theorem fl_rwL {ws : List Int} {n : Nat} (hn : ws.length = n) (h : ∀ v ∈ ws, v.natAbs < 10 ^ 30) : fl (rwL ws) 0 (shR n) = none := by
  subst hn
  unfold rwL shR
  rw [fl0, flt_ok ok_h]
  exact flt_ws h
theorem spotOf_L (p : Spot) : spotOf (spL p) = p := by
  have e : spotOf (spL p) = (S (nmL p), wholeVal (intL p.2.1), wholeVal (intL p.2.2)) := rfl
  rw [e, val_int, val_int, ← nm_S]
theorem rowOf_L (ws : List Int) : rowOf (rwL ws) = ws := by
  have e : rowOf (rwL ws) = (ws.map intL).map wholeVal := rfl
  rw [e, List.map_map]
  refine (List.map_congr_left fun v _ => ?_).trans (List.map_id ws)
  exact val_int v
theorem tk1_map {N : Nat} {sh : List Shp} {l : List Ln} {us : List Tk} {rest : List (List Tk)} (h : l.map Prod.snd = us :: rest) (hf : fl us 0 sh = none) : ∃ l1, tk1 N sh l = .ok (us, l1) ∧ l1.map Prod.snd = rest := by
  cases l with
  | nil => cases h
  | cons x l =>
    obtain ⟨m, vs⟩ := x
    rw [List.map_cons] at h
    obtain ⟨e1, e2⟩ := List.cons.inj h
    cases e1
    exact ⟨l, by simp only [tk1]; rw [hf], e2⟩
theorem tkN_map {N : Nat} {sh : List Shp} : ∀ {uss : List (List Tk)} {l : List Ln} {rest : List (List Tk)}, l.map Prod.snd = uss ++ rest → (∀ us ∈ uss, fl us 0 sh = none) → ∃ l1, tkN N sh uss.length l = .ok (uss, l1) ∧ l1.map Prod.snd = rest
  | [], l, rest, h, _ => ⟨l, rfl, h⟩
  | us :: uss, l, rest, h, hf => by
    obtain ⟨l1, e1, h1⟩ := tk1_map (N := N) h (hf us List.mem_cons_self)
    obtain ⟨l2, e2, h2⟩ := tkN_map (N := N) h1 fun x hx => hf x (List.mem_cons_of_mem _ hx)
    refine ⟨l2, ?_, h2⟩
    rw [List.length_cons, tkN_ok e1, e2]
    rfl
theorem rdc_cd {ps : List Spot} {f : Tb2} {ls : List (List Tk)} (h : (lf ls 0).map Prod.snd = cdL ps f) (hs : ∀ p ∈ ps, SpW p) (pos : 0 < ps.length) (hl : ps.length ≤ 21) (hf : ∀ a b, a < ps.length → b < ps.length → (f a b).natAbs < 10 ^ 30) : rdc ls = .ok (ps, rws ps.length f) := by
  unfold cdL at h
  obtain ⟨l1, e1, h1⟩ := tk1_map (N := ls.length) h (fl_hd pos (by omega))
  obtain ⟨l2, e2, h2⟩ := tkN_map (N := ls.length) (sh := shS) h1 fun us hu => by
    obtain ⟨p, hp, rfl⟩ := List.mem_map.mp hu
    exact fl_spL (hs p hp)
  have rl : ((rws ps.length f).map rwL).length = ps.length := by unfold rws; simp
  obtain ⟨l3, e3, h3⟩ := tkN_map (N := ls.length) (sh := shR ps.length) (uss := (rws ps.length f).map rwL) (rest := []) (by rw [List.append_nil]; exact h2) fun us hu => by
    obtain ⟨ws, hw, rfl⟩ := List.mem_map.mp hu
    obtain ⟨i, hi, rfl⟩ := List.mem_map.mp hw
    refine fl_rwL (by simp) fun v hv => ?_
    obtain ⟨j, hj, rfl⟩ := List.mem_map.mp hv
    exact hf i j (List.mem_range.mp hi) (List.mem_range.mp hj)
  have e0 : l3 = [] := List.map_eq_nil_iff.mp h3
  subst e0
  have gv : (wholeVal ((hdL ps.length).getD 1 [])).toNat = ps.length := by
    show (wholeVal (intL (ps.length : Nat))).toNat = _
    rw [val_int]
    omega
  rw [List.length_map] at e2
  rw [rl] at e3
  unfold rdc
  simp only [e1, gv, e2, e3]
  have q1 : (ps.map spL).map spotOf = ps := by
    rw [List.map_map]
    exact (List.map_congr_left fun p _ => spotOf_L p).trans (List.map_id ps)
  have q2 : ((rws ps.length f).map rwL).map rowOf = rws ps.length f := by
    rw [List.map_map]
    exact (List.map_congr_left fun p _ => rowOf_L p).trans (List.map_id _)
  rw [q1, q2]
theorem tbl_rws {n : Nat} {f : Tb2} {a b : Nat} (ha : a < n) (hb : b < n) : tbl (rws n f) a b = f a b := by
  unfold tbl rws
  rw [List.getD_eq_getElem?_getD (l := (List.range n).map _), List.getElem?_map, List.getElem?_range ha]
  show ((List.range n).map (f a)).getD b 0 = _
  rw [List.getD_eq_getElem?_getD, List.getElem?_map, List.getElem?_range hb]
  rfl
theorem cdL_ne {ps : List Spot} {f : Tb2} : ∀ us ∈ cdL ps f, us ≠ [[]] := by
  intro us hu
  rcases List.mem_cons.mp hu with rfl | hu
  · unfold hdL; simp
  · rcases List.mem_append.mp hu with hu | hu
    · obtain ⟨p, _, rfl⟩ := List.mem_map.mp hu
      unfold spL; simp
    · obtain ⟨ws, _, rfl⟩ := List.mem_map.mp hu
      unfold rwL lR
      simp
theorem lf_emp {ps : List Spot} {f : Tb2} {ls : List (List Tk)} (h : Emp (cdL ps f) ls) : (lf ls 0).map Prod.snd = cdL ps f := by
  unfold lf
  rw [List.drop_zero]
  exact h.nel cdL_ne 0
theorem Emp.rfl_ : ∀ ls : List (List Tk), Emp ls ls
  | [] => .nil
  | _ :: ls => .keep (Emp.rfl_ ls)
end K52

set_option Elab.async false
set_option linter.all false
set_option maxRecDepth 100000
set_option maxHeartbeats 4000000
namespace K52
open PySem PySem.Spec PyProof.Rows L2 Ew
open SX (S)
/-- only a dict with plain keys may have changed -/
def NB (H H' : Hp) : Prop := ∀ p o, H p = some o → (∀ kvs, o ≠ HO.dK kvs) → H' p = some o
section
variable {K : PySem.W.Frag} {H H' : Hp} {p : Addr} {xs : List V}
theorem rd_nb {u : HO} (e : NB H H') (h : L2.Rd H p u) (n : ∀ kvs, u ≠ HO.dK kvs) : L2.Rd H' p u := by
  rcases h with h | ⟨o, h⟩
  · exact .inl (e p _ h n)
  · exact .inr ⟨o, e p _ h fun _ z => nomatch z⟩
theorem sqT_nb (e : NB H H') (h : SqT K H p xs) : SqT K H' p xs := h.imp (fun z => rd_nb e z fun _ q => nomatch q) id
theorem Sps.nb {ps : List Spot} (h : Sps K true H p ps) (e : NB H H') : Sps K true H' p ps := by
  obtain ⟨us, h1, h2⟩ := h
  exact ⟨us, sqT_nb e h1, Paired.mapP h2 fun v q z => by obtain ⟨r, z1, z2⟩ := z; exact ⟨r, z1, e _ _ z2 fun _ q => nomatch q⟩⟩
theorem Tb.nb {v : V} {n : Nat} {f : Tb2} (h : Tb K true H v n f) (e : NB H H') : Tb K true H' v n f := by
  obtain ⟨p, us, h1, h2, h3, h4⟩ := h
  exact ⟨p, us, h1, sqT_nb e h2, h3, fun i u hu => by obtain ⟨q, z1, z2⟩ := h4 i u hu; exact ⟨q, z1, sqT_nb e z2⟩⟩
theorem Dtx_nb {P : Program} {w : World} {d : Addr} {kvs : List (List Key × V)} (h : Dtx P w K H d kvs) (e : NB H H') : Dtx P w K H' d kvs := by
  obtain ⟨h1, ys, h2, h3⟩ := h
  exact ⟨h1, ys, Paired.mapP h2 fun _ _ z => ⟨z.1, sqT_nb e z.2.1, z.2.2⟩, e _ _ h3 fun _ q => nomatch q⟩
theorem Cd.nb {P : Program} {w : World} {C : Addr} {v : V} {ps : List Spot} {f : Tb2} (h : Cd P w K C H v ps f) (e : NB H H') : Cd P w K C H' v ps f := by
  obtain ⟨x, dx, sp, d, rw, h1, h2, h3, h4, h5⟩ := h
  exact ⟨x, dx, sp, d, rw, h1, e _ _ h2 (fun _ q => nomatch q), h3.nb e, Dtx_nb h4 e, h5.nb e⟩
theorem bag_nb {b : Addr} {F F' : Hp} (B : Bag K b F H) (s : Sb b F H F' H') : NB H H' := fun x o hx no => by
  refine s.hh x o (fun z => ?_) hx
  obtain ⟨_, la, nns, at_, rest, mixed, count, _, _, _, q4⟩ := B
  rw [z, q4] at hx
  cases hx
  exact no _ rfl
end
theorem dp_rows {K : PySem.W.Frag} {H : Hp} {v : V} {n : Nat} {f : Tb2} (h : Tb K false H v n f) : Dp K H v (.list ((rws n f).map lsI)) := by
  obtain ⟨p, us, rfl, h1, h2, h3⟩ := h
  have rl : ((rws n f).map lsI).length = n := by unfold rws; simp
  refine .lst h1 (dp_of (by rw [h2, rl]) fun i u d hu hd => ?_)
  obtain ⟨q, rfl, hq⟩ := h3 i u hu
  have hi : i < n := by have := (List.getElem?_eq_some_iff.mp hd).1; rw [rl] at this; exact this
  unfold rws at hd
  rw [List.map_map, List.getElem?_map, List.getElem?_range hi] at hd
  cases hd
  refine .lst (xs := rowV n (f i)) hq ?_
  have e : rowV n (f i) = ((List.range n).map (f i)).map V.int := by unfold rowV; rw [List.map_map]; rfl
  rw [e]
  exact dpAll_ints _
theorem Same.free' {H H' : Hp} {p : Addr} (e : Same H H') (h : H' p = none) : H p = none := e.free h
section
variable {P : Program} {w : World} {K : PySem.W.Frag} {mg : Str → Option Value} {base : Heap} {a : Ad}
def sp_law (K : PySem.W.Frag) : Sp := fun vs H Q _ => ∃ (F : Hp) (p : Addr) (ns : List Int), vs = [.ref p] ∧ SqL K F p (ns.map V.int) ∧ ns.length ≤ 1000 ∧ Same F H ∧ ∀ H', Q (.bl true) H'
theorem b_law (T : Txt K mg a) : BodyG P w K mg base N_law "law" s_law 9 (sp_law K) := fun f cdv A outer s0 H vs Q E hgd hr h => by
    obtain ⟨F, p, ns, rfl, hp, hn, hf, k⟩ := h
    refine ⟨_, ((pss_cons (ps_set (i := 1) sc_law.nd rfl (Or.inl rfl) (pe_f (c__law_bag_of T) (takes_of rfl rfl rfl rfl) hr (by decide) rfl (pa_cons (pv 0) pa_nil)))
 (pss_cons (ps_set (i := 2) sc_law.nd rfl (Or.inl rfl) (pe_f (c__law_pick T) (takes_of rfl rfl rfl rfl) hr (by decide) rfl (pa_cons (pv 1) (pa_cons pe_int pa_nil))))
 (pss_cons (ps_if (pt_val (pe_f (c__law_one_in T) (takes_of rfl rfl rfl rfl) hr (by decide) rfl (pa_cons (pv 1) (pa_cons pe_int pa_nil))))
 (pss_one (ps_set (i := 2) sc_law.nd rfl (Or.inl rfl) (pe_op op_add pe_int (pe_f (c__law_pick T) (takes_of rfl rfl rfl rfl) hr (by decide) rfl (pa_cons (pv 1) (pa_cons pe_int pa_nil))))))
 pss_nil)
 (pss_cons (ps_set (i := 3) sc_law.nd rfl (Or.inl rfl) (pe_f (c__law_some_spots T) (takes_of rfl rfl rfl rfl) hr (by decide) rfl (pa_cons (pv 1) (pa_cons (pv 2) pa_nil))))
 (pss_cons (ps_set (i := 4) sc_law.nd rfl (Or.inl rfl) (pe_f (c__law_drawn_rows T) (takes_of rfl rfl rfl rfl) hr (by decide) rfl (pa_cons (pv 1) (pa_cons (pe_callB call_len_seq (by rfl) T.n_len (by decide +kernel) (pa_cons (pv 3) pa_nil)) pa_nil))))
 (pss_cons (ps_set (i := 5) sc_law.nd rfl (Or.inl rfl) (pe_mkW (mk_Card T) (takes_of rfl rfl rfl rfl) hr (by decide) rfl (pa_cons (pv 3) (pa_cons (pv 4) pa_nil))))
 (pss_cons (ps_set (i := 6) sc_law.nd rfl (Or.inl rfl) (pe_f (c__law_lines_of T) (takes_of rfl rfl rfl rfl) hr (by decide) rfl (pa_cons (pv 3) (pa_cons (pv 4) pa_nil))))
 (pss_cons (ps_set (i := 7) sc_law.nd rfl (Or.inl rfl) (pe_f (c_write_card T) (takes_of rfl rfl rfl rfl) hr (by decide) rfl (pa_cons (pv 5) pa_nil)))
 (pss_cons (ps_if (PW.pt (pw_or (pt_not (pt_val (pe_callB call_isi (by rfl) T.n_isinstance (by decide +kernel) (pa_cons (pv 7) (pa_cons (pe_bltn (v := .ty "list") (by rfl) T.n_list (by decide +kernel) rfl) pa_nil))))) (pw_or (pt_cmpR (op_neD hr.units) (pe_lc (own := [("_law_one", 13)]) (g := (gName 13)) (by rfl) sc_law.nd (pi_list (pv 7)) (blkOk_by (own := [("_law_one", 13)]) (N := N_law) (sc := defScope s_law) (by decide +kernel)) (fun _ _ _ _ _ => (pg_name (i := 13) sc_law.nd rfl (Or.inl rfl) (hf := .inr rfl))) (fun _ _ _ _ _ => (pts_one (pt_not (pt_val (pe_callB (id := "isinstance") (r := rIsi K) call_isi (by rfl) T.n_isinstance (by decide +kernel) (pa_cons (pv 13) (pa_cons (pe_bltn (v := .ty "str") (by rfl) T.n_str (by decide +kernel) rfl) pa_nil))))))) (fun _ _ _ _ _ => (pv 13))) (pe_lst pa_nil) (nomark _)) (pw_or1 (pt_cmpR (op_neD hr.units) (pv 7) (pv 6) (nomark _))))))
 (pss_one (ps_ret pe_bl))
 pss_nil)
 (pss_cons (ps_expr (pe_bm PySem.F.plainAttrs_list PySem.F.slot_list_append PySem.F.type_list_append mt_append (pv 7) (pa_cons pe_str pa_nil)))
 (pss_cons (ps_if (PW.pt (pw_or (pt_cmpR (op_neD hr.units) (pe_f (c_write_card T) (takes_of rfl rfl rfl rfl) hr (by decide) rfl (pa_cons (pv 5) pa_nil)) (pv 6) (nomark _)) (pw_or1 (pt_not (pt_cmp (pc_eqC (o_Card_eq T) T.nf (takes_of rfl rfl rfl rfl) hr (by decide) (pe_f (c_read_card T) (takes_of rfl rfl rfl rfl) hr (by decide) rfl (pa_cons (pe_callTy call_list_of (by rfl) T.n_list (by decide +kernel) (pa_cons (pv 6) pa_nil)) pa_nil)) (pv 5)) rfl)))))
 (pss_one (ps_ret pe_bl))
 pss_nil)
 (pss_cons (ps_set (i := 8) sc_law.nd rfl (Or.inl rfl) (pe_f (c__law_with_empty T) (takes_of rfl rfl rfl rfl) hr (by decide) rfl (pa_cons (pv 1) (pa_cons (pv 6) pa_nil))))
 (pss_cons (ps_if (pt_not (pt_val (pe_f (c__law_same T) (takes_of rfl rfl rfl rfl) hr (by decide) rfl (pa_cons (pe_f (c__law_answer_of T) (takes_of rfl rfl rfl rfl) hr (by decide) rfl (pa_cons (pe_callTy call_tupS (by rfl) T.n_tuple (by decide +kernel) (pa_cons (pv 8) pa_nil)) pa_nil)) (pa_cons (pe_tup (pa_cons pe_str (pa_cons (pv 3) (pa_cons (pv 4) pa_nil)))) pa_nil)))))
 (pss_one (ps_ret pe_bl))
 pss_nil)
 (pss_cons (ps_for (passes_of rfl) rfl (pi_range1 (by rfl) T.n_range (pa_cons pe_int pa_nil)) (pg_name (i := 9) sc_law.nd rfl (Or.inl rfl))
 (pss_cons (ps_set (i := 10) sc_law.nd rfl (Or.inl rfl) (pe_callTy call_list_of (by rfl) T.n_list (by decide +kernel) (pa_cons (pv 6) pa_nil)))
 (pss_cons (ps_for (passes_of rfl) rfl (pi_range1 (by rfl) T.n_range (pa_cons (pe_op op_add (pe_op op_add pe_int (pe_f (c__law_pick T) (takes_of rfl rfl rfl rfl) hr (by decide) rfl (pa_cons (pv 1) (pa_cons pe_int pa_nil)))) (pe_f (c__law_pick T) (takes_of rfl rfl rfl rfl) hr (by decide) rfl (pa_cons (pv 1) (pa_cons pe_int pa_nil)))) pa_nil)) (pg_name (i := 11) sc_law.nd rfl (Or.inl rfl))
 (pss_one (ps_set (i := 10) sc_law.nd rfl (Or.inl rfl) (pe_f (c__law_spoil_lines T) (takes_of rfl rfl rfl rfl) hr (by decide) rfl (pa_cons (pv 1) (pa_cons (pv 10) pa_nil))))))
 (pss_cons (ps_set (i := 8) sc_law.nd rfl (Or.inl rfl) (pe_f (c__law_with_empty T) (takes_of rfl rfl rfl rfl) hr (by decide) rfl (pa_cons (pv 1) (pa_cons (pv 10) pa_nil))))
 (pss_cons (ps_set (i := 12) sc_law.nd rfl (Or.inl rfl) (pe_callTy call_list_of (by rfl) T.n_list (by decide +kernel) (pa_cons (pv 8) pa_nil)))
 (pss_one (ps_if (PW.pt (pw_or (pt_not (pt_val (pe_f (c__law_same T) (takes_of rfl rfl rfl rfl) hr (by decide) rfl (pa_cons (pe_f (c__law_answer_of T) (takes_of rfl rfl rfl rfl) hr (by decide) rfl (pa_cons (pv 8) pa_nil)) (pa_cons (pe_f (c__law_due_of T) (takes_of rfl rfl rfl rfl) hr (by decide) rfl (pa_cons (pv 12) pa_nil)) pa_nil))))) (pw_or1 (pt_cmpR (op_neD hr.units) (pv 8) (pv 12) (nomark _)))))
 (pss_one (ps_ret pe_bl))
 pss_nil)))))))
 (pss_one (ps_ret (pe_and (pe_cmpR (op_eqD hr.units) (pe_f (c__law_answer_of T) (takes_of rfl rfl rfl rfl) hr (by decide) rfl (pa_cons (pe_lst pa_nil) pa_nil)) (pe_tup (pa_cons pe_str (pa_cons pe_int (pa_cons pe_int pa_nil)))) (nomark _)) (pe_one (pe_cmp (pc_eqC (o_Card_eq T) T.nf (takes_of rfl rfl rfl rfl) hr (by decide) (pe_f (c_read_card T) (takes_of rfl rfl rfl rfl) hr (by decide) rfl (pa_cons (pv 6) pa_nil)) (pv 5)) rfl)))))))))))))))))))), ?_⟩
    refine ⟨_, rfl, F, p, ns, rfl, hp, hn, hf, fun F1 H1 b st1 B1 => ?_⟩
    refine gn ?_
    refine ⟨_, rfl, F1, b, 6, rfl, B1, st1.fh, by decide, sz_of 3 (by decide) (by decide), fun H2 m s2 B2 m0 m1 => ?_⟩
    refine gn ?_
    try dsimp only
    refine seq_with (fun σ' H' => ∃ m', σ' = [some (.ref p), some (.ref b), some (.int m'), none, none, none, none, none, none, none, none, none, none, none] ∧ Sb b F1 H1 F1 H' ∧ Bag K b F1 H' ∧ 0 ≤ m' ∧ m' ≤ 20) (fun u hu => ?_) ?_
    · refine ⟨_, rfl, F1, b, 8, rfl, B2, s2.fh, by decide, sz_of 4 (by decide) (by decide), fun H3 c s3 B3 => ⟨c, rfl, ?_⟩⟩
      cases c with
      | false => exact iteF (hu _ _ ⟨m, rfl, seqB s2 B2 s3, B3, by omega, by omega⟩)
      | true =>
        refine iteT ⟨_, rfl, F1, b, 4, rfl, B3, s3.fh, by decide, sz_of 3 (by decide) (by decide), fun H4 c s4 B4 c0 c1 => ?_⟩
        exact ⟨_, _, rfl, rfl, hu _ _ ⟨8 + c, rfl, seqB (seqB s2 B2 s3) B3 s4, B4, by omega, by omega⟩⟩
    rintro _ H3 ⟨m', rfl, s3, B3, n0, n20⟩
    refine ⟨_, rfl, _, rfl, F1, b, m', rfl, B3, s3.fh, n0, n20, fun F4 H4 l ps s4 B4 hps ok len spw => ?_⟩
    refine gn ?_
    obtain ⟨us, hus, hpr⟩ := id hps
    have hul : us.length = ps.length := Paired.length hpr
    have pos := ok.pos
    refine ⟨_, rfl, _, rfl, l, us, rfl, .inl (SqL.of (s4.fh _ _ hus)), F4, b, ps.length, by rw [hul]; rfl, B4, s4.fh, by omega, len, fun F5 H5 v f s5 B5 tb hc bd => ?_⟩
    refine gn ?_
    obtain ⟨rp, _, rfl, _⟩ := id tb
    have bd30 : ∀ a b, a < ps.length → b < ps.length → (f a b).natAbs < 10 ^ 30 := fun a b ha hb => by
      obtain ⟨h1, h2⟩ := bd a b ha hb
      omega
    have hps5 := hps.up s5.ff
    have hl5 := hps5.up s5.fh
    have tb5 := tb.up s5.fh
    refine ⟨_, rfl, _, rfl, mk_cd (t1 := false) (t2 := false) hl5.sps ok tb5 hc fun H6 x e6 x0 cd => ?_⟩
    refine gn ?_
    refine ⟨_, rfl, _, rfl, l, .ref rp, ps, f, rfl, hl5.up e6, tb5.up e6, pos, len, spw, bd30, fun H7 L e7 L0 hL => ?_⟩
    refine gn ?_
    have e57 := e6.trans e7
    have cd7 := cd.up e7
    have S7 := stp_all s5.fh e57
    obtain ⟨_, B7⟩ := pureB (Stm.refl s5.fh : Sb b F5 H5 F5 H5) B5 S7
    have f7 := S7.fh
    have hL7 : fz F5 H5 H7 L = some (.lst ((cdL ps f).map jv)) := by rw [fz_new (e6.free L0)]; exact hL
    have hps7 := hps5.up S7.ff
    have tb7 := tb.up S7.ff
    generalize fz F5 H5 H7 = F7 at S7 B7 f7 hL7 hps7 tb7
    refine ⟨_, rfl, .ref x, ps, f, rfl, cd7, len, spw, bd30, fun H8 W e8 W0 hW => ?_⟩
    refine gn ?_
    have lb := cdL_ok spw len bd30
    have lx := lb.lx
    have rd : ∀ {ls}, Emp (cdL ps f) ls → rdc ls = .ok (ps, rws ps.length f) := fun e => rdc_cd (lf_emp e) spw pos len bd30
    obtain ⟨s8, B8⟩ := pureB (Stm.refl f7 : Sb b F7 H7 F7 H7) B7 (stp_same f7 e8)
    have nW : W ≠ b := fun z => (memB K b).there B7 z W0
    have fW7 : F7 W = none := f7.free W0
    have kl : (cdL ps f).length ≤ 50 := lx.le
    have ll : ((cdL ps f).map jv).length = (cdL ps f).length := List.length_map _
    have shL : SeqAt.shaped (ssD ((cdL ps f).map J)) = true := (lx.fl).sh (by decide)
    have sh0 : SeqAt.shaped (ssD []) = true := (fl_ss (us := []) (by simp)).sh (by decide)
    refine ⟨_, rfl, _, _, _, _, true, rfl, .ty _, ty_sqL (SqL.of hW), kit_ty (by decide +kernel), true, rfl, iteF ?_⟩
    refine ⟨_, rfl, W, rfl, ⟨_, SqL.of hW⟩, fun D hD => ?_⟩
    refine lcF walk_list (fun _ => false) (.refl H8) hD (fun _ _ _ => True) (fun _ _ _ _ _ z => z) (by rw [ll]; omega) (fun F' H' z1 z2 => SqL.of (z2 _ _ (z1 _ _ hW))) ?_ ?_
    · rintro i y F' _ H9 Kt Kn hi s9 ⟨rfl, hy⟩ kt kn
      rw [List.getElem?_map] at hy
      obtain ⟨us, hus, rfl⟩ := Option.map_eq_some_iff.mp hy
      exact ⟨rfl, _, rfl, _, _, _, _, true, rfl, .ty _, .base (.str _), kit_ty (by decide +kernel), true, rfl, iteF (kn rfl _ _ (.refl s9.fh))⟩
    intro F9 H9 ys s9 hD9 hp9
    have y0 : ys = [] := by
      have := Paired.length hp9
      rw [List.filter_eq_nil_iff.mpr (by simp)] at this
      exact List.length_eq_zero_iff.mp this
    subst y0
    have e89 : Same H8 H9 := s9.ff.trans s9.fh
    refine ⟨by show 0 ≤ sizeLine; decide, fun q hq => ?_⟩
    have e9q := same_new (o := .lst []) hq
    refine ⟨ssD [], ssD [], dp_ss (us := []) (SqL.of (e9q _ _ (s9.fh _ _ hD9))), dp_ss (us := []) (SqL.of upd_same), sh0, sh0, _, rfl, iteF ?_⟩
    have e8q := e89.trans e9q
    generalize upd H9 q (.lst []) = H10 at e8q ⊢
    have e7q := e8.trans e8q
    refine ⟨_, rfl, _, rfl, ssD ((cdL ps f).map J), ssD ((cdL ps f).map J), dp_ls (SqL.of (e8q _ _ hW)), dp_ls (SqL.of (e7q _ _ hL)), shL, shL, _, rfl, iteN (by rw [eqv_ss, decide_eq_true rfl]; decide) ?_⟩
    refine ⟨_, rfl, .inl ⟨rfl, _, SqL.of (e8q _ _ hW)⟩, W, _, _, rfl, rfl, e8q _ _ hW, by rw [ll, sizeLine_eq]; omega, ?_⟩
    obtain ⟨s10, B10⟩ := pureB (Stm.refl f7 : Sb b F7 H7 F7 H7) B7 (stp_same f7 e7q)
    obtain ⟨s11, B11⟩ := mutB (o := .lst ((cdL ps f).map jv ++ [.str ""])) s10 B10 fW7 W0 nW
    generalize upd H10 W (.lst ((cdL ps f).map jv ++ [.str ""])) = H11 at s11 B11 ⊢
    have cd11 := cd7.nb (bag_nb B7 s11)
    refine ⟨_, rfl, .ref x, ps, f, rfl, cd11, len, spw, bd30, fun H12 W2 e12 W20 hW2 => ?_⟩
    obtain ⟨s12, B12⟩ := pureB s11 B11 (stp_same s11.fh e12)
    have hL12 : H12 L = some (.lst ((cdL ps f).map jv)) := s12.fh _ _ hL7
    refine ⟨_, rfl, ssD ((cdL ps f).map J), ssD ((cdL ps f).map J), dp_ls (SqL.of hW2), dp_ls (SqL.of hL12), shL, shL, _, rfl, iteN (by rw [eqv_ss, decide_eq_true rfl]; decide) ?_⟩
    have rdE : ∀ {ls}, Emp (cdL ps f) ls → ∀ {Pm : Prop} {m i}, rdc ls = .error (m, i) → Pm := fun e Pm m i z => by rw [rd e] at z; cases z
    have hcT : Cld ps.length (tbl (rws ps.length f)) := ⟨fun i hi => by rw [tbl_rws hi hi]; exact hc.1 i hi, fun a b c ha hb hc' => by rw [tbl_rws ha hc', tbl_rws ha hb, tbl_rws hb hc']; exact hc.2 a b c ha hb hc'⟩
    refine ⟨_, rfl, L, _, rfl, .inl (SqL.of hL12), fun M hM => ?_⟩
    have e13 := same_new (o := .lst ((cdL ps f).map jv)) hM
    obtain ⟨s13, B13⟩ := pureB s12 B12 (stp_same s12.fh e13)
    have hM13 : (upd H12 M (.lst ((cdL ps f).map jv))) M = some (.lst ((cdL ps f).map jv)) := upd_same
    generalize upd H12 M (.lst ((cdL ps f).map jv)) = H13 at e13 s13 B13 hM13 ⊢
    refine ⟨false, M, cdL ps f, rfl, SqL.of hM13, lb.ok (by decide), fun m i z => rdE (Emp.rfl_ _) z, fun ps' rs' z => ?_⟩
    rw [rd (Emp.rfl_ _)] at z
    cases z
    refine ⟨fun z hz => absurd hz (Flaw.no ok hcT), fun _ _ H14 x2 e14 _ cd2 => ?_⟩
    obtain ⟨s14, B14⟩ := pureB s13 B13 (stp_same s13.fh e14)
    have cd14 := cd7.nb (bag_nb B7 s14)
    have cd14' := cd14
    obtain ⟨x1', dx1, _, _, _, ex1, hx1, _⟩ := id cd14
    obtain ⟨x4', dx4, _, _, _, ex4, hx4, _⟩ := id cd2
    cases ex1
    cases ex4
    refine ⟨_, rfl, x2, _, _, rfl, hx4, .inr (.inr (.inr (.inr ⟨x, rfl, .inl ⟨_, _, hx1⟩⟩))), ?_⟩
    refine ⟨_, _, ps, _, f, rfl, cd2, cd14, ok, ?_⟩
    rw [eqv_tab.mpr fun i j hi hj => tbl_rws hi hj]
    refine ⟨true, rfl, iteF ?_⟩
    refine ⟨_, rfl, _, rfl, F7, b, L, cdL ps f, rfl, B14, s14.fh, hL7, by omega, fun F15 H15 D1 ls1 s15 B15 hD1 em1 le1 => ?_⟩
    refine gn ?_
    have t15 := seqB s14 B14 s15
    have cd15 := cd7.nb (bag_nb B7 t15)
    have ok1 : LsOk ls1 := em1.ok lb (by decide) le1
    have out1 : OutC ls1 (.card ps (rws ps.length f)) := .card (rd em1) ok hcT
    refine ⟨_, rfl, D1, _, rfl, .inl ⟨SqL.of (s15.fh _ _ hD1), fun t ht => ?_⟩⟩
    have e16 := same_new (o := .tup (ls1.map jv)) ht
    obtain ⟨s16, B16⟩ := pureB t15 B15 (stp_same t15.fh e16)
    have ht16 : (upd H15 t (.tup (ls1.map jv))) t = some (.tup (ls1.map jv)) := upd_same
    generalize upd H15 t (.tup (ls1.map jv)) = H16 at e16 s16 B16 ht16 ⊢
    refine ⟨true, t, ls1, rfl, SqT.of ht16, ok1, fun o ho H17 v17 e17 av => ?_⟩
    obtain rfl := out1.uniq ho
    refine ⟨_, rfl, _, rfl, by show 3 ≤ sizeLine; decide, fun q2 hq2 => ?_⟩
    have e18 := same_new (o := .tup [.str "card", .ref l, .ref rp]) hq2
    obtain ⟨s18, B18⟩ := pureB s16 B16 (stp_same s16.fh (e17.trans e18))
    have hq18 : (upd H17 q2 (.tup [.str "card", .ref l, .ref rp])) q2 = some (.tup [.str "card", .ref l, .ref rp]) := upd_same
    generalize upd H17 q2 (.tup [.str "card", .ref l, .ref rp]) = H18 at e18 s18 B18 hq18 ⊢
    have d18 : Dp K H18 (.ref q2) (crdD ps (rws ps.length f)) := by
      obtain ⟨us, h1, h2⟩ := (hps7.up s18.ff).up s18.fh
      exact .tup (SqT.of hq18) (.cons (.str _) (.cons (.lst (SqL.of h1) (dps h2 fun v l z => z.dp)) (.cons (dp_rows ((tb7.up s18.ff).up s18.fh)) .nil)))
    refine ⟨v17, .ref q2, .card ps (rws ps.length f), rfl, (av.up e18).w, ⟨q2, l, rp, rfl, hq18, d18⟩, fun ps' rs' z s' hs' => by cases z; exact ok.ok s' hs', true, rfl, iteF ?_⟩
    refine ⟨6, rfl, by decide, by decide, ?_⟩
    refine for_it walk_range (fun j σ' H' => ∃ F' c8 c9 c10 c11 c12, σ' = [some (.ref p), some (.ref b), some (.int m'), some (.ref l), some (.ref rp), some (.ref x), some (.ref L), some (.ref W), c8, c9, c10, c11, c12, none] ∧ Sb b F7 H7 F' H' ∧ Bag K b F' H') ⟨F15, some (.ref D1), none, none, none, none, rfl, s18, B18⟩ (fun _ _ _ _ _ => trivial) ?_ ?_
    · rintro j _ _ _ H20 hj ⟨F20, c8, c9, c10, c11, c12, rfl, s20, B20⟩ ⟨rfl, rfl⟩
      refine gn ?_
      try dsimp only
      have hL20 := s20.ff _ _ hL7
      refine ⟨_, rfl, L, _, rfl, .inl (SqL.of (s20.fh _ _ hL20)), fun S0 hS0 => ?_⟩
      obtain ⟨s21, B21⟩ := newB (o := .lst ((cdL ps f).map jv)) s20 B20 hS0
      have hS21 : (upd F20 S0 (.lst ((cdL ps f).map jv))) S0 = some (.lst ((cdL ps f).map jv)) := upd_same
      generalize upd F20 S0 (.lst ((cdL ps f).map jv)) = F21 at s21 B21 hS21
      generalize upd H20 S0 (.lst ((cdL ps f).map jv)) = H21 at s21 B21 ⊢
      refine gn ?_
      try dsimp only
      refine ⟨_, rfl, F21, b, 2, rfl, B21, s21.fh, by decide, sz_of 2 (by decide) (by decide), fun H22 i1 s22 B22 i10 i11 => ?_⟩
      refine ⟨_, _, rfl, rfl, _, rfl, F21, b, 2, rfl, B22, s22.fh, by decide, sz_of 2 (by decide) (by decide), fun H23 i2 s23 B23 i20 i21 => ?_⟩
      have s23' := seqB (seqB s21 B21 s22) B22 s23
      refine ⟨_, _, rfl, rfl, 1 + i1 + i2, rfl, by omega, by omega, ?_⟩
      refine for_it walk_range (fun k σ' H' => ∃ F' c11 Sp lsS, σ' = [some (.ref p), some (.ref b), some (.int m'), some (.ref l), some (.ref rp), some (.ref x), some (.ref L), some (.ref W), c8, some (.int (0 + (j : Nat))), some (.ref Sp), c11, c12, none] ∧ Sb b F7 H7 F' H' ∧ Bag K b F' H' ∧ F' Sp = some (.lst (lsS.map jv)) ∧ LsB (50 + k) lsS) ⟨F21, c11, S0, cdL ps f, rfl, s23', B23, hS21, lb⟩ (fun _ _ _ _ _ => trivial) ?_ ?_
      · rintro k _ _ _ H24 hk ⟨F24, c11, Sp, lsS, rfl, s24, B24, hSp, lbS⟩ ⟨rfl, rfl⟩
        refine gn ?_
        try dsimp only
        refine ⟨_, rfl, _, rfl, F24, b, Sp, lsS, 50 + k, rfl, B24, s24.fh, hSp, lbS, by omega, by omega, fun F25 H25 D ls' s25 B25 hD lb' => ?_⟩
        exact ⟨F25, _, D, ls', rfl, seqB s24 B24 s25, B25, hD, lb'⟩
      · rintro _ H24 ⟨F24, c11, Sp, lsS, rfl, s24, B24, hSp, lbS⟩
        refine ⟨_, rfl, _, rfl, F24, b, Sp, lsS, rfl, B24, s24.fh, hSp, by have := lbS.le; omega, fun F25 H25 D2 ls2 s25 B25 hD2 em2 le2 => ?_⟩
        refine gn ?_
        try dsimp only
        have t25 := seqB s24 B24 s25
        have ok2 : LsOk ls2 := em2.ok lbS (by omega) le2
        refine ⟨_, rfl, D2, _, rfl, .inl (SqL.of (s25.fh _ _ hD2)), fun Kp hKp => ?_⟩
        obtain ⟨s26, B26⟩ := newB (o := .lst (ls2.map jv)) t25 B25 hKp
        have hD26 : (upd F25 Kp (.lst (ls2.map jv))) D2 = some (.lst (ls2.map jv)) := same_new (t25.fh.free hKp) _ _ hD2
        have hK26 : (upd F25 Kp (.lst (ls2.map jv))) Kp = some (.lst (ls2.map jv)) := upd_same
        generalize upd F25 Kp (.lst (ls2.map jv)) = F26 at s26 B26 hD26 hK26
        generalize upd H25 Kp (.lst (ls2.map jv)) = H26 at s26 B26 ⊢
        refine gn ?_
        try dsimp only
        refine ⟨_, rfl, false, D2, ls2, rfl, SqL.of (s26.fh _ _ hD26), ok2, fun o ho H27 va e27 av => ?_⟩
        obtain ⟨s27, B27⟩ := pureB s26 B26 (stp_same s26.fh e27)
        refine ⟨_, rfl, Kp, ls2, rfl, SqL.of (s27.fh _ _ hK26), ok2, fun o' ho' H28 vb e28 bv => ?_⟩
        obtain ⟨s28, B28⟩ := pureB s27 B27 (stp_same s27.fh e28)
        obtain rfl := ho.uniq ho'
        refine ⟨va, vb, o, rfl, (av.up e28).w, bv.w, fun ps' rs' z => ?_, true, rfl, iteF ?_⟩
        · subst z
          cases ho with
          | card er _ _ => exact (rdc_ok ok2 er).sk
        have sh2 : SeqAt.shaped (ssD (ls2.map J)) = true := (fl_ss fun w hw => by
          obtain ⟨us, hu, rfl⟩ := List.mem_map.mp hw
          exact J_lt fun w hw => (ok2.w us hu w hw).lt).sh (by decide)
        refine ⟨_, rfl, _, rfl, ssD (ls2.map J), ssD (ls2.map J), dp_ls (SqL.of (s28.fh _ _ hD26)), dp_ls (SqL.of (s28.fh _ _ hK26)), sh2, sh2, _, rfl, iteN (by rw [eqv_ss, decide_eq_true rfl]; decide) ?_⟩
        exact ⟨F26, _, _, _, _, _, rfl, s28, B28⟩
    · rintro _ H20 ⟨F20, c8, c9, c10, c11, c12, rfl, s20, B20⟩
      have hL20 : H20 L = some (.lst ((cdL ps f).map jv)) := s20.fh _ _ (s20.ff _ _ hL7)
      have cd20 := cd7.nb (bag_nb B7 s20)
      have okE : LsOk [] := LsOk.of (fun us h => nomatch h) (by decide)
      have outE : OutC [] (.line 0 0) := .line rfl
      refine ⟨by show 0 ≤ sizeLine; decide, fun q hq => ?_⟩
      have e21 := same_new (o := .lst []) hq
      refine ⟨false, q, [], rfl, SqL.of upd_same, okE, fun o ho H22 v22 e22 av => ?_⟩
      obtain rfl := ho.uniq outE
      obtain ⟨q1, rfl, hq1⟩ := av
      refine ⟨by show 3 ≤ sizeLine; decide, fun q3 hq3 => ?_⟩
      have e23 := same_new (o := .tup [.str "line", .int 0, .int 0]) hq3
      have dd : ∀ {H' q}, H' q = some (.tup [.str "line", .int 0, .int 0]) → Dp K H' (.ref q) (.tuple [.str "line", .int 0, .int 0]) := fun h => .tup (SqT.of h) (.cons (.str _) (.cons (.int _) (.cons (.int _) .nil)))
      have shd : SeqAt.shaped (.tuple [.str "line", .int 0, .int 0]) = true := (Fl.tup (n := 0) (.cons (.str (by decide +kernel)) (.cons .int (.cons .int .nil)))).sh (by decide)
      refine ⟨_, _, dd (e23 _ _ hq1), dd upd_same, shd, shd, true, by rw [show PyData.eqv (.tuple [.str "line", .int 0, .int 0]) (.tuple [.str "line", .int 0, .int 0]) = true by decide +kernel], iteT ?_⟩
      have e20 := e21.trans (e22.trans e23)
      refine ⟨_, rfl, false, L, cdL ps f, rfl, SqL.of (e20 _ _ hL20), lb.ok (by decide), fun m i z => rdE (Emp.rfl_ _) z, fun ps' rs' z => ?_⟩
      rw [rd (Emp.rfl_ _)] at z
      cases z
      refine ⟨fun z hz => absurd hz (Flaw.no ok hcT), fun _ _ H24 x3 e24 _ cd3 => ?_⟩
      have cd24 := cd20.up (e20.trans e24)
      obtain ⟨x1', dx1, _, _, _, ex1, hx1, _⟩ := id cd24
      obtain ⟨x4', dx4, _, _, _, ex4, hx4, _⟩ := id cd3
      cases ex1
      cases ex4
      refine ⟨_, rfl, x3, _, _, rfl, hx4, .inr (.inr (.inr (.inr ⟨x, rfl, .inl ⟨_, _, hx1⟩⟩))), ?_⟩
      refine ⟨_, _, ps, _, f, rfl, cd3, cd24, ok, ?_⟩
      rw [eqv_tab.mpr fun i j hi hj => tbl_rws hi hj]
      exact k _
end
end K52

set_option Elab.async false
set_option linter.all false
set_option maxRecDepth 100000
set_option maxHeartbeats 4000000
namespace K52
open PySem PySem.Spec PyProof.Rows L2 Ew
theorem kit_cls0 {K : PySem.W.Frag} {t : Value} {C : Addr} {b : Bool} (h2 : PySem.W.isClsIn K C = true) (h3 : PySem.W.typeIn K (.ref C) = some (.type "type")) (h4 : PySem.W.subIn K t (.ref C) = some b) : PySem.W.kitCls K t (.ref C) = some b := by
  have e2 : ((PySem.W.clsIn K C).isSome && PySem.W.typeIn K (.ref C) == some (.type "type")) = true := by
    have h2' : (PySem.W.clsIn K C).isSome = true := h2
    rw [h2', h3] <;> rfl
  show (if ((PySem.W.clsIn K C).isSome && PySem.W.typeIn K (.ref C) == some (.type "type")) = true then PySem.W.subIn K t (.ref C) else none) = some b
  rw [if_pos e2]
  exact h4
theorem nf_of {K : PySem.W.Frag} {C : Addr} {T : String} (h : PySem.W.subIn K (.type T) (.ref C) = some false) : PySem.W.notFirst K C (.type T) = true := by
  unfold PySem.W.notFirst
  rw [h]
  simp
theorem fn_at {K : PySem.W.Frag} {f : Addr} {oc : Value} {od : Option Addr} {fd : FuncData} {sl : Array (Option Value)} (l : K.lookup f = some ⟨oc, od, .func fd, sl⟩) : PySem.W.fnIn K f = true := by
  unfold PySem.W.fnIn
  rw [l]
theorem all6 {p : String → Prop} (h1 : p "NoneType") (h2 : p "bool") (h3 : p "int") (h4 : p "str") (h5 : p "list") (h6 : p "tuple") : ∀ T ∈ (["NoneType", "bool", "int", "str", "list", "tuple"] : List String), p T := by
  intro T h
  simp only [List.mem_cons, List.not_mem_nil, or_false] at h
  rcases h with rfl | rfl | rfl | rfl | rfl | rfl
  · exact h1
  · exact h2
  · exact h3
  · exact h4
  · exact h5
  · exact h6
theorem ground_at {K : PySem.W.Frag} {aG : Addr} {odW : Option Addr} {nW : Nat} {slW : Array (Option Value)} {w0 w1 w2 : Tok} (l : K.lookup aG = some ⟨.type "tuple", odW, .seq #[.str "ground" w0, .int 0 w1, .int 0 w2] nW, slW⟩) : ∀ H, SqT K H aG [.str "ground", .int 0, .int 0] := fun H =>
  .inr ⟨_, _, nW, l, rfl, rfl, by show 3 ≤ sizeLine; decide, .cons ⟨_, rfl⟩ (.cons ⟨_, rfl⟩ (.cons ⟨_, rfl⟩ .nil))⟩
theorem kit_no1 {K : PySem.W.Frag} {C : Addr} {T : String} (h2 : PySem.W.isClsIn K C = true) (h3 : PySem.W.typeIn K (.ref C) = some (.type "type")) (h4 : PySem.W.subIn K (.type T) (.ref C) = some false) : PySem.W.kitOne K (.type T) (.ref C) = some false := by
  unfold PySem.W.kitOne
  rw [if_neg (by simp)]
  exact kit_cls0 h2 h3 h4
theorem kit_ty2 {K : PySem.W.Frag} {C : Addr} (h4 : PySem.W.subIn K (.ref C) (.type "ValueError") = some true) : PySem.W.kitOne K (.ref C) (.type "ValueError") = some true := by
  unfold PySem.W.kitOne
  rw [if_neg (by simp)]
  show (if PySem.W.kitMeta "ValueError" = true then PySem.W.subIn K (.ref C) (.type "ValueError") else none) = some true
  rw [if_pos (by decide +kernel)]
  exact h4
theorem kit_no0 {K : PySem.W.Frag} {D C : Addr} (n : D ≠ C) (h2 : PySem.W.isClsIn K C = true) (h3 : PySem.W.typeIn K (.ref C) = some (.type "type")) (h4 : PySem.W.subIn K (.ref D) (.ref C) = some false) : PySem.W.kitOne K (.ref D) (.ref C) = some false := by
  unfold PySem.W.kitOne
  rw [if_neg (by simpa using n)]
  exact kit_cls0 h2 h3 h4
theorem kit_yes {K : PySem.W.Frag} {t : Value} {C : Addr} (h2 : PySem.W.isClsIn K C = true) (h3 : PySem.W.typeIn K (.ref C) = some (.type "type")) (h4 : PySem.W.subIn K t (.ref C) = some true) : PySem.W.kitOne K t (.ref C) = some true := by
  unfold PySem.W.kitOne
  split
  · rfl
  · exact kit_cls0 h2 h3 h4
theorem exm_of {K : PySem.W.Frag} {D C : Addr} {b : Bool} (e : PySem.W.subIn K (.ref C) (.type "BaseException") = some true) (h2 : PySem.W.isClsIn K C = true) (h3 : PySem.W.typeIn K (.ref C) = some (.type "type")) (h4 : PySem.W.subIn K (.ref D) (.ref C) = some b) : PySem.W.exmOne K (.ref D) (.ref C) = some b := by
  unfold PySem.W.exmOne
  have e1 : (PySem.W.subIn K (.ref C) (.type "BaseException") == some true) = true := by rw [e] <;> rfl
  rw [if_pos e1]
  exact kit_cls0 h2 h3 h4
theorem why_at {K : PySem.W.Frag} {aW : Addr} {odH : Option Addr} {nH : Nat} {slH : Array (Option Value)} {w3 : Tok} (l : K.lookup aW = some ⟨.type "tuple", odH, .seq #[.str "card" w3] nH, slH⟩) : ∀ H, SqT K H aW [.str "card"] := fun H =>
  .inr ⟨_, _, nH, l, rfl, rfl, by show 1 ≤ sizeLine; decide, .cons ⟨_, rfl⟩ .nil⟩
theorem WORDS_at {K : PySem.W.Frag} {aW : Addr} {od_WORDS : Option Addr} {n_WORDS : Nat} {sl_WORDS : Array (Option Value)} {wk0 wk1 wk2 wk3 wk4 wk5 wk6 wk7 wk8 wk9 wk10 wk11 wk12 wk13 wk14 wk15 wk16 wk17 wk18 wk19 wk20 wk21 wk22 wk23 wk24 wk25 wk26 wk27 wk28 wk29 wk30 wk31 wk32 wk33 wk34 wk35 wk36 wk37 wk38 wk39 wk40 wk41 wk42 wk43 wk44 wk45 : Tok} (l : K.lookup aW = some ⟨.type "tuple", od_WORDS, .seq #[.str "days" wk0, .str "base" wk1, .str "unit" wk2, .str "device" wk3, .str "feature" wk4, .str "role" wk5, .str "job" wk6, .str "procedure" wk7, .str "takes" wk8, .str "uses" wk9, .str "read" wk10, .str "by" wk11, .str "let" wk12, .str "be" wk13, .str "tell" wk14, .str "in" wk15, .str "judge" wk16, .str "good" wk17, .str "bad" wk18, .str "choose" wk19, .str "passed" wk20, .str "failed" wk21, .str "open" wk22, .str "repeat" wk23, .str "leave" wk24, .str "call" wk25, .str "stop" wk26, .str "end" wk27, .str "size" wk28, .str "offset" wk29, .str "news" wk30, .str "cert" wk31, .str "stand" wk32, .str "jolt" wk33, .str "edition" wk34, .str "strike" wk35, .str "told" wk36, .str "within" wk37, .str "sum" wk38, .str "product" wk39, .str "quotient" wk40, .str "card" wk41, .str "spot" wk42, .str "row" wk43, .str "ground" wk44, .str "nobody" wk45] n_WORDS, sl_WORDS⟩) : ∀ H, SqT K H aW ((["days", "base", "unit", "device", "feature", "role", "job", "procedure", "takes", "uses", "read", "by", "let", "be", "tell", "in", "judge", "good", "bad", "choose", "passed", "failed", "open", "repeat", "leave", "call", "stop", "end", "size", "offset", "news", "cert", "stand", "jolt", "edition", "strike", "told", "within", "sum", "product", "quotient", "card", "spot", "row", "ground", "nobody"] : List String).map fun x => V.str (Str.ofString x)) := fun H =>
  .inr ⟨_, _, n_WORDS, l, rfl, rfl, by show 46 ≤ sizeLine; decide, .cons ⟨_, rfl⟩ (.cons ⟨_, rfl⟩ (.cons ⟨_, rfl⟩ (.cons ⟨_, rfl⟩ (.cons ⟨_, rfl⟩ (.cons ⟨_, rfl⟩ (.cons ⟨_, rfl⟩ (.cons ⟨_, rfl⟩ (.cons ⟨_, rfl⟩ (.cons ⟨_, rfl⟩ (.cons ⟨_, rfl⟩ (.cons ⟨_, rfl⟩ (.cons ⟨_, rfl⟩ (.cons ⟨_, rfl⟩ (.cons ⟨_, rfl⟩ (.cons ⟨_, rfl⟩ (.cons ⟨_, rfl⟩ (.cons ⟨_, rfl⟩ (.cons ⟨_, rfl⟩ (.cons ⟨_, rfl⟩ (.cons ⟨_, rfl⟩ (.cons ⟨_, rfl⟩ (.cons ⟨_, rfl⟩ (.cons ⟨_, rfl⟩ (.cons ⟨_, rfl⟩ (.cons ⟨_, rfl⟩ (.cons ⟨_, rfl⟩ (.cons ⟨_, rfl⟩ (.cons ⟨_, rfl⟩ (.cons ⟨_, rfl⟩ (.cons ⟨_, rfl⟩ (.cons ⟨_, rfl⟩ (.cons ⟨_, rfl⟩ (.cons ⟨_, rfl⟩ (.cons ⟨_, rfl⟩ (.cons ⟨_, rfl⟩ (.cons ⟨_, rfl⟩ (.cons ⟨_, rfl⟩ (.cons ⟨_, rfl⟩ (.cons ⟨_, rfl⟩ (.cons ⟨_, rfl⟩ (.cons ⟨_, rfl⟩ (.cons ⟨_, rfl⟩ (.cons ⟨_, rfl⟩ (.cons ⟨_, rfl⟩ (.cons ⟨_, rfl⟩ (.nil))))))))))))))))))))))))))))))))))))))))))))))⟩
theorem star_take_word {kV dc pm cd ct : Value} {an : Option Addr} {u : Value} {rest : List Value} : bindArgs (PySem.W.fnOf "take_word" "Reader.take_word" (defArgs s_Reader_take_word) (defBody s_Reader_take_word) (defScope s_Reader_take_word) .none kV dc pm an cd ct) ⟨[u] ++ rest, []⟩ = (newTuple rest >>= fun t => pure ((["self"] : List Str).zip [u] ++ [(("words" : Str), t)])) := match rest with | [] => rfl | _ :: _ => rfl
theorem star_take_name {kV dc pm cd ct : Value} {an : Option Addr} {u : Value} {rest : List Value} : bindArgs (PySem.W.fnOf "take_name" "Reader.take_name" (defArgs s_Reader_take_name) (defBody s_Reader_take_name) (defScope s_Reader_take_name) .none kV dc pm an cd ct) ⟨[u] ++ rest, []⟩ = (newTuple rest >>= fun t => pure ((["self"] : List Str).zip [u] ++ [(("words" : Str), t)])) := match rest with | [] => rfl | _ :: _ => rfl
theorem all_mk {P : Program} {w : World} {K : PySem.W.Frag} {h : Heap} {mg : Str → Option Value} {fa : Addr} (X : K.In h) (G : h.Ns mainGlobals mg) (hfa : mg "law" = some (.ref fa))
    {aG aY : Addr} {odW odH : Option Addr} {nW nH : Nat} {slW slH : Array (Option Value)} {w0 w1 w2 w3 : Tok}
    {tD tN tM tI tA : Tok}
    {aW : Addr} {od_WORDS : Option Addr} {n_WORDS : Nat} {sl_WORDS : Array (Option Value)} {wk0 wk1 wk2 wk3 wk4 wk5 wk6 wk7 wk8 wk9 wk10 wk11 wk12 wk13 wk14 wk15 wk16 wk17 wk18 wk19 wk20 wk21 wk22 wk23 wk24 wk25 wk26 wk27 wk28 wk29 wk30 wk31 wk32 wk33 wk34 wk35 wk36 wk37 wk38 wk39 wk40 wk41 wk42 wk43 wk44 wk45 : Tok}
    {C_EllError : Addr}
    {C_BadSpot : Addr} {nm_BadSpot q_BadSpot : Str} {N_BadSpot : Addr} {bs_BadSpot : List Value} {sn_BadSpot : List Str} {sub_BadSpot : List Value} {ab_BadSpot : Bool} {col_BadSpot : Option Bool} {dd_BadSpot : Option Addr} {m0_BadSpot m1_BadSpot m2_BadSpot m3_BadSpot m5_BadSpot : Option Value}
    {f1 : Addr} {od1 an1 : Option Addr} {sl1 : Array (Option Value)} {oc1 kV1 dc1 pm1 cd1 ct1 : Value}
    {C_NoSpot : Addr} {nm_NoSpot q_NoSpot : Str} {N_NoSpot : Addr} {bs_NoSpot : List Value} {sn_NoSpot : List Str} {sub_NoSpot : List Value} {ab_NoSpot : Bool} {col_NoSpot : Option Bool} {dd_NoSpot : Option Addr} {m0_NoSpot m1_NoSpot m2_NoSpot m3_NoSpot m5_NoSpot : Option Value}
    {f2 : Addr} {od2 an2 : Option Addr} {sl2 : Array (Option Value)} {oc2 kV2 dc2 pm2 cd2 ct2 : Value}
    {C_Clash : Addr} {nm_Clash q_Clash : Str} {N_Clash : Addr} {bs_Clash : List Value} {sn_Clash : List Str} {sub_Clash : List Value} {ab_Clash : Bool} {col_Clash : Option Bool} {dd_Clash : Option Addr} {m0_Clash m1_Clash m2_Clash m3_Clash m5_Clash : Option Value}
    {f3 : Addr} {od3 an3 : Option Addr} {sl3 : Array (Option Value)} {oc3 kV3 dc3 pm3 cd3 ct3 : Value}
    {C_BadCard : Addr} {nm_BadCard q_BadCard : Str} {N_BadCard : Addr} {bs_BadCard : List Value} {sn_BadCard : List Str} {sub_BadCard : List Value} {ab_BadCard : Bool} {col_BadCard : Option Bool} {dd_BadCard : Option Addr} {m0_BadCard m1_BadCard m2_BadCard m3_BadCard m5_BadCard : Option Value}
    {f4 : Addr} {od4 an4 : Option Addr} {sl4 : Array (Option Value)} {oc4 kV4 dc4 pm4 cd4 ct4 : Value}
    {C_BadLine : Addr} {nm_BadLine q_BadLine : Str} {N_BadLine : Addr} {bs_BadLine : List Value} {sn_BadLine : List Str} {sub_BadLine : List Value} {ab_BadLine : Bool} {col_BadLine : Option Bool} {dd_BadLine : Option Addr} {m0_BadLine m1_BadLine m2_BadLine m3_BadLine m5_BadLine : Option Value}
    {f5 : Addr} {od5 an5 : Option Addr} {sl5 : Array (Option Value)} {oc5 kV5 dc5 pm5 cd5 ct5 : Value}
    {C_Reader : Addr}
    {f6 : Addr} {od6 an6 : Option Addr} {sl6 : Array (Option Value)} {oc6 kV6 dc6 pm6 cd6 ct6 : Value}
    {f7 : Addr} {od7 an7 : Option Addr} {sl7 : Array (Option Value)} {oc7 kV7 dc7 pm7 cd7 ct7 : Value}
    {f8 : Addr} {od8 an8 : Option Addr} {sl8 : Array (Option Value)} {oc8 kV8 dc8 pm8 cd8 ct8 : Value}
    {f9 : Addr} {od9 an9 : Option Addr} {sl9 : Array (Option Value)} {oc9 kV9 dc9 pm9 cd9 ct9 : Value}
    {f10 : Addr} {od10 an10 : Option Addr} {sl10 : Array (Option Value)} {oc10 kV10 dc10 pm10 cd10 ct10 : Value}
    {f11 : Addr} {od11 an11 : Option Addr} {sl11 : Array (Option Value)} {oc11 kV11 dc11 pm11 cd11 ct11 : Value}
    {f12 : Addr} {od12 an12 : Option Addr} {sl12 : Array (Option Value)} {oc12 kV12 dc12 pm12 cd12 ct12 : Value}
    {f13 : Addr} {od13 an13 : Option Addr} {sl13 : Array (Option Value)} {oc13 kV13 dc13 pm13 cd13 ct13 : Value}
    {f14 : Addr} {od14 an14 : Option Addr} {sl14 : Array (Option Value)} {oc14 kV14 dc14 pm14 cd14 ct14 : Value}
    {f15 : Addr} {od15 an15 : Option Addr} {sl15 : Array (Option Value)} {oc15 kV15 dc15 pm15 cd15 ct15 : Value}
    {f16 : Addr} {od16 an16 : Option Addr} {sl16 : Array (Option Value)} {oc16 kV16 dc16 pm16 cd16 ct16 : Value}
    {C_Card : Addr}
    {f17 : Addr} {od17 an17 : Option Addr} {sl17 : Array (Option Value)} {oc17 kV17 dc17 pm17 cd17 ct17 : Value}
    {f18 : Addr} {od18 an18 : Option Addr} {sl18 : Array (Option Value)} {oc18 kV18 dc18 pm18 cd18 ct18 : Value}
    {f19 : Addr} {od19 an19 : Option Addr} {sl19 : Array (Option Value)} {oc19 kV19 dc19 pm19 cd19 ct19 : Value}
    {f20 : Addr} {od20 an20 : Option Addr} {sl20 : Array (Option Value)} {oc20 kV20 dc20 pm20 cd20 ct20 : Value}
    {f21 : Addr} {od21 an21 : Option Addr} {sl21 : Array (Option Value)} {oc21 kV21 dc21 pm21 cd21 ct21 : Value}
    {f22 : Addr} {od22 an22 : Option Addr} {sl22 : Array (Option Value)} {oc22 kV22 dc22 pm22 cd22 ct22 : Value}
    {f23 : Addr} {od23 an23 : Option Addr} {sl23 : Array (Option Value)} {oc23 kV23 dc23 pm23 cd23 ct23 : Value}
    {f24 : Addr} {od24 an24 : Option Addr} {sl24 : Array (Option Value)} {oc24 kV24 dc24 pm24 cd24 ct24 : Value}
    {f25 : Addr} {od25 an25 : Option Addr} {sl25 : Array (Option Value)} {oc25 kV25 dc25 pm25 cd25 ct25 : Value}
    {f26 : Addr} {od26 an26 : Option Addr} {sl26 : Array (Option Value)} {oc26 kV26 dc26 pm26 cd26 ct26 : Value}
    {f27 : Addr} {od27 an27 : Option Addr} {sl27 : Array (Option Value)} {oc27 kV27 dc27 pm27 cd27 ct27 : Value}
    {f28 : Addr} {od28 an28 : Option Addr} {sl28 : Array (Option Value)} {oc28 kV28 dc28 pm28 cd28 ct28 : Value}
    {f29 : Addr} {od29 an29 : Option Addr} {sl29 : Array (Option Value)} {oc29 kV29 dc29 pm29 cd29 ct29 : Value}
    {f30 : Addr} {od30 an30 : Option Addr} {sl30 : Array (Option Value)} {oc30 kV30 dc30 pm30 cd30 ct30 : Value}
    {f31 : Addr} {od31 an31 : Option Addr} {sl31 : Array (Option Value)} {oc31 kV31 dc31 pm31 cd31 ct31 : Value}
    {f32 : Addr} {od32 an32 : Option Addr} {sl32 : Array (Option Value)} {oc32 kV32 dc32 pm32 cd32 ct32 : Value}
    {f33 : Addr} {od33 an33 : Option Addr} {sl33 : Array (Option Value)} {oc33 kV33 dc33 pm33 cd33 ct33 : Value}
    {f34 : Addr} {od34 an34 : Option Addr} {sl34 : Array (Option Value)} {oc34 kV34 dc34 pm34 cd34 ct34 : Value}
    {f35 : Addr} {od35 an35 : Option Addr} {sl35 : Array (Option Value)} {oc35 kV35 dc35 pm35 cd35 ct35 : Value}
    {f36 : Addr} {od36 an36 : Option Addr} {sl36 : Array (Option Value)} {oc36 kV36 dc36 pm36 cd36 ct36 : Value}
    {f37 : Addr} {od37 an37 : Option Addr} {sl37 : Array (Option Value)} {oc37 kV37 dc37 pm37 cd37 ct37 : Value}
    {f38 : Addr} {od38 an38 : Option Addr} {sl38 : Array (Option Value)} {oc38 kV38 dc38 pm38 cd38 ct38 : Value}
    {f39 : Addr} {od39 an39 : Option Addr} {sl39 : Array (Option Value)} {oc39 kV39 dc39 pm39 cd39 ct39 : Value}
    {f40 : Addr} {od40 an40 : Option Addr} {sl40 : Array (Option Value)} {oc40 kV40 dc40 pm40 cd40 ct40 : Value}
    {f41 : Addr} {od41 an41 : Option Addr} {sl41 : Array (Option Value)} {oc41 kV41 dc41 pm41 cd41 ct41 : Value}
    {f42 : Addr} {od42 an42 : Option Addr} {sl42 : Array (Option Value)} {oc42 kV42 dc42 pm42 cd42 ct42 : Value}
    {f43 : Addr} {od43 an43 : Option Addr} {sl43 : Array (Option Value)} {oc43 kV43 dc43 pm43 cd43 ct43 : Value}
    {f44 : Addr} {od44 an44 : Option Addr} {sl44 : Array (Option Value)} {oc44 kV44 dc44 pm44 cd44 ct44 : Value}
    {f45 : Addr} {od45 an45 : Option Addr} {sl45 : Array (Option Value)} {oc45 kV45 dc45 pm45 cd45 ct45 : Value}
    {f46 : Addr} {od46 an46 : Option Addr} {sl46 : Array (Option Value)} {oc46 kV46 dc46 pm46 cd46 ct46 : Value}
    {f47 : Addr} {od47 an47 : Option Addr} {sl47 : Array (Option Value)} {oc47 kV47 dc47 pm47 cd47 ct47 : Value}
    {f48 : Addr} {od48 an48 : Option Addr} {sl48 : Array (Option Value)} {oc48 kV48 dc48 pm48 cd48 ct48 : Value}
    {f49 : Addr} {od49 an49 : Option Addr} {sl49 : Array (Option Value)} {oc49 kV49 dc49 pm49 cd49 ct49 : Value}
    {f50 : Addr} {od50 an50 : Option Addr} {sl50 : Array (Option Value)} {oc50 kV50 dc50 pm50 cd50 ct50 : Value}
    {f51 : Addr} {od51 an51 : Option Addr} {sl51 : Array (Option Value)} {oc51 kV51 dc51 pm51 cd51 ct51 : Value}
    {f52 : Addr} {od52 an52 : Option Addr} {sl52 : Array (Option Value)} {oc52 kV52 dc52 pm52 cd52 ct52 : Value}
    {f53 : Addr} {od53 an53 : Option Addr} {sl53 : Array (Option Value)} {oc53 kV53 dc53 pm53 cd53 ct53 : Value}
    {f54 : Addr} {od54 an54 : Option Addr} {sl54 : Array (Option Value)} {oc54 kV54 dc54 pm54 cd54 ct54 : Value}
    {f55 : Addr} {od55 an55 : Option Addr} {sl55 : Array (Option Value)} {oc55 kV55 dc55 pm55 cd55 ct55 : Value}
    {f56 : Addr} {od56 an56 : Option Addr} {sl56 : Array (Option Value)} {oc56 kV56 dc56 pm56 cd56 ct56 : Value}
    {f57 : Addr} {od57 an57 : Option Addr} {sl57 : Array (Option Value)} {oc57 kV57 dc57 pm57 cd57 ct57 : Value}
    {f58 : Addr} {od58 an58 : Option Addr} {sl58 : Array (Option Value)} {oc58 kV58 dc58 pm58 cd58 ct58 : Value}
    {f59 : Addr} {od59 an59 : Option Addr} {sl59 : Array (Option Value)} {oc59 kV59 dc59 pm59 cd59 ct59 : Value}
    {f60 : Addr} {od60 an60 : Option Addr} {sl60 : Array (Option Value)} {oc60 kV60 dc60 pm60 cd60 ct60 : Value}
    {f61 : Addr} {od61 an61 : Option Addr} {sl61 : Array (Option Value)} {oc61 kV61 dc61 pm61 cd61 ct61 : Value}
    {f62 : Addr} {od62 an62 : Option Addr} {sl62 : Array (Option Value)} {oc62 kV62 dc62 pm62 cd62 ct62 : Value}
    {f63 : Addr} {od63 an63 : Option Addr} {sl63 : Array (Option Value)} {oc63 kV63 dc63 pm63 cd63 ct63 : Value}
    {f64 : Addr} {od64 an64 : Option Addr} {sl64 : Array (Option Value)} {oc64 kV64 dc64 pm64 cd64 ct64 : Value}
    {f65 : Addr} {od65 an65 : Option Addr} {sl65 : Array (Option Value)} {oc65 kV65 dc65 pm65 cd65 ct65 : Value}
    {f66 : Addr} {od66 an66 : Option Addr} {sl66 : Array (Option Value)} {oc66 kV66 dc66 pm66 cd66 ct66 : Value}
    {f67 : Addr} {od67 an67 : Option Addr} {sl67 : Array (Option Value)} {oc67 kV67 dc67 pm67 cd67 ct67 : Value}
    {f68 : Addr} {od68 an68 : Option Addr} {sl68 : Array (Option Value)} {oc68 kV68 dc68 pm68 cd68 ct68 : Value}
    {f69 : Addr} {od69 an69 : Option Addr} {sl69 : Array (Option Value)} {oc69 kV69 dc69 pm69 cd69 ct69 : Value}
    {f70 : Addr} {od70 an70 : Option Addr} {sl70 : Array (Option Value)} {oc70 kV70 dc70 pm70 cd70 ct70 : Value}
    {f71 : Addr} {od71 an71 : Option Addr} {sl71 : Array (Option Value)} {oc71 kV71 dc71 pm71 cd71 ct71 : Value}
    {f72 : Addr} {od72 an72 : Option Addr} {sl72 : Array (Option Value)} {oc72 kV72 dc72 pm72 cd72 ct72 : Value}
    {f73 : Addr} {od73 an73 : Option Addr} {sl73 : Array (Option Value)} {oc73 kV73 dc73 pm73 cd73 ct73 : Value}
    {f74 : Addr} {od74 an74 : Option Addr} {sl74 : Array (Option Value)} {oc74 kV74 dc74 pm74 cd74 ct74 : Value}
    {f75 : Addr} {od75 an75 : Option Addr} {sl75 : Array (Option Value)} {oc75 kV75 dc75 pm75 cd75 ct75 : Value}
    {f76 : Addr} {od76 an76 : Option Addr} {sl76 : Array (Option Value)} {oc76 kV76 dc76 pm76 cd76 ct76 : Value}
    (z_isinstance : PySem.W.nsIn K mainGlobals "isinstance" = some none)
    (z_int : PySem.W.nsIn K mainGlobals "int" = some none)
    (z_bool : PySem.W.nsIn K mainGlobals "bool" = some none)
    (z_tuple : PySem.W.nsIn K mainGlobals "tuple" = some none)
    (z_str : PySem.W.nsIn K mainGlobals "str" = some none)
    (z_list : PySem.W.nsIn K mainGlobals "list" = some none)
    (z_len : PySem.W.nsIn K mainGlobals "len" = some none)
    (z_any : PySem.W.nsIn K mainGlobals "any" = some none)
    (z_all : PySem.W.nsIn K mainGlobals "all" = some none)
    (z_range : PySem.W.nsIn K mainGlobals "range" = some none)
    (z_enumerate : PySem.W.nsIn K mainGlobals "enumerate" = some none)
    (z_zip : PySem.W.nsIn K mainGlobals "zip" = some none)
    (z_min : PySem.W.nsIn K mainGlobals "min" = some none)
    (z_ValueError : PySem.W.nsIn K mainGlobals "ValueError" = some none)
    (z_abs : PySem.W.nsIn K mainGlobals "abs" = some none)
    (z_iter : PySem.W.nsIn K mainGlobals "iter" = some none)
    (zz_GROUND : PySem.W.nsIn K mainGlobals "GROUND" = some (some (.ref aG)))
    (lGG : K.lookup aG = some ⟨.type "tuple", odW, .seq #[.str "ground" w0, .int 0 w1, .int 0 w2] nW, slW⟩)
    (zz_WHY : PySem.W.nsIn K mainGlobals "WHY" = some (some (.ref aY)))
    (lWH : K.lookup aY = some ⟨.type "tuple", odH, .seq #[.str "card" w3] nH, slH⟩)
    (zz_DIGITS_ratios : PySem.W.nsIn K mainGlobals "DIGITS_ratios" = some (some (.str "0123456789" tD)))
    (zz_LETTERS : PySem.W.nsIn K mainGlobals "LETTERS" = some (some (.str "abcdefghijklmnopqrstuvwxyz" tA)))
    (zz_LONGEST_names : PySem.W.nsIn K mainGlobals "LONGEST_names" = some (some (.int 12 tN)))
    (zz_LONGEST_lines : PySem.W.nsIn K mainGlobals "LONGEST_lines" = some (some (.int 300 tM)))
    (zz_DIGITS_lines : PySem.W.nsIn K mainGlobals "DIGITS_lines" = some (some (.int 30 tI)))
    (zz_WORDS : PySem.W.nsIn K mainGlobals "WORDS" = some (some (.ref aW)))
    (l_WORDS : K.lookup aW = some ⟨.type "tuple", od_WORDS, .seq #[.str "days" wk0, .str "base" wk1, .str "unit" wk2, .str "device" wk3, .str "feature" wk4, .str "role" wk5, .str "job" wk6, .str "procedure" wk7, .str "takes" wk8, .str "uses" wk9, .str "read" wk10, .str "by" wk11, .str "let" wk12, .str "be" wk13, .str "tell" wk14, .str "in" wk15, .str "judge" wk16, .str "good" wk17, .str "bad" wk18, .str "choose" wk19, .str "passed" wk20, .str "failed" wk21, .str "open" wk22, .str "repeat" wk23, .str "leave" wk24, .str "call" wk25, .str "stop" wk26, .str "end" wk27, .str "size" wk28, .str "offset" wk29, .str "news" wk30, .str "cert" wk31, .str "stand" wk32, .str "jolt" wk33, .str "edition" wk34, .str "strike" wk35, .str "told" wk36, .str "within" wk37, .str "sum" wk38, .str "product" wk39, .str "quotient" wk40, .str "card" wk41, .str "spot" wk42, .str "row" wk43, .str "ground" wk44, .str "nobody" wk45] n_WORDS, sl_WORDS⟩)
    (gg0 : PySem.W.specialIn K (.builtin "object.__class__") "__get__" = some (some (.builtin "getset_descriptor.__get__")))
    (tk0 : PySem.W.takesIn K (.builtin "object.__class__") = some true)
    (a_EllError : PySem.W.nsIn K mainGlobals "EllError" = some (some (.ref C_EllError)))
    (ic_EllError : PySem.W.isClsIn K C_EllError = true)
    (tC_EllError : PySem.W.typeIn K (.ref C_EllError) = some (.type "type"))
    (a_BadSpot : PySem.W.nsIn K mainGlobals "BadSpot" = some (some (.ref C_BadSpot)))
    (x_BadSpot : K.lookup C_BadSpot = some (excClassObj nm_BadSpot q_BadSpot C_BadSpot N_BadSpot bs_BadSpot [.ref C_EllError, .type "ValueError", .type "Exception", .type "BaseException", .type "object"] true sn_BadSpot sub_BadSpot ab_BadSpot col_BadSpot dd_BadSpot m0_BadSpot m1_BadSpot m2_BadSpot m3_BadSpot m5_BadSpot "ValueError.__new__"))
    (sa_BadSpot : PySem.W.findIn K (.ref C_BadSpot) "__setattr__" = some (some (.builtin "object.__setattr__")))
    (ga_BadSpot : PySem.W.findIn K (.ref C_BadSpot) "__getattribute__" = some (some (.builtin "BaseException.__getattribute__")))
    (gt_BadSpot : PySem.W.findIn K (.ref C_BadSpot) "__getattr__" = some none)
    (ca_BadSpot : PySem.W.findIn K (.ref C_BadSpot) "__class__" = some (some (.builtin "object.__class__")))
    (kC_BadSpot : PySem.W.keepIn K (.ref C_BadSpot) = true)
    (eC_BadSpot : PySem.W.subIn K (.ref C_BadSpot) (.type "BaseException") = some true)
    (tC_BadSpot : PySem.W.typeIn K (.ref C_BadSpot) = some (.type "type"))
    (hC_BadSpot : PySem.W.hasDictIn K C_BadSpot = true)
    (ic_BadSpot : PySem.W.isClsIn K C_BadSpot = true)
    (mo_BadSpot : PySem.W.mroIn K C_BadSpot (.type "object") = some true)
    (no_BadSpot_place : PySem.W.findIn K (.ref C_BadSpot) "place" = some none)
    (a1 : PySem.W.findIn K (.ref C_BadSpot) "__init__" = some (some (.ref f1)))
    (t1 : PySem.W.typeIn K (.ref f1) = some (.type "function"))
    (l1 : K.lookup f1 = some ⟨oc1, od1, .func (PySem.W.fnOf "__init__" "BadSpot.__init__" (defArgs s_BadSpotD_initD) (defBody s_BadSpotD_initD) (defScope s_BadSpotD_initD) .none kV1 dc1 pm1 an1 cd1 ct1), sl1⟩)
    (c1 : PySem.W.codeIn K cd1 "BadSpot.__init__" = true)
    (k1 : PySem.W.keepIn K (.ref f1) = true)
    (a_NoSpot : PySem.W.nsIn K mainGlobals "NoSpot" = some (some (.ref C_NoSpot)))
    (x_NoSpot : K.lookup C_NoSpot = some (excClassObj nm_NoSpot q_NoSpot C_NoSpot N_NoSpot bs_NoSpot [.ref C_EllError, .type "ValueError", .type "Exception", .type "BaseException", .type "object"] true sn_NoSpot sub_NoSpot ab_NoSpot col_NoSpot dd_NoSpot m0_NoSpot m1_NoSpot m2_NoSpot m3_NoSpot m5_NoSpot "ValueError.__new__"))
    (sa_NoSpot : PySem.W.findIn K (.ref C_NoSpot) "__setattr__" = some (some (.builtin "object.__setattr__")))
    (ga_NoSpot : PySem.W.findIn K (.ref C_NoSpot) "__getattribute__" = some (some (.builtin "BaseException.__getattribute__")))
    (gt_NoSpot : PySem.W.findIn K (.ref C_NoSpot) "__getattr__" = some none)
    (ca_NoSpot : PySem.W.findIn K (.ref C_NoSpot) "__class__" = some (some (.builtin "object.__class__")))
    (kC_NoSpot : PySem.W.keepIn K (.ref C_NoSpot) = true)
    (eC_NoSpot : PySem.W.subIn K (.ref C_NoSpot) (.type "BaseException") = some true)
    (tC_NoSpot : PySem.W.typeIn K (.ref C_NoSpot) = some (.type "type"))
    (hC_NoSpot : PySem.W.hasDictIn K C_NoSpot = true)
    (ic_NoSpot : PySem.W.isClsIn K C_NoSpot = true)
    (mo_NoSpot : PySem.W.mroIn K C_NoSpot (.type "object") = some true)
    (no_NoSpot_spot : PySem.W.findIn K (.ref C_NoSpot) "spot" = some none)
    (a2 : PySem.W.findIn K (.ref C_NoSpot) "__init__" = some (some (.ref f2)))
    (t2 : PySem.W.typeIn K (.ref f2) = some (.type "function"))
    (l2 : K.lookup f2 = some ⟨oc2, od2, .func (PySem.W.fnOf "__init__" "NoSpot.__init__" (defArgs s_NoSpotD_initD) (defBody s_NoSpotD_initD) (defScope s_NoSpotD_initD) .none kV2 dc2 pm2 an2 cd2 ct2), sl2⟩)
    (c2 : PySem.W.codeIn K cd2 "NoSpot.__init__" = true)
    (k2 : PySem.W.keepIn K (.ref f2) = true)
    (a_Clash : PySem.W.nsIn K mainGlobals "Clash" = some (some (.ref C_Clash)))
    (x_Clash : K.lookup C_Clash = some (excClassObj nm_Clash q_Clash C_Clash N_Clash bs_Clash [.ref C_EllError, .type "ValueError", .type "Exception", .type "BaseException", .type "object"] true sn_Clash sub_Clash ab_Clash col_Clash dd_Clash m0_Clash m1_Clash m2_Clash m3_Clash m5_Clash "ValueError.__new__"))
    (sa_Clash : PySem.W.findIn K (.ref C_Clash) "__setattr__" = some (some (.builtin "object.__setattr__")))
    (ga_Clash : PySem.W.findIn K (.ref C_Clash) "__getattribute__" = some (some (.builtin "BaseException.__getattribute__")))
    (gt_Clash : PySem.W.findIn K (.ref C_Clash) "__getattr__" = some none)
    (ca_Clash : PySem.W.findIn K (.ref C_Clash) "__class__" = some (some (.builtin "object.__class__")))
    (kC_Clash : PySem.W.keepIn K (.ref C_Clash) = true)
    (eC_Clash : PySem.W.subIn K (.ref C_Clash) (.type "BaseException") = some true)
    (tC_Clash : PySem.W.typeIn K (.ref C_Clash) = some (.type "type"))
    (hC_Clash : PySem.W.hasDictIn K C_Clash = true)
    (ic_Clash : PySem.W.isClsIn K C_Clash = true)
    (mo_Clash : PySem.W.mroIn K C_Clash (.type "object") = some true)
    (no_Clash_ring : PySem.W.findIn K (.ref C_Clash) "ring" = some none)
    (a3 : PySem.W.findIn K (.ref C_Clash) "__init__" = some (some (.ref f3)))
    (t3 : PySem.W.typeIn K (.ref f3) = some (.type "function"))
    (l3 : K.lookup f3 = some ⟨oc3, od3, .func (PySem.W.fnOf "__init__" "Clash.__init__" (defArgs s_ClashD_initD) (defBody s_ClashD_initD) (defScope s_ClashD_initD) .none kV3 dc3 pm3 an3 cd3 ct3), sl3⟩)
    (c3 : PySem.W.codeIn K cd3 "Clash.__init__" = true)
    (k3 : PySem.W.keepIn K (.ref f3) = true)
    (a_BadCard : PySem.W.nsIn K mainGlobals "BadCard" = some (some (.ref C_BadCard)))
    (x_BadCard : K.lookup C_BadCard = some (excClassObj nm_BadCard q_BadCard C_BadCard N_BadCard bs_BadCard [.ref C_EllError, .type "ValueError", .type "Exception", .type "BaseException", .type "object"] true sn_BadCard sub_BadCard ab_BadCard col_BadCard dd_BadCard m0_BadCard m1_BadCard m2_BadCard m3_BadCard m5_BadCard "ValueError.__new__"))
    (sa_BadCard : PySem.W.findIn K (.ref C_BadCard) "__setattr__" = some (some (.builtin "object.__setattr__")))
    (ga_BadCard : PySem.W.findIn K (.ref C_BadCard) "__getattribute__" = some (some (.builtin "BaseException.__getattribute__")))
    (gt_BadCard : PySem.W.findIn K (.ref C_BadCard) "__getattr__" = some none)
    (ca_BadCard : PySem.W.findIn K (.ref C_BadCard) "__class__" = some (some (.builtin "object.__class__")))
    (kC_BadCard : PySem.W.keepIn K (.ref C_BadCard) = true)
    (eC_BadCard : PySem.W.subIn K (.ref C_BadCard) (.type "BaseException") = some true)
    (tC_BadCard : PySem.W.typeIn K (.ref C_BadCard) = some (.type "type"))
    (hC_BadCard : PySem.W.hasDictIn K C_BadCard = true)
    (ic_BadCard : PySem.W.isClsIn K C_BadCard = true)
    (mo_BadCard : PySem.W.mroIn K C_BadCard (.type "object") = some true)
    (no_BadCard_place : PySem.W.findIn K (.ref C_BadCard) "place" = some none)
    (a4 : PySem.W.findIn K (.ref C_BadCard) "__init__" = some (some (.ref f4)))
    (t4 : PySem.W.typeIn K (.ref f4) = some (.type "function"))
    (l4 : K.lookup f4 = some ⟨oc4, od4, .func (PySem.W.fnOf "__init__" "BadCard.__init__" (defArgs s_BadCardD_initD) (defBody s_BadCardD_initD) (defScope s_BadCardD_initD) .none kV4 dc4 pm4 an4 cd4 ct4), sl4⟩)
    (c4 : PySem.W.codeIn K cd4 "BadCard.__init__" = true)
    (k4 : PySem.W.keepIn K (.ref f4) = true)
    (a_BadLine : PySem.W.nsIn K mainGlobals "BadLine" = some (some (.ref C_BadLine)))
    (x_BadLine : K.lookup C_BadLine = some (excClassObj nm_BadLine q_BadLine C_BadLine N_BadLine bs_BadLine [.ref C_EllError, .type "ValueError", .type "Exception", .type "BaseException", .type "object"] true sn_BadLine sub_BadLine ab_BadLine col_BadLine dd_BadLine m0_BadLine m1_BadLine m2_BadLine m3_BadLine m5_BadLine "ValueError.__new__"))
    (sa_BadLine : PySem.W.findIn K (.ref C_BadLine) "__setattr__" = some (some (.builtin "object.__setattr__")))
    (ga_BadLine : PySem.W.findIn K (.ref C_BadLine) "__getattribute__" = some (some (.builtin "BaseException.__getattribute__")))
    (gt_BadLine : PySem.W.findIn K (.ref C_BadLine) "__getattr__" = some none)
    (ca_BadLine : PySem.W.findIn K (.ref C_BadLine) "__class__" = some (some (.builtin "object.__class__")))
    (kC_BadLine : PySem.W.keepIn K (.ref C_BadLine) = true)
    (eC_BadLine : PySem.W.subIn K (.ref C_BadLine) (.type "BaseException") = some true)
    (tC_BadLine : PySem.W.typeIn K (.ref C_BadLine) = some (.type "type"))
    (hC_BadLine : PySem.W.hasDictIn K C_BadLine = true)
    (ic_BadLine : PySem.W.isClsIn K C_BadLine = true)
    (mo_BadLine : PySem.W.mroIn K C_BadLine (.type "object") = some true)
    (no_BadLine_line : PySem.W.findIn K (.ref C_BadLine) "line" = some none)
    (no_BadLine_word : PySem.W.findIn K (.ref C_BadLine) "word" = some none)
    (a5 : PySem.W.findIn K (.ref C_BadLine) "__init__" = some (some (.ref f5)))
    (t5 : PySem.W.typeIn K (.ref f5) = some (.type "function"))
    (l5 : K.lookup f5 = some ⟨oc5, od5, .func (PySem.W.fnOf "__init__" "BadLine.__init__" (defArgs s_BadLineD_initD) (defBody s_BadLineD_initD) (defScope s_BadLineD_initD) .none kV5 dc5 pm5 an5 cd5 ct5), sl5⟩)
    (c5 : PySem.W.codeIn K cd5 "BadLine.__init__" = true)
    (k5 : PySem.W.keepIn K (.ref f5) = true)
    (vC_BadCard : PySem.W.subIn K (.ref C_BadCard) (.type "ValueError") = some true)
    (lC_BadCard : PySem.W.subIn K (.ref C_BadCard) (.ref C_EllError) = some true)
    (vC_BadLine : PySem.W.subIn K (.ref C_BadLine) (.type "ValueError") = some true)
    (lC_BadLine : PySem.W.subIn K (.ref C_BadLine) (.ref C_EllError) = some true)
    (s_BadLine_BadCard : PySem.W.subIn K (.ref C_BadLine) (.ref C_BadCard) = some false)
    (ne_BadLine_BadCard : C_BadLine ≠ C_BadCard)
    (s_BadCard_BadLine : PySem.W.subIn K (.ref C_BadCard) (.ref C_BadLine) = some false)
    (s_BadLine_BadLine : PySem.W.subIn K (.ref C_BadLine) (.ref C_BadLine) = some true)
    (s_BadSpot_BadSpot : PySem.W.subIn K (.ref C_BadSpot) (.ref C_BadSpot) = some true)
    (s_BadCard_BadCard : PySem.W.subIn K (.ref C_BadCard) (.ref C_BadCard) = some true)
    (a_Reader : PySem.W.nsIn K mainGlobals "Reader" = some (some (.ref C_Reader)))
    (rpg : PySem.W.plainGet K C_Reader Str.empty = true)
    (rhd : PySem.W.hasDictIn K C_Reader = true)
    (rpo : PySem.W.plainOver K C_Reader = true)
    (rsa : PySem.W.findIn K (.ref C_Reader) "__setattr__" = some (some (.builtin "object.__setattr__")))
    (rR : PySem.W.findIn K (.ref C_Reader) "_rows" = some none)
    (rL : PySem.W.findIn K (.ref C_Reader) "_line" = some none)
    (rW : PySem.W.findIn K (.ref C_Reader) "_word" = some none)
    (rmk : PySem.W.makesIn K C_Reader = true)
    (rkc : PySem.W.keepIn K (.ref C_Reader) = true)
    (a6 : PySem.W.findIn K (.ref C_Reader) "__init__" = some (some (.ref f6)))
    (i6 : PySem.W.isFn K (.ref f6) = true)
    (l6 : K.lookup f6 = some ⟨oc6, od6, .func (PySem.W.fnOf "__init__" "Reader.__init__" (defArgs s_ReaderD_initD) (defBody s_ReaderD_initD) (defScope s_ReaderD_initD) .none kV6 dc6 pm6 an6 cd6 ct6), sl6⟩)
    (c6 : PySem.W.codeIn K cd6 "Reader.__init__" = true)
    (k6 : PySem.W.keepIn K (.ref f6) = true)
    (a7 : PySem.W.findIn K (.ref C_Reader) "head" = some (some (.ref f7)))
    (i7 : PySem.W.isFn K (.ref f7) = true)
    (l7 : K.lookup f7 = some ⟨oc7, od7, .func (PySem.W.fnOf "head" "Reader.head" (defArgs s_Reader_head) (defBody s_Reader_head) (defScope s_Reader_head) .none kV7 dc7 pm7 an7 cd7 ct7), sl7⟩)
    (c7 : PySem.W.codeIn K cd7 "Reader.head" = true)
    (k7 : PySem.W.keepIn K (.ref f7) = true)
    (a8 : PySem.W.findIn K (.ref C_Reader) "peek" = some (some (.ref f8)))
    (i8 : PySem.W.isFn K (.ref f8) = true)
    (l8 : K.lookup f8 = some ⟨oc8, od8, .func (PySem.W.fnOf "peek" "Reader.peek" (defArgs s_Reader_peek) (defBody s_Reader_peek) (defScope s_Reader_peek) .none kV8 dc8 pm8 an8 cd8 ct8), sl8⟩)
    (c8 : PySem.W.codeIn K cd8 "Reader.peek" = true)
    (k8 : PySem.W.keepIn K (.ref f8) = true)
    (a9 : PySem.W.findIn K (.ref C_Reader) "take" = some (some (.ref f9)))
    (i9 : PySem.W.isFn K (.ref f9) = true)
    (l9 : K.lookup f9 = some ⟨oc9, od9, .func (PySem.W.fnOf "take" "Reader.take" (defArgs s_Reader_take) (defBody s_Reader_take) (defScope s_Reader_take) .none kV9 dc9 pm9 an9 cd9 ct9), sl9⟩)
    (c9 : PySem.W.codeIn K cd9 "Reader.take" = true)
    (k9 : PySem.W.keepIn K (.ref f9) = true)
    (a10 : PySem.W.findIn K (.ref C_Reader) "refuse" = some (some (.ref f10)))
    (i10 : PySem.W.isFn K (.ref f10) = true)
    (l10 : K.lookup f10 = some ⟨oc10, od10, .func (PySem.W.fnOf "refuse" "Reader.refuse" (defArgs s_Reader_refuse) (defBody s_Reader_refuse) (defScope s_Reader_refuse) .none kV10 dc10 pm10 an10 cd10 ct10), sl10⟩)
    (c10 : PySem.W.codeIn K cd10 "Reader.refuse" = true)
    (k10 : PySem.W.keepIn K (.ref f10) = true)
    (a11 : PySem.W.findIn K (.ref C_Reader) "take_integer" = some (some (.ref f11)))
    (i11 : PySem.W.isFn K (.ref f11) = true)
    (l11 : K.lookup f11 = some ⟨oc11, od11, .func (PySem.W.fnOf "take_integer" "Reader.take_integer" (defArgs s_Reader_take_integer) (defBody s_Reader_take_integer) (defScope s_Reader_take_integer) .none kV11 dc11 pm11 an11 cd11 ct11), sl11⟩)
    (c11 : PySem.W.codeIn K cd11 "Reader.take_integer" = true)
    (k11 : PySem.W.keepIn K (.ref f11) = true)
    (a12 : PySem.W.findIn K (.ref C_Reader) "take_number" = some (some (.ref f12)))
    (i12 : PySem.W.isFn K (.ref f12) = true)
    (l12 : K.lookup f12 = some ⟨oc12, od12, .func (PySem.W.fnOf "take_number" "Reader.take_number" (defArgs s_Reader_take_number) (defBody s_Reader_take_number) (defScope s_Reader_take_number) .none kV12 dc12 pm12 an12 cd12 ct12), sl12⟩)
    (c12 : PySem.W.codeIn K cd12 "Reader.take_number" = true)
    (k12 : PySem.W.keepIn K (.ref f12) = true)
    (a13 : PySem.W.findIn K (.ref C_Reader) "end_line" = some (some (.ref f13)))
    (i13 : PySem.W.isFn K (.ref f13) = true)
    (l13 : K.lookup f13 = some ⟨oc13, od13, .func (PySem.W.fnOf "end_line" "Reader.end_line" (defArgs s_Reader_end_line) (defBody s_Reader_end_line) (defScope s_Reader_end_line) .none kV13 dc13 pm13 an13 cd13 ct13), sl13⟩)
    (c13 : PySem.W.codeIn K cd13 "Reader.end_line" = true)
    (k13 : PySem.W.keepIn K (.ref f13) = true)
    (a14 : PySem.W.findIn K (.ref C_Reader) "end_lines" = some (some (.ref f14)))
    (i14 : PySem.W.isFn K (.ref f14) = true)
    (l14 : K.lookup f14 = some ⟨oc14, od14, .func (PySem.W.fnOf "end_lines" "Reader.end_lines" (defArgs s_Reader_end_lines) (defBody s_Reader_end_lines) (defScope s_Reader_end_lines) .none kV14 dc14 pm14 an14 cd14 ct14), sl14⟩)
    (c14 : PySem.W.codeIn K cd14 "Reader.end_lines" = true)
    (k14 : PySem.W.keepIn K (.ref f14) = true)
    (a15 : PySem.W.findIn K (.ref C_Reader) "take_word" = some (some (.ref f15)))
    (i15 : PySem.W.isFn K (.ref f15) = true)
    (l15 : K.lookup f15 = some ⟨oc15, od15, .func (PySem.W.fnOf "take_word" "Reader.take_word" (defArgs s_Reader_take_word) (defBody s_Reader_take_word) (defScope s_Reader_take_word) .none kV15 dc15 pm15 an15 cd15 ct15), sl15⟩)
    (c15 : PySem.W.codeIn K cd15 "Reader.take_word" = true)
    (k15 : PySem.W.keepIn K (.ref f15) = true)
    (a16 : PySem.W.findIn K (.ref C_Reader) "take_name" = some (some (.ref f16)))
    (i16 : PySem.W.isFn K (.ref f16) = true)
    (l16 : K.lookup f16 = some ⟨oc16, od16, .func (PySem.W.fnOf "take_name" "Reader.take_name" (defArgs s_Reader_take_name) (defBody s_Reader_take_name) (defScope s_Reader_take_name) .none kV16 dc16 pm16 an16 cd16 ct16), sl16⟩)
    (c16 : PySem.W.codeIn K cd16 "Reader.take_name" = true)
    (k16 : PySem.W.keepIn K (.ref f16) = true)
    (a_Card : PySem.W.nsIn K mainGlobals "Card" = some (some (.ref C_Card)))
    (pg : PySem.W.plainGet K C_Card Str.empty = true)
    (hd : PySem.W.hasDictIn K C_Card = true)
    (po : PySem.W.plainOver K C_Card = true)
    (sa : PySem.W.findIn K (.ref C_Card) "__setattr__" = some (some (.builtin "object.__setattr__")))
    (ca : PySem.W.findIn K (.ref C_Card) "__class__" = some (some (.builtin "object.__class__")))
    (mo : PySem.W.mroIn K C_Card (.type "object") = some true)
    (nS : PySem.W.findIn K (.ref C_Card) "spots" = some none)
    (nP : PySem.W.findIn K (.ref C_Card) "_places" = some none)
    (nR : PySem.W.findIn K (.ref C_Card) "rows" = some none)
    (ic : PySem.W.isClsIn K C_Card = true)
    (tC : PySem.W.typeIn K (.ref C_Card) = some (.type "type"))
    (mk : PySem.W.makesIn K C_Card = true)
    (kc : PySem.W.keepIn K (.ref C_Card) = true)
    (sf : PySem.W.selfFirst K C_Card = true)
    (sb_NoneType : PySem.W.subIn K (.type "NoneType") (.ref C_Card) = some false)
    (sb_bool : PySem.W.subIn K (.type "bool") (.ref C_Card) = some false)
    (sb_int : PySem.W.subIn K (.type "int") (.ref C_Card) = some false)
    (sb_str : PySem.W.subIn K (.type "str") (.ref C_Card) = some false)
    (sb_list : PySem.W.subIn K (.type "list") (.ref C_Card) = some false)
    (sb_tuple : PySem.W.subIn K (.type "tuple") (.ref C_Card) = some false)
    (a17 : PySem.W.findIn K (.ref C_Card) "__init__" = some (some (.ref f17)))
    (i17 : PySem.W.isFn K (.ref f17) = true)
    (l17 : K.lookup f17 = some ⟨oc17, od17, .func (PySem.W.fnOf "__init__" "Card.__init__" (defArgs s_CardD_initD) (defBody s_CardD_initD) (defScope s_CardD_initD) .none kV17 dc17 pm17 an17 cd17 ct17), sl17⟩)
    (c17 : PySem.W.codeIn K cd17 "Card.__init__" = true)
    (k17 : PySem.W.keepIn K (.ref f17) = true)
    (a18 : PySem.W.findIn K (.ref C_Card) "__getitem__" = some (some (.ref f18)))
    (i18 : PySem.W.isFn K (.ref f18) = true)
    (l18 : K.lookup f18 = some ⟨oc18, od18, .func (PySem.W.fnOf "__getitem__" "Card.__getitem__" (defArgs s_CardD_getitemD) (defBody s_CardD_getitemD) (defScope s_CardD_getitemD) .none kV18 dc18 pm18 an18 cd18 ct18), sl18⟩)
    (c18 : PySem.W.codeIn K cd18 "Card.__getitem__" = true)
    (k18 : PySem.W.keepIn K (.ref f18) = true)
    (a19 : PySem.W.findIn K (.ref C_Card) "__len__" = some (some (.ref f19)))
    (i19 : PySem.W.isFn K (.ref f19) = true)
    (l19 : K.lookup f19 = some ⟨oc19, od19, .func (PySem.W.fnOf "__len__" "Card.__len__" (defArgs s_CardD_lenD) (defBody s_CardD_lenD) (defScope s_CardD_lenD) .none kV19 dc19 pm19 an19 cd19 ct19), sl19⟩)
    (c19 : PySem.W.codeIn K cd19 "Card.__len__" = true)
    (k19 : PySem.W.keepIn K (.ref f19) = true)
    (a20 : PySem.W.findIn K (.ref C_Card) "__contains__" = some (some (.ref f20)))
    (i20 : PySem.W.isFn K (.ref f20) = true)
    (l20 : K.lookup f20 = some ⟨oc20, od20, .func (PySem.W.fnOf "__contains__" "Card.__contains__" (defArgs s_CardD_containsD) (defBody s_CardD_containsD) (defScope s_CardD_containsD) .none kV20 dc20 pm20 an20 cd20 ct20), sl20⟩)
    (c20 : PySem.W.codeIn K cd20 "Card.__contains__" = true)
    (k20 : PySem.W.keepIn K (.ref f20) = true)
    (a21 : PySem.W.findIn K (.ref C_Card) "__eq__" = some (some (.ref f21)))
    (i21 : PySem.W.isFn K (.ref f21) = true)
    (l21 : K.lookup f21 = some ⟨oc21, od21, .func (PySem.W.fnOf "__eq__" "Card.__eq__" (defArgs s_CardD_eqD) (defBody s_CardD_eqD) (defScope s_CardD_eqD) .none kV21 dc21 pm21 an21 cd21 ct21), sl21⟩)
    (c21 : PySem.W.codeIn K cd21 "Card.__eq__" = true)
    (k21 : PySem.W.keepIn K (.ref f21) = true)
    (a22 : PySem.W.findIn K (.ref C_Card) "_place" = some (some (.ref f22)))
    (i22 : PySem.W.isFn K (.ref f22) = true)
    (l22 : K.lookup f22 = some ⟨oc22, od22, .func (PySem.W.fnOf "_place" "Card._place" (defArgs s_Card__place) (defBody s_Card__place) (defScope s_Card__place) .none kV22 dc22 pm22 an22 cd22 ct22), sl22⟩)
    (c22 : PySem.W.codeIn K cd22 "Card._place" = true)
    (k22 : PySem.W.keepIn K (.ref f22) = true)
    (a23 : PySem.W.nsIn K mainGlobals "_wall" = some (some (.ref f23)))
    (l23 : K.lookup f23 = some ⟨oc23, od23, .func (PySem.W.fnOf "_wall" "_wall" (defArgs s__wall) (defBody s__wall) (defScope s__wall) .none kV23 dc23 pm23 an23 cd23 ct23), sl23⟩)
    (c23 : PySem.W.codeIn K cd23 "_wall" = true)
    (k23 : PySem.W.keepIn K (.ref f23) = true)
    (a24 : PySem.W.nsIn K mainGlobals "is_integer" = some (some (.ref f24)))
    (l24 : K.lookup f24 = some ⟨oc24, od24, .func (PySem.W.fnOf "is_integer" "is_integer" (defArgs s_is_integer) (defBody s_is_integer) (defScope s_is_integer) .none kV24 dc24 pm24 an24 cd24 ct24), sl24⟩)
    (c24 : PySem.W.codeIn K cd24 "is_integer" = true)
    (k24 : PySem.W.keepIn K (.ref f24) = true)
    (a25 : PySem.W.nsIn K mainGlobals "is_row" = some (some (.ref f25)))
    (l25 : K.lookup f25 = some ⟨oc25, od25, .func (PySem.W.fnOf "is_row" "is_row" (defArgs s_is_row) (defBody s_is_row) (defScope s_is_row) .none kV25 dc25 pm25 an25 cd25 ct25), sl25⟩)
    (c25 : PySem.W.codeIn K cd25 "is_row" = true)
    (k25 : PySem.W.keepIn K (.ref f25) = true)
    (a26 : PySem.W.nsIn K mainGlobals "is_tuple_of" = some (some (.ref f26)))
    (l26 : K.lookup f26 = some ⟨oc26, od26, .func (PySem.W.fnOf "is_tuple_of" "is_tuple_of" (defArgs s_is_tuple_of) (defBody s_is_tuple_of) (defScope s_is_tuple_of) .none kV26 dc26 pm26 an26 cd26 ct26), sl26⟩)
    (c26 : PySem.W.codeIn K cd26 "is_tuple_of" = true)
    (k26 : PySem.W.keepIn K (.ref f26) = true)
    (a27 : PySem.W.nsIn K mainGlobals "ways_from" = some (some (.ref f27)))
    (l27 : K.lookup f27 = some ⟨oc27, od27, .func (PySem.W.fnOf "ways_from" "ways_from" (defArgs s_ways_from) (defBody s_ways_from) (defScope s_ways_from) .none kV27 dc27 pm27 an27 cd27 ct27), sl27⟩)
    (c27 : PySem.W.codeIn K cd27 "ways_from" = true)
    (k27 : PySem.W.keepIn K (.ref f27) = true)
    (a28 : PySem.W.nsIn K mainGlobals "_ring_of" = some (some (.ref f28)))
    (l28 : K.lookup f28 = some ⟨oc28, od28, .func (PySem.W.fnOf "_ring_of" "_ring_of" (defArgs s__ring_of) (defBody s__ring_of) (defScope s__ring_of) .none kV28 dc28 pm28 an28 cd28 ct28), sl28⟩)
    (c28 : PySem.W.codeIn K cd28 "_ring_of" = true)
    (k28 : PySem.W.keepIn K (.ref f28) = true)
    (a29 : PySem.W.nsIn K mainGlobals "_followed_back" = some (some (.ref f29)))
    (l29 : K.lookup f29 = some ⟨oc29, od29, .func (PySem.W.fnOf "_followed_back" "_followed_back" (defArgs s__followed_back) (defBody s__followed_back) (defScope s__followed_back) .none kV29 dc29 pm29 an29 cd29 ct29), sl29⟩)
    (c29 : PySem.W.codeIn K cd29 "_followed_back" = true)
    (k29 : PySem.W.keepIn K (.ref f29) = true)
    (a30 : PySem.W.nsIn K mainGlobals "is_whole" = some (some (.ref f30)))
    (l30 : K.lookup f30 = some ⟨oc30, od30, .func (PySem.W.fnOf "is_whole" "is_whole" (defArgs s_is_whole) (defBody s_is_whole) (defScope s_is_whole) .none kV30 dc30 pm30 an30 cd30 ct30), sl30⟩)
    (c30 : PySem.W.codeIn K cd30 "is_whole" = true)
    (k30 : PySem.W.keepIn K (.ref f30) = true)
    (a31 : PySem.W.nsIn K mainGlobals "_is_digits" = some (some (.ref f31)))
    (l31 : K.lookup f31 = some ⟨oc31, od31, .func (PySem.W.fnOf "_is_digits" "_is_digits" (defArgs s__is_digits) (defBody s__is_digits) (defScope s__is_digits) .none kV31 dc31 pm31 an31 cd31 ct31), sl31⟩)
    (c31 : PySem.W.codeIn K cd31 "_is_digits" = true)
    (k31 : PySem.W.keepIn K (.ref f31) = true)
    (a32 : PySem.W.nsIn K mainGlobals "is_spot" = some (some (.ref f32)))
    (l32 : K.lookup f32 = some ⟨oc32, od32, .func (PySem.W.fnOf "is_spot" "is_spot" (defArgs s_is_spot) (defBody s_is_spot) (defScope s_is_spot) .none kV32 dc32 pm32 an32 cd32 ct32), sl32⟩)
    (c32 : PySem.W.codeIn K cd32 "is_spot" = true)
    (k32 : PySem.W.keepIn K (.ref f32) = true)
    (a33 : PySem.W.nsIn K mainGlobals "arrows_of" = some (some (.ref f33)))
    (l33 : K.lookup f33 = some ⟨oc33, od33, .func (PySem.W.fnOf "arrows_of" "arrows_of" (defArgs s_arrows_of) (defBody s_arrows_of) (defScope s_arrows_of) .none kV33 dc33 pm33 an33 cd33 ct33), sl33⟩)
    (c33 : PySem.W.codeIn K cd33 "arrows_of" = true)
    (k33 : PySem.W.keepIn K (.ref f33) = true)
    (a34 : PySem.W.nsIn K mainGlobals "places_of" = some (some (.ref f34)))
    (l34 : K.lookup f34 = some ⟨oc34, od34, .func (PySem.W.fnOf "places_of" "places_of" (defArgs s_places_of) (defBody s_places_of) (defScope s_places_of) .none kV34 dc34 pm34 an34 cd34 ct34), sl34⟩)
    (c34 : PySem.W.codeIn K cd34 "places_of" = true)
    (k34 : PySem.W.keepIn K (.ref f34) = true)
    (a35 : PySem.W.nsIn K mainGlobals "is_name" = some (some (.ref f35)))
    (l35 : K.lookup f35 = some ⟨oc35, od35, .func (PySem.W.fnOf "is_name" "is_name" (defArgs s_is_name) (defBody s_is_name) (defScope s_is_name) .none kV35 dc35 pm35 an35 cd35 ct35), sl35⟩)
    (c35 : PySem.W.codeIn K cd35 "is_name" = true)
    (k35 : PySem.W.keepIn K (.ref f35) = true)
    (a36 : PySem.W.nsIn K mainGlobals "is_closed" = some (some (.ref f36)))
    (l36 : K.lookup f36 = some ⟨oc36, od36, .func (PySem.W.fnOf "is_closed" "is_closed" (defArgs s_is_closed) (defBody s_is_closed) (defScope s_is_closed) .none kV36 dc36 pm36 an36 cd36 ct36), sl36⟩)
    (c36 : PySem.W.codeIn K cd36 "is_closed" = true)
    (k36 : PySem.W.keepIn K (.ref f36) = true)
    (a37 : PySem.W.nsIn K mainGlobals "joined_tables" = some (some (.ref f37)))
    (l37 : K.lookup f37 = some ⟨oc37, od37, .func (PySem.W.fnOf "joined_tables" "joined_tables" (defArgs s_joined_tables) (defBody s_joined_tables) (defScope s_joined_tables) .none kV37 dc37 pm37 an37 cd37 ct37), sl37⟩)
    (c37 : PySem.W.codeIn K cd37 "joined_tables" = true)
    (k37 : PySem.W.keepIn K (.ref f37) = true)
    (a38 : PySem.W.nsIn K mainGlobals "_by_way" = some (some (.ref f38)))
    (l38 : K.lookup f38 = some ⟨oc38, od38, .func (PySem.W.fnOf "_by_way" "_by_way" (defArgs s__by_way) (defBody s__by_way) (defScope s__by_way) .none kV38 dc38 pm38 an38 cd38 ct38), sl38⟩)
    (c38 : PySem.W.codeIn K cd38 "_by_way" = true)
    (k38 : PySem.W.keepIn K (.ref f38) = true)
    (a39 : PySem.W.nsIn K mainGlobals "_side_by_side" = some (some (.ref f39)))
    (l39 : K.lookup f39 = some ⟨oc39, od39, .func (PySem.W.fnOf "_side_by_side" "_side_by_side" (defArgs s__side_by_side) (defBody s__side_by_side) (defScope s__side_by_side) .none kV39 dc39 pm39 an39 cd39 ct39), sl39⟩)
    (c39 : PySem.W.codeIn K cd39 "_side_by_side" = true)
    (k39 : PySem.W.keepIn K (.ref f39) = true)
    (a40 : PySem.W.nsIn K mainGlobals "_with_least" = some (some (.ref f40)))
    (l40 : K.lookup f40 = some ⟨oc40, od40, .func (PySem.W.fnOf "_with_least" "_with_least" (defArgs s__with_least) (defBody s__with_least) (defScope s__with_least) .none kV40 dc40 pm40 an40 cd40 ct40), sl40⟩)
    (c40 : PySem.W.codeIn K cd40 "_with_least" = true)
    (k40 : PySem.W.keepIn K (.ref f40) = true)
    (a41 : PySem.W.nsIn K mainGlobals "_joints" = some (some (.ref f41)))
    (l41 : K.lookup f41 = some ⟨oc41, od41, .func (PySem.W.fnOf "_joints" "_joints" (defArgs s__joints) (defBody s__joints) (defScope s__joints) .none kV41 dc41 pm41 an41 cd41 ct41), sl41⟩)
    (c41 : PySem.W.codeIn K cd41 "_joints" = true)
    (k41 : PySem.W.keepIn K (.ref f41) = true)
    (a42 : PySem.W.nsIn K mainGlobals "card_links" = some (some (.ref f42)))
    (l42 : K.lookup f42 = some ⟨oc42, od42, .func (PySem.W.fnOf "card_links" "card_links" (defArgs s_card_links) (defBody s_card_links) (defScope s_card_links) .none kV42 dc42 pm42 an42 cd42 ct42), sl42⟩)
    (c42 : PySem.W.codeIn K cd42 "card_links" = true)
    (k42 : PySem.W.keepIn K (.ref f42) = true)
    (a43 : PySem.W.nsIn K mainGlobals "_trusted" = some (some (.ref f43)))
    (l43 : K.lookup f43 = some ⟨oc43, od43, .func (PySem.W.fnOf "_trusted" "_trusted" (defArgs s__trusted) (defBody s__trusted) (defScope s__trusted) .none kV43 dc43 pm43 an43 cd43 ct43), sl43⟩)
    (c43 : PySem.W.codeIn K cd43 "_trusted" = true)
    (k43 : PySem.W.keepIn K (.ref f43) = true)
    (a44 : PySem.W.nsIn K mainGlobals "_judge_rows" = some (some (.ref f44)))
    (l44 : K.lookup f44 = some ⟨oc44, od44, .func (PySem.W.fnOf "_judge_rows" "_judge_rows" (defArgs s__judge_rows) (defBody s__judge_rows) (defScope s__judge_rows) .none kV44 dc44 pm44 an44 cd44 ct44), sl44⟩)
    (c44 : PySem.W.codeIn K cd44 "_judge_rows" = true)
    (k44 : PySem.W.keepIn K (.ref f44) = true)
    (a45 : PySem.W.nsIn K mainGlobals "_clash_ring" = some (some (.ref f45)))
    (l45 : K.lookup f45 = some ⟨oc45, od45, .func (PySem.W.fnOf "_clash_ring" "_clash_ring" (defArgs s__clash_ring) (defBody s__clash_ring) (defScope s__clash_ring) .none kV45 dc45 pm45 an45 cd45 ct45), sl45⟩)
    (c45 : PySem.W.codeIn K cd45 "_clash_ring" = true)
    (k45 : PySem.W.keepIn K (.ref f45) = true)
    (a46 : PySem.W.nsIn K mainGlobals "write_card" = some (some (.ref f46)))
    (l46 : K.lookup f46 = some ⟨oc46, od46, .func (PySem.W.fnOf "write_card" "write_card" (defArgs s_write_card) (defBody s_write_card) (defScope s_write_card) .none kV46 dc46 pm46 an46 cd46 ct46), sl46⟩)
    (c46 : PySem.W.codeIn K cd46 "write_card" = true)
    (k46 : PySem.W.keepIn K (.ref f46) = true)
    (a47 : PySem.W.nsIn K mainGlobals "read_card" = some (some (.ref f47)))
    (l47 : K.lookup f47 = some ⟨oc47, od47, .func (PySem.W.fnOf "read_card" "read_card" (defArgs s_read_card) (defBody s_read_card) (defScope s_read_card) .none kV47 dc47 pm47 an47 cd47 ct47), sl47⟩)
    (c47 : PySem.W.codeIn K cd47 "read_card" = true)
    (k47 : PySem.W.keepIn K (.ref f47) = true)
    (a48 : PySem.W.nsIn K mainGlobals "_take_spot" = some (some (.ref f48)))
    (l48 : K.lookup f48 = some ⟨oc48, od48, .func (PySem.W.fnOf "_take_spot" "_take_spot" (defArgs s__take_spot) (defBody s__take_spot) (defScope s__take_spot) .none kV48 dc48 pm48 an48 cd48 ct48), sl48⟩)
    (c48 : PySem.W.codeIn K cd48 "_take_spot" = true)
    (k48 : PySem.W.keepIn K (.ref f48) = true)
    (a49 : PySem.W.nsIn K mainGlobals "_take_row" = some (some (.ref f49)))
    (l49 : K.lookup f49 = some ⟨oc49, od49, .func (PySem.W.fnOf "_take_row" "_take_row" (defArgs s__take_row) (defBody s__take_row) (defScope s__take_row) .none kV49 dc49 pm49 an49 cd49 ct49), sl49⟩)
    (c49 : PySem.W.codeIn K cd49 "_take_row" = true)
    (k49 : PySem.W.keepIn K (.ref f49) = true)
    (a50 : PySem.W.nsIn K mainGlobals "_law_bag_of" = some (some (.ref f50)))
    (l50 : K.lookup f50 = some ⟨oc50, od50, .func (PySem.W.fnOf "_law_bag_of" "_law_bag_of" (defArgs s__law_bag_of) (defBody s__law_bag_of) (defScope s__law_bag_of) .none kV50 dc50 pm50 an50 cd50 ct50), sl50⟩)
    (c50 : PySem.W.codeIn K cd50 "_law_bag_of" = true)
    (k50 : PySem.W.keepIn K (.ref f50) = true)
    (a51 : PySem.W.nsIn K mainGlobals "_law_pick" = some (some (.ref f51)))
    (l51 : K.lookup f51 = some ⟨oc51, od51, .func (PySem.W.fnOf "_law_pick" "_law_pick" (defArgs s__law_pick) (defBody s__law_pick) (defScope s__law_pick) .none kV51 dc51 pm51 an51 cd51 ct51), sl51⟩)
    (c51 : PySem.W.codeIn K cd51 "_law_pick" = true)
    (k51 : PySem.W.keepIn K (.ref f51) = true)
    (a52 : PySem.W.nsIn K mainGlobals "_law_choice" = some (some (.ref f52)))
    (l52 : K.lookup f52 = some ⟨oc52, od52, .func (PySem.W.fnOf "_law_choice" "_law_choice" (defArgs s__law_choice) (defBody s__law_choice) (defScope s__law_choice) .none kV52 dc52 pm52 an52 cd52 ct52), sl52⟩)
    (c52 : PySem.W.codeIn K cd52 "_law_choice" = true)
    (k52 : PySem.W.keepIn K (.ref f52) = true)
    (a53 : PySem.W.nsIn K mainGlobals "_law_one_in" = some (some (.ref f53)))
    (l53 : K.lookup f53 = some ⟨oc53, od53, .func (PySem.W.fnOf "_law_one_in" "_law_one_in" (defArgs s__law_one_in) (defBody s__law_one_in) (defScope s__law_one_in) .none kV53 dc53 pm53 an53 cd53 ct53), sl53⟩)
    (c53 : PySem.W.codeIn K cd53 "_law_one_in" = true)
    (k53 : PySem.W.keepIn K (.ref f53) = true)
    (a54 : PySem.W.nsIn K mainGlobals "_law_integer" = some (some (.ref f54)))
    (l54 : K.lookup f54 = some ⟨oc54, od54, .func (PySem.W.fnOf "_law_integer" "_law_integer" (defArgs s__law_integer) (defBody s__law_integer) (defScope s__law_integer) .none kV54 dc54 pm54 an54 cd54 ct54), sl54⟩)
    (c54 : PySem.W.codeIn K cd54 "_law_integer" = true)
    (k54 : PySem.W.keepIn K (.ref f54) = true)
    (a55 : PySem.W.nsIn K mainGlobals "_law_letters_of" = some (some (.ref f55)))
    (l55 : K.lookup f55 = some ⟨oc55, od55, .func (PySem.W.fnOf "_law_letters_of" "_law_letters_of" (defArgs s__law_letters_of) (defBody s__law_letters_of) (defScope s__law_letters_of) .none kV55 dc55 pm55 an55 cd55 ct55), sl55⟩)
    (c55 : PySem.W.codeIn K cd55 "_law_letters_of" = true)
    (k55 : PySem.W.keepIn K (.ref f55) = true)
    (a56 : PySem.W.nsIn K mainGlobals "_law_words_of" = some (some (.ref f56)))
    (l56 : K.lookup f56 = some ⟨oc56, od56, .func (PySem.W.fnOf "_law_words_of" "_law_words_of" (defArgs s__law_words_of) (defBody s__law_words_of) (defScope s__law_words_of) .none kV56 dc56 pm56 an56 cd56 ct56), sl56⟩)
    (c56 : PySem.W.codeIn K cd56 "_law_words_of" = true)
    (k56 : PySem.W.keepIn K (.ref f56) = true)
    (a57 : PySem.W.nsIn K mainGlobals "_law_names_of" = some (some (.ref f57)))
    (l57 : K.lookup f57 = some ⟨oc57, od57, .func (PySem.W.fnOf "_law_names_of" "_law_names_of" (defArgs s__law_names_of) (defBody s__law_names_of) (defScope s__law_names_of) .none kV57 dc57 pm57 an57 cd57 ct57), sl57⟩)
    (c57 : PySem.W.codeIn K cd57 "_law_names_of" = true)
    (k57 : PySem.W.keepIn K (.ref f57) = true)
    (a58 : PySem.W.nsIn K mainGlobals "_law_ground" = some (some (.ref f58)))
    (l58 : K.lookup f58 = some ⟨oc58, od58, .func (PySem.W.fnOf "_law_ground" "_law_ground" (defArgs s__law_ground) (defBody s__law_ground) (defScope s__law_ground) .none kV58 dc58 pm58 an58 cd58 ct58), sl58⟩)
    (c58 : PySem.W.codeIn K cd58 "_law_ground" = true)
    (k58 : PySem.W.keepIn K (.ref f58) = true)
    (a59 : PySem.W.nsIn K mainGlobals "_law_some_spots" = some (some (.ref f59)))
    (l59 : K.lookup f59 = some ⟨oc59, od59, .func (PySem.W.fnOf "_law_some_spots" "_law_some_spots" (defArgs s__law_some_spots) (defBody s__law_some_spots) (defScope s__law_some_spots) .none kV59 dc59 pm59 an59 cd59 ct59), sl59⟩)
    (c59 : PySem.W.codeIn K cd59 "_law_some_spots" = true)
    (k59 : PySem.W.keepIn K (.ref f59) = true)
    (a60 : PySem.W.nsIn K mainGlobals "_law_closing" = some (some (.ref f60)))
    (l60 : K.lookup f60 = some ⟨oc60, od60, .func (PySem.W.fnOf "_law_closing" "_law_closing" (defArgs s__law_closing) (defBody s__law_closing) (defScope s__law_closing) .none kV60 dc60 pm60 an60 cd60 ct60), sl60⟩)
    (c60 : PySem.W.codeIn K cd60 "_law_closing" = true)
    (k60 : PySem.W.keepIn K (.ref f60) = true)
    (a61 : PySem.W.nsIn K mainGlobals "_law_drawn_rows" = some (some (.ref f61)))
    (l61 : K.lookup f61 = some ⟨oc61, od61, .func (PySem.W.fnOf "_law_drawn_rows" "_law_drawn_rows" (defArgs s__law_drawn_rows) (defBody s__law_drawn_rows) (defScope s__law_drawn_rows) .none kV61 dc61 pm61 an61 cd61 ct61), sl61⟩)
    (c61 : PySem.W.codeIn K cd61 "_law_drawn_rows" = true)
    (k61 : PySem.W.keepIn K (.ref f61) = true)
    (a62 : PySem.W.nsIn K mainGlobals "_law_lines_of" = some (some (.ref f62)))
    (l62 : K.lookup f62 = some ⟨oc62, od62, .func (PySem.W.fnOf "_law_lines_of" "_law_lines_of" (defArgs s__law_lines_of) (defBody s__law_lines_of) (defScope s__law_lines_of) .none kV62 dc62 pm62 an62 cd62 ct62), sl62⟩)
    (c62 : PySem.W.codeIn K cd62 "_law_lines_of" = true)
    (k62 : PySem.W.keepIn K (.ref f62) = true)
    (a63 : PySem.W.nsIn K mainGlobals "_law_whole" = some (some (.ref f63)))
    (l63 : K.lookup f63 = some ⟨oc63, od63, .func (PySem.W.fnOf "_law_whole" "_law_whole" (defArgs s__law_whole) (defBody s__law_whole) (defScope s__law_whole) .none kV63 dc63 pm63 an63 cd63 ct63), sl63⟩)
    (c63 : PySem.W.codeIn K cd63 "_law_whole" = true)
    (k63 : PySem.W.keepIn K (.ref f63) = true)
    (a64 : PySem.W.nsIn K mainGlobals "_law_is_thing" = some (some (.ref f64)))
    (l64 : K.lookup f64 = some ⟨oc64, od64, .func (PySem.W.fnOf "_law_is_thing" "_law_is_thing" (defArgs s__law_is_thing) (defBody s__law_is_thing) (defScope s__law_is_thing) .none kV64 dc64 pm64 an64 cd64 ct64), sl64⟩)
    (c64 : PySem.W.codeIn K cd64 "_law_is_thing" = true)
    (k64 : PySem.W.keepIn K (.ref f64) = true)
    (a65 : PySem.W.nsIn K mainGlobals "_law_fault_of" = some (some (.ref f65)))
    (l65 : K.lookup f65 = some ⟨oc65, od65, .func (PySem.W.fnOf "_law_fault_of" "_law_fault_of" (defArgs s__law_fault_of) (defBody s__law_fault_of) (defScope s__law_fault_of) .none kV65 dc65 pm65 an65 cd65 ct65), sl65⟩)
    (c65 : PySem.W.codeIn K cd65 "_law_fault_of" = true)
    (k65 : PySem.W.keepIn K (.ref f65) = true)
    (a66 : PySem.W.nsIn K mainGlobals "_law_read" = some (some (.ref f66)))
    (l66 : K.lookup f66 = some ⟨oc66, od66, .func (PySem.W.fnOf "_law_read" "_law_read" (defArgs s__law_read) (defBody s__law_read) (defScope s__law_read) .none kV66 dc66 pm66 an66 cd66 ct66), sl66⟩)
    (c66 : PySem.W.codeIn K cd66 "_law_read" = true)
    (k66 : PySem.W.keepIn K (.ref f66) = true)
    (a67 : PySem.W.nsIn K mainGlobals "_law_place_of" = some (some (.ref f67)))
    (l67 : K.lookup f67 = some ⟨oc67, od67, .func (PySem.W.fnOf "_law_place_of" "_law_place_of" (defArgs s__law_place_of) (defBody s__law_place_of) (defScope s__law_place_of) .none kV67 dc67 pm67 an67 cd67 ct67), sl67⟩)
    (c67 : PySem.W.codeIn K cd67 "_law_place_of" = true)
    (k67 : PySem.W.keepIn K (.ref f67) = true)
    (a68 : PySem.W.nsIn K mainGlobals "_law_due_of" = some (some (.ref f68)))
    (l68 : K.lookup f68 = some ⟨oc68, od68, .func (PySem.W.fnOf "_law_due_of" "_law_due_of" (defArgs s__law_due_of) (defBody s__law_due_of) (defScope s__law_due_of) .none kV68 dc68 pm68 an68 cd68 ct68), sl68⟩)
    (c68 : PySem.W.codeIn K cd68 "_law_due_of" = true)
    (k68 : PySem.W.keepIn K (.ref f68) = true)
    (a69 : PySem.W.nsIn K mainGlobals "_law_answer_of" = some (some (.ref f69)))
    (l69 : K.lookup f69 = some ⟨oc69, od69, .func (PySem.W.fnOf "_law_answer_of" "_law_answer_of" (defArgs s__law_answer_of) (defBody s__law_answer_of) (defScope s__law_answer_of) .none kV69 dc69 pm69 an69 cd69 ct69), sl69⟩)
    (c69 : PySem.W.codeIn K cd69 "_law_answer_of" = true)
    (k69 : PySem.W.keepIn K (.ref f69) = true)
    (a70 : PySem.W.nsIn K mainGlobals "_law_odd_word" = some (some (.ref f70)))
    (l70 : K.lookup f70 = some ⟨oc70, od70, .func (PySem.W.fnOf "_law_odd_word" "_law_odd_word" (defArgs s__law_odd_word) (defBody s__law_odd_word) (defScope s__law_odd_word) .none kV70 dc70 pm70 an70 cd70 ct70), sl70⟩)
    (c70 : PySem.W.codeIn K cd70 "_law_odd_word" = true)
    (k70 : PySem.W.keepIn K (.ref f70) = true)
    (a71 : PySem.W.nsIn K mainGlobals "_law_spoil_words" = some (some (.ref f71)))
    (l71 : K.lookup f71 = some ⟨oc71, od71, .func (PySem.W.fnOf "_law_spoil_words" "_law_spoil_words" (defArgs s__law_spoil_words) (defBody s__law_spoil_words) (defScope s__law_spoil_words) .none kV71 dc71 pm71 an71 cd71 ct71), sl71⟩)
    (c71 : PySem.W.codeIn K cd71 "_law_spoil_words" = true)
    (k71 : PySem.W.keepIn K (.ref f71) = true)
    (a72 : PySem.W.nsIn K mainGlobals "_law_spoil_number" = some (some (.ref f72)))
    (l72 : K.lookup f72 = some ⟨oc72, od72, .func (PySem.W.fnOf "_law_spoil_number" "_law_spoil_number" (defArgs s__law_spoil_number) (defBody s__law_spoil_number) (defScope s__law_spoil_number) .none kV72 dc72 pm72 an72 cd72 ct72), sl72⟩)
    (c72 : PySem.W.codeIn K cd72 "_law_spoil_number" = true)
    (k72 : PySem.W.keepIn K (.ref f72) = true)
    (a73 : PySem.W.nsIn K mainGlobals "_law_spoil_lines" = some (some (.ref f73)))
    (l73 : K.lookup f73 = some ⟨oc73, od73, .func (PySem.W.fnOf "_law_spoil_lines" "_law_spoil_lines" (defArgs s__law_spoil_lines) (defBody s__law_spoil_lines) (defScope s__law_spoil_lines) .none kV73 dc73 pm73 an73 cd73 ct73), sl73⟩)
    (c73 : PySem.W.codeIn K cd73 "_law_spoil_lines" = true)
    (k73 : PySem.W.keepIn K (.ref f73) = true)
    (a74 : PySem.W.nsIn K mainGlobals "_law_with_empty" = some (some (.ref f74)))
    (l74 : K.lookup f74 = some ⟨oc74, od74, .func (PySem.W.fnOf "_law_with_empty" "_law_with_empty" (defArgs s__law_with_empty) (defBody s__law_with_empty) (defScope s__law_with_empty) .none kV74 dc74 pm74 an74 cd74 ct74), sl74⟩)
    (c74 : PySem.W.codeIn K cd74 "_law_with_empty" = true)
    (k74 : PySem.W.keepIn K (.ref f74) = true)
    (a75 : PySem.W.nsIn K mainGlobals "_law_same" = some (some (.ref f75)))
    (l75 : K.lookup f75 = some ⟨oc75, od75, .func (PySem.W.fnOf "_law_same" "_law_same" (defArgs s__law_same) (defBody s__law_same) (defScope s__law_same) .none kV75 dc75 pm75 an75 cd75 ct75), sl75⟩)
    (c75 : PySem.W.codeIn K cd75 "_law_same" = true)
    (k75 : PySem.W.keepIn K (.ref f75) = true)
    (a76 : PySem.W.nsIn K mainGlobals "law" = some (some (.ref f76)))
    (l76 : K.lookup f76 = some ⟨oc76, od76, .func (PySem.W.fnOf "law" "law" (defArgs s_law) (defBody s_law) (defScope s_law) .none kV76 dc76 pm76 an76 cd76 ct76), sl76⟩)
    (c76 : PySem.W.codeIn K cd76 "law" = true)
    (k76 : PySem.W.keepIn K (.ref f76) = true) :
    ∃ fd : FuncData, (∀ (s : Shared) (v : Value), BindsTo s fd ⟨[v], []⟩ [("_law_script", v)]) ∧ ∀ base : Heap, K.In base → base.Ns mainGlobals mg → FnG P w K mg base 10 fa fd ["_law_script"] (sp_law K) := by
  have e := hfa.symm.trans (PySem.W.mg_of X G a76)
  cases e
  have T : Txt K mg ⟨C_Card, C_BadSpot, C_NoSpot, C_Clash, C_BadCard, C_EllError, C_BadLine, C_Reader, aG, aY, aW, tD, tN, tM, tI, tA⟩ :=
    { n_isinstance := PySem.W.mg_none_of X G z_isinstance,
      n_int := PySem.W.mg_none_of X G z_int,
      n_bool := PySem.W.mg_none_of X G z_bool,
      n_tuple := PySem.W.mg_none_of X G z_tuple,
      n_str := PySem.W.mg_none_of X G z_str,
      n_list := PySem.W.mg_none_of X G z_list,
      n_len := PySem.W.mg_none_of X G z_len,
      n_any := PySem.W.mg_none_of X G z_any,
      n_all := PySem.W.mg_none_of X G z_all,
      n_range := PySem.W.mg_none_of X G z_range,
      n_enumerate := PySem.W.mg_none_of X G z_enumerate,
      n_zip := PySem.W.mg_none_of X G z_zip,
      n_min := PySem.W.mg_none_of X G z_min,
      n_ValueError := PySem.W.mg_none_of X G z_ValueError,
      n_abs := PySem.W.mg_none_of X G z_abs,
      n_iter := PySem.W.mg_none_of X G z_iter,
      k_GROUND := PySem.W.mg_of X G zz_GROUND,
      t_GROUND := ground_at lGG,
      k_WHY := PySem.W.mg_of X G zz_WHY,
      t_WHY := why_at lWH,
      k_DIGITS_ratios := PySem.W.mg_of X G zz_DIGITS_ratios,
      k_LETTERS := PySem.W.mg_of X G zz_LETTERS,
      k_LONGEST_names := PySem.W.mg_of X G zz_LONGEST_names,
      k_LONGEST_lines := PySem.W.mg_of X G zz_LONGEST_lines,
      k_DIGITS_lines := PySem.W.mg_of X G zz_DIGITS_lines,
      k_WORDS := PySem.W.mg_of X G zz_WORDS,
      t_WORDS := WORDS_at l_WORDS,
      g_EllError := PySem.W.mg_of X G a_EllError,
      g_BadSpot := PySem.W.mg_of X G a_BadSpot,
      no_BadSpot_place := no_BadSpot_place,
      i_BadSpot := ⟨_, _, a1, t1, (fun_mk (st := s_BadSpotD_initD) l1 c1 k1), ((fun_mk (st := s_BadSpotD_initD) l1 c1 k1).binds (ps := P_BadSpotD_initD) fun _ _ _ _ _ _ us hl => match us, hl with | [_, _], _ => rfl)⟩,
      ox_BadSpot := ⟨⟨nm_BadSpot, q_BadSpot, N_BadSpot, bs_BadSpot, _, sn_BadSpot, sub_BadSpot, ab_BadSpot, col_BadSpot, dd_BadSpot, m0_BadSpot, m1_BadSpot, m2_BadSpot, m3_BadSpot, m5_BadSpot, x_BadSpot, rfl⟩, sa_BadSpot, eC_BadSpot, tC_BadSpot, kC_BadSpot⟩,
      e_BadSpot := ⟨ic_BadSpot, ga_BadSpot, gt_BadSpot, eC_BadSpot, ca_BadSpot, gg0, tk0, mo_BadSpot⟩,
      xf_BadSpot := ⟨ga_BadSpot, gt_BadSpot, eC_BadSpot, hC_BadSpot⟩,
      g_NoSpot := PySem.W.mg_of X G a_NoSpot,
      no_NoSpot_spot := no_NoSpot_spot,
      i_NoSpot := ⟨_, _, a2, t2, (fun_mk (st := s_NoSpotD_initD) l2 c2 k2), ((fun_mk (st := s_NoSpotD_initD) l2 c2 k2).binds (ps := P_NoSpotD_initD) fun _ _ _ _ _ _ us hl => match us, hl with | [_, _], _ => rfl)⟩,
      ox_NoSpot := ⟨⟨nm_NoSpot, q_NoSpot, N_NoSpot, bs_NoSpot, _, sn_NoSpot, sub_NoSpot, ab_NoSpot, col_NoSpot, dd_NoSpot, m0_NoSpot, m1_NoSpot, m2_NoSpot, m3_NoSpot, m5_NoSpot, x_NoSpot, rfl⟩, sa_NoSpot, eC_NoSpot, tC_NoSpot, kC_NoSpot⟩,
      e_NoSpot := ⟨ic_NoSpot, ga_NoSpot, gt_NoSpot, eC_NoSpot, ca_NoSpot, gg0, tk0, mo_NoSpot⟩,
      xf_NoSpot := ⟨ga_NoSpot, gt_NoSpot, eC_NoSpot, hC_NoSpot⟩,
      g_Clash := PySem.W.mg_of X G a_Clash,
      no_Clash_ring := no_Clash_ring,
      i_Clash := ⟨_, _, a3, t3, (fun_mk (st := s_ClashD_initD) l3 c3 k3), ((fun_mk (st := s_ClashD_initD) l3 c3 k3).binds (ps := P_ClashD_initD) fun _ _ _ _ _ _ us hl => match us, hl with | [_, _], _ => rfl)⟩,
      ox_Clash := ⟨⟨nm_Clash, q_Clash, N_Clash, bs_Clash, _, sn_Clash, sub_Clash, ab_Clash, col_Clash, dd_Clash, m0_Clash, m1_Clash, m2_Clash, m3_Clash, m5_Clash, x_Clash, rfl⟩, sa_Clash, eC_Clash, tC_Clash, kC_Clash⟩,
      e_Clash := ⟨ic_Clash, ga_Clash, gt_Clash, eC_Clash, ca_Clash, gg0, tk0, mo_Clash⟩,
      xf_Clash := ⟨ga_Clash, gt_Clash, eC_Clash, hC_Clash⟩,
      g_BadCard := PySem.W.mg_of X G a_BadCard,
      no_BadCard_place := no_BadCard_place,
      i_BadCard := ⟨_, _, a4, t4, (fun_mk (st := s_BadCardD_initD) l4 c4 k4), ((fun_mk (st := s_BadCardD_initD) l4 c4 k4).binds (ps := P_BadCardD_initD) fun _ _ _ _ _ _ us hl => match us, hl with | [_, _], _ => rfl)⟩,
      ox_BadCard := ⟨⟨nm_BadCard, q_BadCard, N_BadCard, bs_BadCard, _, sn_BadCard, sub_BadCard, ab_BadCard, col_BadCard, dd_BadCard, m0_BadCard, m1_BadCard, m2_BadCard, m3_BadCard, m5_BadCard, x_BadCard, rfl⟩, sa_BadCard, eC_BadCard, tC_BadCard, kC_BadCard⟩,
      e_BadCard := ⟨ic_BadCard, ga_BadCard, gt_BadCard, eC_BadCard, ca_BadCard, gg0, tk0, mo_BadCard⟩,
      xf_BadCard := ⟨ga_BadCard, gt_BadCard, eC_BadCard, hC_BadCard⟩,
      g_BadLine := PySem.W.mg_of X G a_BadLine,
      no_BadLine_line := no_BadLine_line,
      no_BadLine_word := no_BadLine_word,
      i_BadLine := ⟨_, _, a5, t5, (fun_mk (st := s_BadLineD_initD) l5 c5 k5), ((fun_mk (st := s_BadLineD_initD) l5 c5 k5).binds (ps := P_BadLineD_initD) fun _ _ _ _ _ _ us hl => match us, hl with | [_, _, _], _ => rfl)⟩,
      ox_BadLine := ⟨⟨nm_BadLine, q_BadLine, N_BadLine, bs_BadLine, _, sn_BadLine, sub_BadLine, ab_BadLine, col_BadLine, dd_BadLine, m0_BadLine, m1_BadLine, m2_BadLine, m3_BadLine, m5_BadLine, x_BadLine, rfl⟩, sa_BadLine, eC_BadLine, tC_BadLine, kC_BadLine⟩,
      e_BadLine := ⟨ic_BadLine, ga_BadLine, gt_BadLine, eC_BadLine, ca_BadLine, gg0, tk0, mo_BadLine⟩,
      xf_BadLine := ⟨ga_BadLine, gt_BadLine, eC_BadLine, hC_BadLine⟩,
      kv_BadCard := kit_ty2 vC_BadCard,
      ke_BadCard := kit_yes ic_EllError tC_EllError lC_BadCard,
      kv_BadLine := kit_ty2 vC_BadLine,
      ke_BadLine := kit_yes ic_EllError tC_EllError lC_BadLine,
      kc_BadLine := kit_no0 ne_BadLine_BadCard ic_BadCard tC_BadCard s_BadLine_BadCard,
      en_BadCard := exm_of eC_BadLine ic_BadLine tC_BadLine s_BadCard_BadLine,
      em_BadLine := exm_of eC_BadLine ic_BadLine tC_BadLine s_BadLine_BadLine,
      em_BadSpot := exm_of eC_BadSpot ic_BadSpot tC_BadSpot s_BadSpot_BadSpot,
      em_BadCard := exm_of eC_BadCard ic_BadCard tC_BadCard s_BadCard_BadCard,
      g_Reader := PySem.W.mg_of X G a_Reader,
      cl := ⟨rpg, rhd, rpo, rsa⟩,
      rR := rR,
      rL := rL,
      rW := rW,
      i_Reader := ⟨_, _, ⟨rmk, a6, i6, rkc⟩, (fun_mk (st := s_ReaderD_initD) l6 c6 k6), ((fun_mk (st := s_ReaderD_initD) l6 c6 k6).binds (ps := P_ReaderD_initD) fun _ _ _ _ _ _ us hl => match us, hl with | [_, _], _ => rfl)⟩,
      m_head := ⟨_, _, ⟨a7, i7, k7⟩, (fun_mk (st := s_Reader_head) l7 c7 k7), ((fun_mk (st := s_Reader_head) l7 c7 k7).binds (ps := P_Reader_head) fun _ _ _ _ _ _ us hl => match us, hl with | [_], _ => rfl)⟩,
      m_peek := ⟨_, _, ⟨a8, i8, k8⟩, (fun_mk (st := s_Reader_peek) l8 c8 k8), ((fun_mk (st := s_Reader_peek) l8 c8 k8).binds (ps := P_Reader_peek) fun _ _ _ _ _ _ us hl => match us, hl with | [_], _ => rfl)⟩,
      m_take := ⟨_, _, ⟨a9, i9, k9⟩, (fun_mk (st := s_Reader_take) l9 c9 k9), ((fun_mk (st := s_Reader_take) l9 c9 k9).binds (ps := P_Reader_take) fun _ _ _ _ _ _ us hl => match us, hl with | [_], _ => rfl)⟩,
      m_refuse := ⟨_, _, ⟨a10, i10, k10⟩, (fun_mk (st := s_Reader_refuse) l10 c10 k10), ((fun_mk (st := s_Reader_refuse) l10 c10 k10).binds (ps := P_Reader_refuse) fun _ _ _ _ _ _ us hl => match us, hl with | [_], _ => rfl)⟩,
      m_take_integer := ⟨_, _, ⟨a11, i11, k11⟩, (fun_mk (st := s_Reader_take_integer) l11 c11 k11), ((fun_mk (st := s_Reader_take_integer) l11 c11 k11).binds (ps := P_Reader_take_integer) fun _ _ _ _ _ _ us hl => match us, hl with | [_], _ => rfl)⟩,
      m_take_number := ⟨_, _, ⟨a12, i12, k12⟩, (fun_mk (st := s_Reader_take_number) l12 c12 k12), ((fun_mk (st := s_Reader_take_number) l12 c12 k12).binds (ps := P_Reader_take_number) fun _ _ _ _ _ _ us hl => match us, hl with | [_], _ => rfl)⟩,
      m_end_line := ⟨_, _, ⟨a13, i13, k13⟩, (fun_mk (st := s_Reader_end_line) l13 c13 k13), ((fun_mk (st := s_Reader_end_line) l13 c13 k13).binds (ps := P_Reader_end_line) fun _ _ _ _ _ _ us hl => match us, hl with | [_], _ => rfl)⟩,
      m_end_lines := ⟨_, _, ⟨a14, i14, k14⟩, (fun_mk (st := s_Reader_end_lines) l14 c14 k14), ((fun_mk (st := s_Reader_end_lines) l14 c14 k14).binds (ps := P_Reader_end_lines) fun _ _ _ _ _ _ us hl => match us, hl with | [_], _ => rfl)⟩,
      m_take_word := ⟨_, _, ⟨a15, i15, k15⟩, (fun_mk (st := s_Reader_take_word) l15 c15 k15), fun us rest hl => match us, hl with | [_], _ => star_take_word⟩,
      m_take_name := ⟨_, _, ⟨a16, i16, k16⟩, (fun_mk (st := s_Reader_take_name) l16 c16 k16), fun us rest hl => match us, hl with | [_], _ => star_take_name⟩,
      g_Card := PySem.W.mg_of X G a_Card,
      ki := ⟨⟨pg, hd, po, sa⟩, ca, gg0, tk0, mo⟩,
      nS := nS,
      nP := nP,
      nR := nR,
      sf := sf,
      nf := all6 (nf_of sb_NoneType) (nf_of sb_bool) (nf_of sb_int) (nf_of sb_str) (nf_of sb_list) (nf_of sb_tuple),
      no := all6 (kit_no1 ic tC sb_NoneType) (kit_no1 ic tC sb_bool) (kit_no1 ic tC sb_int) (kit_no1 ic tC sb_str) (kit_no1 ic tC sb_list) (kit_no1 ic tC sb_tuple),
      i_Card := ⟨_, _, ⟨mk, a17, i17, kc⟩, (fun_mk (st := s_CardD_initD) l17 c17 k17), ((fun_mk (st := s_CardD_initD) l17 c17 k17).binds (ps := P_CardD_initD) fun _ _ _ _ _ _ us hl => match us, hl with | [_, _, _], _ => rfl)⟩,
      o_getitem := ⟨_, _, ⟨a18, i18⟩, fn_at l18, (fun_mk (st := s_CardD_getitemD) l18 c18 k18), ((fun_mk (st := s_CardD_getitemD) l18 c18 k18).binds (ps := P_CardD_getitemD) fun _ _ _ _ _ _ us hl => match us, hl with | [_, _], _ => rfl)⟩,
      o_len := ⟨_, _, ⟨a19, i19⟩, fn_at l19, (fun_mk (st := s_CardD_lenD) l19 c19 k19), ((fun_mk (st := s_CardD_lenD) l19 c19 k19).binds (ps := P_CardD_lenD) fun _ _ _ _ _ _ us hl => match us, hl with | [_], _ => rfl)⟩,
      o_contains := ⟨_, _, ⟨a20, i20⟩, fn_at l20, (fun_mk (st := s_CardD_containsD) l20 c20 k20), ((fun_mk (st := s_CardD_containsD) l20 c20 k20).binds (ps := P_CardD_containsD) fun _ _ _ _ _ _ us hl => match us, hl with | [_, _], _ => rfl)⟩,
      o_eq := ⟨_, _, ⟨a21, i21⟩, fn_at l21, (fun_mk (st := s_CardD_eqD) l21 c21 k21), ((fun_mk (st := s_CardD_eqD) l21 c21 k21).binds (ps := P_CardD_eqD) fun _ _ _ _ _ _ us hl => match us, hl with | [_, _], _ => rfl)⟩,
      m__place := ⟨_, _, ⟨a22, i22, k22⟩, (fun_mk (st := s_Card__place) l22 c22 k22), ((fun_mk (st := s_Card__place) l22 c22 k22).binds (ps := P_Card__place) fun _ _ _ _ _ _ us hl => match us, hl with | [_, _], _ => rfl)⟩,
      d__wall := ⟨_, _, (fun_mk (st := s__wall) l23 c23 k23), PySem.W.mg_of X G a23, ((fun_mk (st := s__wall) l23 c23 k23).binds (ps := P__wall) fun _ _ _ _ _ _ us hl => match us, hl with | [_], _ => rfl)⟩,
      d_is_integer := ⟨_, _, (fun_mk (st := s_is_integer) l24 c24 k24), PySem.W.mg_of X G a24, ((fun_mk (st := s_is_integer) l24 c24 k24).binds (ps := P_is_integer) fun _ _ _ _ _ _ us hl => match us, hl with | [_], _ => rfl)⟩,
      d_is_row := ⟨_, _, (fun_mk (st := s_is_row) l25 c25 k25), PySem.W.mg_of X G a25, ((fun_mk (st := s_is_row) l25 c25 k25).binds (ps := P_is_row) fun _ _ _ _ _ _ us hl => match us, hl with | [_], _ => rfl)⟩,
      d_is_tuple_of := ⟨_, _, (fun_mk (st := s_is_tuple_of) l26 c26 k26), PySem.W.mg_of X G a26, ((fun_mk (st := s_is_tuple_of) l26 c26 k26).binds (ps := P_is_tuple_of) fun _ _ _ _ _ _ us hl => match us, hl with | [_, _], _ => rfl)⟩,
      d_ways_from := ⟨_, _, (fun_mk (st := s_ways_from) l27 c27 k27), PySem.W.mg_of X G a27, ((fun_mk (st := s_ways_from) l27 c27 k27).binds (ps := P_ways_from) fun _ _ _ _ _ _ us hl => match us, hl with | [_, _], _ => rfl)⟩,
      d__ring_of := ⟨_, _, (fun_mk (st := s__ring_of) l28 c28 k28), PySem.W.mg_of X G a28, ((fun_mk (st := s__ring_of) l28 c28 k28).binds (ps := P__ring_of) fun _ _ _ _ _ _ us hl => match us, hl with | [_, _], _ => rfl)⟩,
      d__followed_back := ⟨_, _, (fun_mk (st := s__followed_back) l29 c29 k29), PySem.W.mg_of X G a29, ((fun_mk (st := s__followed_back) l29 c29 k29).binds (ps := P__followed_back) fun _ _ _ _ _ _ us hl => match us, hl with | [_, _, _, _], _ => rfl)⟩,
      d_is_whole := ⟨_, _, (fun_mk (st := s_is_whole) l30 c30 k30), PySem.W.mg_of X G a30, ((fun_mk (st := s_is_whole) l30 c30 k30).binds (ps := P_is_whole) fun _ _ _ _ _ _ us hl => match us, hl with | [_, _], _ => rfl)⟩,
      d__is_digits := ⟨_, _, (fun_mk (st := s__is_digits) l31 c31 k31), PySem.W.mg_of X G a31, ((fun_mk (st := s__is_digits) l31 c31 k31).binds (ps := P__is_digits) fun _ _ _ _ _ _ us hl => match us, hl with | [_, _], _ => rfl)⟩,
      d_is_spot := ⟨_, _, (fun_mk (st := s_is_spot) l32 c32 k32), PySem.W.mg_of X G a32, ((fun_mk (st := s_is_spot) l32 c32 k32).binds (ps := P_is_spot) fun _ _ _ _ _ _ us hl => match us, hl with | [_], _ => rfl)⟩,
      d_arrows_of := ⟨_, _, (fun_mk (st := s_arrows_of) l33 c33 k33), PySem.W.mg_of X G a33, ((fun_mk (st := s_arrows_of) l33 c33 k33).binds (ps := P_arrows_of) fun _ _ _ _ _ _ us hl => match us, hl with | [_, _], _ => rfl)⟩,
      d_places_of := ⟨_, _, (fun_mk (st := s_places_of) l34 c34 k34), PySem.W.mg_of X G a34, ((fun_mk (st := s_places_of) l34 c34 k34).binds (ps := P_places_of) fun _ _ _ _ _ _ us hl => match us, hl with | [_], _ => rfl)⟩,
      d_is_name := ⟨_, _, (fun_mk (st := s_is_name) l35 c35 k35), PySem.W.mg_of X G a35, ((fun_mk (st := s_is_name) l35 c35 k35).binds (ps := P_is_name) fun _ _ _ _ _ _ us hl => match us, hl with | [_], _ => rfl)⟩,
      d_is_closed := ⟨_, _, (fun_mk (st := s_is_closed) l36 c36 k36), PySem.W.mg_of X G a36, ((fun_mk (st := s_is_closed) l36 c36 k36).binds (ps := P_is_closed) fun _ _ _ _ _ _ us hl => match us, hl with | [_], _ => rfl)⟩,
      d_joined_tables := ⟨_, _, (fun_mk (st := s_joined_tables) l37 c37 k37), PySem.W.mg_of X G a37, ((fun_mk (st := s_joined_tables) l37 c37 k37).binds (ps := P_joined_tables) fun _ _ _ _ _ _ us hl => match us, hl with | [_, _, _], _ => rfl)⟩,
      d__by_way := ⟨_, _, (fun_mk (st := s__by_way) l38 c38 k38), PySem.W.mg_of X G a38, ((fun_mk (st := s__by_way) l38 c38 k38).binds (ps := P__by_way) fun _ _ _ _ _ _ us hl => match us, hl with | [_, _, _], _ => rfl)⟩,
      d__side_by_side := ⟨_, _, (fun_mk (st := s__side_by_side) l39 c39 k39), PySem.W.mg_of X G a39, ((fun_mk (st := s__side_by_side) l39 c39 k39).binds (ps := P__side_by_side) fun _ _ _ _ _ _ us hl => match us, hl with | [_, _, _], _ => rfl)⟩,
      d__with_least := ⟨_, _, (fun_mk (st := s__with_least) l40 c40 k40), PySem.W.mg_of X G a40, ((fun_mk (st := s__with_least) l40 c40 k40).binds (ps := P__with_least) fun _ _ _ _ _ _ us hl => match us, hl with | [_, _, _], _ => rfl)⟩,
      d__joints := ⟨_, _, (fun_mk (st := s__joints) l41 c41 k41), PySem.W.mg_of X G a41, ((fun_mk (st := s__joints) l41 c41 k41).binds (ps := P__joints) fun _ _ _ _ _ _ us hl => match us, hl with | [_, _, _], _ => rfl)⟩,
      d_card_links := ⟨_, _, (fun_mk (st := s_card_links) l42 c42 k42), PySem.W.mg_of X G a42, ((fun_mk (st := s_card_links) l42 c42 k42).binds (ps := P_card_links) fun _ _ _ _ _ _ us hl => match us, hl with | [_, _], _ => rfl)⟩,
      d__trusted := ⟨_, _, (fun_mk (st := s__trusted) l43 c43 k43), PySem.W.mg_of X G a43, ((fun_mk (st := s__trusted) l43 c43 k43).binds (ps := P__trusted) fun _ _ _ _ _ _ us hl => match us, hl with | [_, _], _ => rfl)⟩,
      d__judge_rows := ⟨_, _, (fun_mk (st := s__judge_rows) l44 c44 k44), PySem.W.mg_of X G a44, ((fun_mk (st := s__judge_rows) l44 c44 k44).binds (ps := P__judge_rows) fun _ _ _ _ _ _ us hl => match us, hl with | [_, _], _ => rfl)⟩,
      d__clash_ring := ⟨_, _, (fun_mk (st := s__clash_ring) l45 c45 k45), PySem.W.mg_of X G a45, ((fun_mk (st := s__clash_ring) l45 c45 k45).binds (ps := P__clash_ring) fun _ _ _ _ _ _ us hl => match us, hl with | [_, _], _ => rfl)⟩,
      d_write_card := ⟨_, _, (fun_mk (st := s_write_card) l46 c46 k46), PySem.W.mg_of X G a46, ((fun_mk (st := s_write_card) l46 c46 k46).binds (ps := P_write_card) fun _ _ _ _ _ _ us hl => match us, hl with | [_], _ => rfl)⟩,
      d_read_card := ⟨_, _, (fun_mk (st := s_read_card) l47 c47 k47), PySem.W.mg_of X G a47, ((fun_mk (st := s_read_card) l47 c47 k47).binds (ps := P_read_card) fun _ _ _ _ _ _ us hl => match us, hl with | [_], _ => rfl)⟩,
      d__take_spot := ⟨_, _, (fun_mk (st := s__take_spot) l48 c48 k48), PySem.W.mg_of X G a48, ((fun_mk (st := s__take_spot) l48 c48 k48).binds (ps := P__take_spot) fun _ _ _ _ _ _ us hl => match us, hl with | [_], _ => rfl)⟩,
      d__take_row := ⟨_, _, (fun_mk (st := s__take_row) l49 c49 k49), PySem.W.mg_of X G a49, ((fun_mk (st := s__take_row) l49 c49 k49).binds (ps := P__take_row) fun _ _ _ _ _ _ us hl => match us, hl with | [_, _], _ => rfl)⟩,
      d__law_bag_of := ⟨_, _, (fun_mk (st := s__law_bag_of) l50 c50 k50), PySem.W.mg_of X G a50, ((fun_mk (st := s__law_bag_of) l50 c50 k50).binds (ps := P__law_bag_of) fun _ _ _ _ _ _ us hl => match us, hl with | [_], _ => rfl)⟩,
      d__law_pick := ⟨_, _, (fun_mk (st := s__law_pick) l51 c51 k51), PySem.W.mg_of X G a51, ((fun_mk (st := s__law_pick) l51 c51 k51).binds (ps := P__law_pick) fun _ _ _ _ _ _ us hl => match us, hl with | [_, _], _ => rfl)⟩,
      d__law_choice := ⟨_, _, (fun_mk (st := s__law_choice) l52 c52 k52), PySem.W.mg_of X G a52, ((fun_mk (st := s__law_choice) l52 c52 k52).binds (ps := P__law_choice) fun _ _ _ _ _ _ us hl => match us, hl with | [_, _], _ => rfl)⟩,
      d__law_one_in := ⟨_, _, (fun_mk (st := s__law_one_in) l53 c53 k53), PySem.W.mg_of X G a53, ((fun_mk (st := s__law_one_in) l53 c53 k53).binds (ps := P__law_one_in) fun _ _ _ _ _ _ us hl => match us, hl with | [_, _], _ => rfl)⟩,
      d__law_integer := ⟨_, _, (fun_mk (st := s__law_integer) l54 c54 k54), PySem.W.mg_of X G a54, ((fun_mk (st := s__law_integer) l54 c54 k54).binds (ps := P__law_integer) fun _ _ _ _ _ _ us hl => match us, hl with | [_], _ => rfl)⟩,
      d__law_letters_of := ⟨_, _, (fun_mk (st := s__law_letters_of) l55 c55 k55), PySem.W.mg_of X G a55, ((fun_mk (st := s__law_letters_of) l55 c55 k55).binds (ps := P__law_letters_of) fun _ _ _ _ _ _ us hl => match us, hl with | [_, _], _ => rfl)⟩,
      d__law_words_of := ⟨_, _, (fun_mk (st := s__law_words_of) l56 c56 k56), PySem.W.mg_of X G a56, ((fun_mk (st := s__law_words_of) l56 c56 k56).binds (ps := P__law_words_of) fun _ _ _ _ _ _ us hl => match us, hl with | [], _ => rfl)⟩,
      d__law_names_of := ⟨_, _, (fun_mk (st := s__law_names_of) l57 c57 k57), PySem.W.mg_of X G a57, ((fun_mk (st := s__law_names_of) l57 c57 k57).binds (ps := P__law_names_of) fun _ _ _ _ _ _ us hl => match us, hl with | [_, _], _ => rfl)⟩,
      d__law_ground := ⟨_, _, (fun_mk (st := s__law_ground) l58 c58 k58), PySem.W.mg_of X G a58, ((fun_mk (st := s__law_ground) l58 c58 k58).binds (ps := P__law_ground) fun _ _ _ _ _ _ us hl => match us, hl with | [], _ => rfl)⟩,
      d__law_some_spots := ⟨_, _, (fun_mk (st := s__law_some_spots) l59 c59 k59), PySem.W.mg_of X G a59, ((fun_mk (st := s__law_some_spots) l59 c59 k59).binds (ps := P__law_some_spots) fun _ _ _ _ _ _ us hl => match us, hl with | [_, _], _ => rfl)⟩,
      d__law_closing := ⟨_, _, (fun_mk (st := s__law_closing) l60 c60 k60), PySem.W.mg_of X G a60, ((fun_mk (st := s__law_closing) l60 c60 k60).binds (ps := P__law_closing) fun _ _ _ _ _ _ us hl => match us, hl with | [_], _ => rfl)⟩,
      d__law_drawn_rows := ⟨_, _, (fun_mk (st := s__law_drawn_rows) l61 c61 k61), PySem.W.mg_of X G a61, ((fun_mk (st := s__law_drawn_rows) l61 c61 k61).binds (ps := P__law_drawn_rows) fun _ _ _ _ _ _ us hl => match us, hl with | [_, _], _ => rfl)⟩,
      d__law_lines_of := ⟨_, _, (fun_mk (st := s__law_lines_of) l62 c62 k62), PySem.W.mg_of X G a62, ((fun_mk (st := s__law_lines_of) l62 c62 k62).binds (ps := P__law_lines_of) fun _ _ _ _ _ _ us hl => match us, hl with | [_, _], _ => rfl)⟩,
      d__law_whole := ⟨_, _, (fun_mk (st := s__law_whole) l63 c63 k63), PySem.W.mg_of X G a63, ((fun_mk (st := s__law_whole) l63 c63 k63).binds (ps := P__law_whole) fun _ _ _ _ _ _ us hl => match us, hl with | [_], _ => rfl)⟩,
      d__law_is_thing := ⟨_, _, (fun_mk (st := s__law_is_thing) l64 c64 k64), PySem.W.mg_of X G a64, ((fun_mk (st := s__law_is_thing) l64 c64 k64).binds (ps := P__law_is_thing) fun _ _ _ _ _ _ us hl => match us, hl with | [_], _ => rfl)⟩,
      d__law_fault_of := ⟨_, _, (fun_mk (st := s__law_fault_of) l65 c65 k65), PySem.W.mg_of X G a65, ((fun_mk (st := s__law_fault_of) l65 c65 k65).binds (ps := P__law_fault_of) fun _ _ _ _ _ _ us hl => match us, hl with | [_, _, _], _ => rfl)⟩,
      d__law_read := ⟨_, _, (fun_mk (st := s__law_read) l66 c66 k66), PySem.W.mg_of X G a66, ((fun_mk (st := s__law_read) l66 c66 k66).binds (ps := P__law_read) fun _ _ _ _ _ _ us hl => match us, hl with | [_], _ => rfl)⟩,
      d__law_place_of := ⟨_, _, (fun_mk (st := s__law_place_of) l67 c67 k67), PySem.W.mg_of X G a67, ((fun_mk (st := s__law_place_of) l67 c67 k67).binds (ps := P__law_place_of) fun _ _ _ _ _ _ us hl => match us, hl with | [_, _], _ => rfl)⟩,
      d__law_due_of := ⟨_, _, (fun_mk (st := s__law_due_of) l68 c68 k68), PySem.W.mg_of X G a68, ((fun_mk (st := s__law_due_of) l68 c68 k68).binds (ps := P__law_due_of) fun _ _ _ _ _ _ us hl => match us, hl with | [_], _ => rfl)⟩,
      d__law_answer_of := ⟨_, _, (fun_mk (st := s__law_answer_of) l69 c69 k69), PySem.W.mg_of X G a69, ((fun_mk (st := s__law_answer_of) l69 c69 k69).binds (ps := P__law_answer_of) fun _ _ _ _ _ _ us hl => match us, hl with | [_], _ => rfl)⟩,
      d__law_odd_word := ⟨_, _, (fun_mk (st := s__law_odd_word) l70 c70 k70), PySem.W.mg_of X G a70, ((fun_mk (st := s__law_odd_word) l70 c70 k70).binds (ps := P__law_odd_word) fun _ _ _ _ _ _ us hl => match us, hl with | [_], _ => rfl)⟩,
      d__law_spoil_words := ⟨_, _, (fun_mk (st := s__law_spoil_words) l71 c71 k71), PySem.W.mg_of X G a71, ((fun_mk (st := s__law_spoil_words) l71 c71 k71).binds (ps := P__law_spoil_words) fun _ _ _ _ _ _ us hl => match us, hl with | [_, _], _ => rfl)⟩,
      d__law_spoil_number := ⟨_, _, (fun_mk (st := s__law_spoil_number) l72 c72 k72), PySem.W.mg_of X G a72, ((fun_mk (st := s__law_spoil_number) l72 c72 k72).binds (ps := P__law_spoil_number) fun _ _ _ _ _ _ us hl => match us, hl with | [_, _], _ => rfl)⟩,
      d__law_spoil_lines := ⟨_, _, (fun_mk (st := s__law_spoil_lines) l73 c73 k73), PySem.W.mg_of X G a73, ((fun_mk (st := s__law_spoil_lines) l73 c73 k73).binds (ps := P__law_spoil_lines) fun _ _ _ _ _ _ us hl => match us, hl with | [_, _], _ => rfl)⟩,
      d__law_with_empty := ⟨_, _, (fun_mk (st := s__law_with_empty) l74 c74 k74), PySem.W.mg_of X G a74, ((fun_mk (st := s__law_with_empty) l74 c74 k74).binds (ps := P__law_with_empty) fun _ _ _ _ _ _ us hl => match us, hl with | [_, _], _ => rfl)⟩,
      d__law_same := ⟨_, _, (fun_mk (st := s__law_same) l75 c75 k75), PySem.W.mg_of X G a75, ((fun_mk (st := s__law_same) l75 c75 k75).binds (ps := P__law_same) fun _ _ _ _ _ _ us hl => match us, hl with | [_, _], _ => rfl)⟩,
      d_law := ⟨_, _, (fun_mk (st := s_law) l76 c76 k76), PySem.W.mg_of X G a76, ((fun_mk (st := s_law) l76 c76 k76).binds (ps := P_law) fun _ _ _ _ _ _ us hl => match us, hl with | [_], _ => rfl)⟩ }
  have FL := (fun_mk (st := s_law) l76 c76 k76)
  exact ⟨PySem.W.fnOf "law" "law" (defArgs s_law) (defBody s_law) (defScope s_law) .none kV76 dc76 pm76 an76 cd76 ct76, fun s v => .of_eq rfl, fun base _ _ => fun_gd FL sc_law (fun vs H Q E h => by obtain ⟨_, p, ns, rfl, _⟩ := h; rfl) (b_law T)⟩
theorem walk {l : PySem.W.OpenLaw} {q : Program} {loose : List Str} {XP : (Str → Option Value) → Heap → Prop} {YP : World → Heap → Prop} {d : DefRec} {K : Params → PySem.W.Frag} (hn : l.most = some 63) (hdf : d.params.defaults = [])
    (hY : ∀ (w : World) (h : Heap), YP w h → (K w.params).In h)
    (F : ∀ (w : World) (mg : Str → Option Value) (fa : Addr) (h : Heap), (K w.params).In h → h.Ns mainGlobals mg → mg d.name = some (.ref fa) →
      ∃ fd : FuncData, (∀ (s : Shared) (u : Value), BindsTo s fd ⟨[u], []⟩ [("_law_script", u)]) ∧ ∀ base : Heap, (K w.params).In base → base.Ns mainGlobals mg → FnG l.prog w (K w.params) mg base 10 fa fd ["_law_script"] (sp_law (K w.params))) :
    PySem.W.WalkO q loose XP YP l.row.toRowW d [] (fun f vs => PySem.call f vs) :=
  walk_G (n := 63) (k := 10) (x := "_law_script") (sp := fun w => sp_law (K w.params)) hn (by decide) hdf ⟨rfl, by decide, by decide⟩ hY F (fun _ _ a ns hl _ hS => ⟨_, a, ns, rfl, hS, by omega, Same.refl _, fun _ => rfl⟩)
end K52

open PySem PySem.W PyProof.Rows
set_option maxRecDepth 100000 in
set_option maxHeartbeats 0 in
theorem PySem.Challenge.cw_ellwarden_k52_card_text_holds : PySem.Challenge.rw_ellwarden_k52_card_text.Holds := by
  w_on; o_law; k_head; (case hw => w_witness2)
  k_fill
  refine K52.walk (l := PySem.Challenge.rw_ellwarden_k52_card_text) rfl rfl (fun w h Y => PySem.W.kIn_of Y) ?F
  case F =>
    intro w mg fa h KX G hmg
    refine' K52.all_mk KX G hmg ?z_isinstance ?z_int ?z_bool ?z_tuple ?z_str ?z_list ?z_len ?z_any ?z_all ?z_range ?z_enumerate ?z_zip ?z_min ?z_ValueError ?z_abs ?z_iter ?zz_GROUND ?lGG ?zz_WHY ?lWH ?zz_DIGITS_ratios ?zz_LETTERS ?zz_LONGEST_names ?zz_LONGEST_lines ?zz_DIGITS_lines ?zz_WORDS ?l_WORDS ?gg0 ?tk0 ?a_EllError ?ic_EllError ?tC_EllError ?a_BadSpot ?x_BadSpot ?sa_BadSpot ?ga_BadSpot ?gt_BadSpot ?ca_BadSpot ?kC_BadSpot ?eC_BadSpot ?tC_BadSpot ?hC_BadSpot ?ic_BadSpot ?mo_BadSpot ?no_BadSpot_place ?a1 ?t1 ?l1 ?c1 ?k1 ?a_NoSpot ?x_NoSpot ?sa_NoSpot ?ga_NoSpot ?gt_NoSpot ?ca_NoSpot ?kC_NoSpot ?eC_NoSpot ?tC_NoSpot ?hC_NoSpot ?ic_NoSpot ?mo_NoSpot ?no_NoSpot_spot ?a2 ?t2 ?l2 ?c2 ?k2 ?a_Clash ?x_Clash ?sa_Clash ?ga_Clash ?gt_Clash ?ca_Clash ?kC_Clash ?eC_Clash ?tC_Clash ?hC_Clash ?ic_Clash ?mo_Clash ?no_Clash_ring ?a3 ?t3 ?l3 ?c3 ?k3 ?a_BadCard ?x_BadCard ?sa_BadCard ?ga_BadCard ?gt_BadCard ?ca_BadCard ?kC_BadCard ?eC_BadCard ?tC_BadCard ?hC_BadCard ?ic_BadCard ?mo_BadCard ?no_BadCard_place ?a4 ?t4 ?l4 ?c4 ?k4 ?a_BadLine ?x_BadLine ?sa_BadLine ?ga_BadLine ?gt_BadLine ?ca_BadLine ?kC_BadLine ?eC_BadLine ?tC_BadLine ?hC_BadLine ?ic_BadLine ?mo_BadLine ?no_BadLine_line ?no_BadLine_word ?a5 ?t5 ?l5 ?c5 ?k5 ?vC_BadCard ?lC_BadCard ?vC_BadLine ?lC_BadLine ?s_BadLine_BadCard ?ne_BadLine_BadCard ?s_BadCard_BadLine ?s_BadLine_BadLine ?s_BadSpot_BadSpot ?s_BadCard_BadCard ?a_Reader ?rpg ?rhd ?rpo ?rsa ?rR ?rL ?rW ?rmk ?rkc ?a6 ?i6 ?l6 ?c6 ?k6 ?a7 ?i7 ?l7 ?c7 ?k7 ?a8 ?i8 ?l8 ?c8 ?k8 ?a9 ?i9 ?l9 ?c9 ?k9 ?a10 ?i10 ?l10 ?c10 ?k10 ?a11 ?i11 ?l11 ?c11 ?k11 ?a12 ?i12 ?l12 ?c12 ?k12 ?a13 ?i13 ?l13 ?c13 ?k13 ?a14 ?i14 ?l14 ?c14 ?k14 ?a15 ?i15 ?l15 ?c15 ?k15 ?a16 ?i16 ?l16 ?c16 ?k16 ?a_Card ?pg ?hd ?po ?sa ?ca ?mo ?nS ?nP ?nR ?ic ?tC ?mk ?kc ?sf ?sb_NoneType ?sb_bool ?sb_int ?sb_str ?sb_list ?sb_tuple ?a17 ?i17 ?l17 ?c17 ?k17 ?a18 ?i18 ?l18 ?c18 ?k18 ?a19 ?i19 ?l19 ?c19 ?k19 ?a20 ?i20 ?l20 ?c20 ?k20 ?a21 ?i21 ?l21 ?c21 ?k21 ?a22 ?i22 ?l22 ?c22 ?k22 ?a23 ?l23 ?c23 ?k23 ?a24 ?l24 ?c24 ?k24 ?a25 ?l25 ?c25 ?k25 ?a26 ?l26 ?c26 ?k26 ?a27 ?l27 ?c27 ?k27 ?a28 ?l28 ?c28 ?k28 ?a29 ?l29 ?c29 ?k29 ?a30 ?l30 ?c30 ?k30 ?a31 ?l31 ?c31 ?k31 ?a32 ?l32 ?c32 ?k32 ?a33 ?l33 ?c33 ?k33 ?a34 ?l34 ?c34 ?k34 ?a35 ?l35 ?c35 ?k35 ?a36 ?l36 ?c36 ?k36 ?a37 ?l37 ?c37 ?k37 ?a38 ?l38 ?c38 ?k38 ?a39 ?l39 ?c39 ?k39 ?a40 ?l40 ?c40 ?k40 ?a41 ?l41 ?c41 ?k41 ?a42 ?l42 ?c42 ?k42 ?a43 ?l43 ?c43 ?k43 ?a44 ?l44 ?c44 ?k44 ?a45 ?l45 ?c45 ?k45 ?a46 ?l46 ?c46 ?k46 ?a47 ?l47 ?c47 ?k47 ?a48 ?l48 ?c48 ?k48 ?a49 ?l49 ?c49 ?k49 ?a50 ?l50 ?c50 ?k50 ?a51 ?l51 ?c51 ?k51 ?a52 ?l52 ?c52 ?k52 ?a53 ?l53 ?c53 ?k53 ?a54 ?l54 ?c54 ?k54 ?a55 ?l55 ?c55 ?k55 ?a56 ?l56 ?c56 ?k56 ?a57 ?l57 ?c57 ?k57 ?a58 ?l58 ?c58 ?k58 ?a59 ?l59 ?c59 ?k59 ?a60 ?l60 ?c60 ?k60 ?a61 ?l61 ?c61 ?k61 ?a62 ?l62 ?c62 ?k62 ?a63 ?l63 ?c63 ?k63 ?a64 ?l64 ?c64 ?k64 ?a65 ?l65 ?c65 ?k65 ?a66 ?l66 ?c66 ?k66 ?a67 ?l67 ?c67 ?k67 ?a68 ?l68 ?c68 ?k68 ?a69 ?l69 ?c69 ?k69 ?a70 ?l70 ?c70 ?k70 ?a71 ?l71 ?c71 ?k71 ?a72 ?l72 ?c72 ?k72 ?a73 ?l73 ?c73 ?k73 ?a74 ?l74 ?c74 ?k74 ?a75 ?l75 ?c75 ?k75 ?a76 ?l76 ?c76 ?k76
    (case z_isinstance => k_is)
    (case z_int => k_is)
    (case z_bool => k_is)
    (case z_tuple => k_is)
    (case z_str => k_is)
    (case z_list => k_is)
    (case z_len => k_is)
    (case z_any => k_is)
    (case z_all => k_is)
    (case z_range => k_is)
    (case z_enumerate => k_is)
    (case z_zip => k_is)
    (case z_min => k_is)
    (case z_ValueError => k_is)
    (case z_abs => k_is)
    (case z_iter => k_is)
    (case zz_GROUND => k_is)
    (case lGG => k_is)
    (case zz_WHY => k_is)
    (case lWH => k_is)
    (case zz_DIGITS_ratios => k_is)
    (case zz_LETTERS => k_is)
    (case zz_LONGEST_names => k_is)
    (case zz_LONGEST_lines => k_is)
    (case zz_DIGITS_lines => k_is)
    (case zz_WORDS => k_is)
    (case l_WORDS => k_is)
    (case gg0 => k_is)
    (case tk0 => k_is)
    (case a_EllError => k_is)
    (case ic_EllError => k_is)
    (case tC_EllError => k_is)
    (case a_BadSpot => k_is)
    (case x_BadSpot => k_is)
    (case sa_BadSpot => k_is)
    (case ga_BadSpot => k_is)
    (case gt_BadSpot => k_is)
    (case ca_BadSpot => k_is)
    (case kC_BadSpot => k_is)
    (case eC_BadSpot => k_is)
    (case tC_BadSpot => k_is)
    (case hC_BadSpot => k_is)
    (case ic_BadSpot => k_is)
    (case mo_BadSpot => k_is)
    (case no_BadSpot_place => k_is)
    (case a1 => k_is)
    (case t1 => k_is)
    (case l1 => k_is)
    (case c1 => k_is)
    (case k1 => k_is)
    (case a_NoSpot => k_is)
    (case x_NoSpot => k_is)
    (case sa_NoSpot => k_is)
    (case ga_NoSpot => k_is)
    (case gt_NoSpot => k_is)
    (case ca_NoSpot => k_is)
    (case kC_NoSpot => k_is)
    (case eC_NoSpot => k_is)
    (case tC_NoSpot => k_is)
    (case hC_NoSpot => k_is)
    (case ic_NoSpot => k_is)
    (case mo_NoSpot => k_is)
    (case no_NoSpot_spot => k_is)
    (case a2 => k_is)
    (case t2 => k_is)
    (case l2 => k_is)
    (case c2 => k_is)
    (case k2 => k_is)
    (case a_Clash => k_is)
    (case x_Clash => k_is)
    (case sa_Clash => k_is)
    (case ga_Clash => k_is)
    (case gt_Clash => k_is)
    (case ca_Clash => k_is)
    (case kC_Clash => k_is)
    (case eC_Clash => k_is)
    (case tC_Clash => k_is)
    (case hC_Clash => k_is)
    (case ic_Clash => k_is)
    (case mo_Clash => k_is)
    (case no_Clash_ring => k_is)
    (case a3 => k_is)
    (case t3 => k_is)
    (case l3 => k_is)
    (case c3 => k_is)
    (case k3 => k_is)
    (case a_BadCard => k_is)
    (case x_BadCard => k_is)
    (case sa_BadCard => k_is)
    (case ga_BadCard => k_is)
    (case gt_BadCard => k_is)
    (case ca_BadCard => k_is)
    (case kC_BadCard => k_is)
    (case eC_BadCard => k_is)
    (case tC_BadCard => k_is)
    (case hC_BadCard => k_is)
    (case ic_BadCard => k_is)
    (case mo_BadCard => k_is)
    (case no_BadCard_place => k_is)
    (case a4 => k_is)
    (case t4 => k_is)
    (case l4 => k_is)
    (case c4 => k_is)
    (case k4 => k_is)
    (case a_BadLine => k_is)
    (case x_BadLine => k_is)
    (case sa_BadLine => k_is)
    (case ga_BadLine => k_is)
    (case gt_BadLine => k_is)
    (case ca_BadLine => k_is)
    (case kC_BadLine => k_is)
    (case eC_BadLine => k_is)
    (case tC_BadLine => k_is)
    (case hC_BadLine => k_is)
    (case ic_BadLine => k_is)
    (case mo_BadLine => k_is)
    (case no_BadLine_line => k_is)
    (case no_BadLine_word => k_is)
    (case a5 => k_is)
    (case t5 => k_is)
    (case l5 => k_is)
    (case c5 => k_is)
    (case k5 => k_is)
    (case vC_BadCard => k_is)
    (case lC_BadCard => k_is)
    (case vC_BadLine => k_is)
    (case lC_BadLine => k_is)
    (case s_BadLine_BadCard => k_is)
    (case ne_BadLine_BadCard => decide)
    (case s_BadCard_BadLine => k_is)
    (case s_BadLine_BadLine => first | rfl | k_is)
    (case s_BadSpot_BadSpot => first | rfl | k_is)
    (case s_BadCard_BadCard => first | rfl | k_is)
    (case a_Reader => k_is)
    (case rpg => k_is)
    (case rhd => k_is)
    (case rpo => k_is)
    (case rsa => k_is)
    (case rR => k_is)
    (case rL => k_is)
    (case rW => k_is)
    (case rmk => k_is)
    (case rkc => k_is)
    (case a6 => k_is)
    (case i6 => k_is)
    (case l6 => k_is)
    (case c6 => k_is)
    (case k6 => k_is)
    (case a7 => k_is)
    (case i7 => k_is)
    (case l7 => k_is)
    (case c7 => k_is)
    (case k7 => k_is)
    (case a8 => k_is)
    (case i8 => k_is)
    (case l8 => k_is)
    (case c8 => k_is)
    (case k8 => k_is)
    (case a9 => k_is)
    (case i9 => k_is)
    (case l9 => k_is)
    (case c9 => k_is)
    (case k9 => k_is)
    (case a10 => k_is)
    (case i10 => k_is)
    (case l10 => k_is)
    (case c10 => k_is)
    (case k10 => k_is)
    (case a11 => k_is)
    (case i11 => k_is)
    (case l11 => k_is)
    (case c11 => k_is)
    (case k11 => k_is)
    (case a12 => k_is)
    (case i12 => k_is)
    (case l12 => k_is)
    (case c12 => k_is)
    (case k12 => k_is)
    (case a13 => k_is)
    (case i13 => k_is)
    (case l13 => k_is)
    (case c13 => k_is)
    (case k13 => k_is)
    (case a14 => k_is)
    (case i14 => k_is)
    (case l14 => k_is)
    (case c14 => k_is)
    (case k14 => k_is)
    (case a15 => k_is)
    (case i15 => k_is)
    (case l15 => k_is)
    (case c15 => k_is)
    (case k15 => k_is)
    (case a16 => k_is)
    (case i16 => k_is)
    (case l16 => k_is)
    (case c16 => k_is)
    (case k16 => k_is)
    (case a_Card => k_is)
    (case pg => k_is)
    (case hd => k_is)
    (case po => k_is)
    (case sa => k_is)
    (case ca => k_is)
    (case mo => k_is)
    (case nS => k_is)
    (case nP => k_is)
    (case nR => k_is)
    (case ic => k_is)
    (case tC => k_is)
    (case mk => k_is)
    (case kc => k_is)
    (case sf => k_is)
    (case sb_NoneType => k_is)
    (case sb_bool => k_is)
    (case sb_int => k_is)
    (case sb_str => k_is)
    (case sb_list => k_is)
    (case sb_tuple => k_is)
    (case a17 => k_is)
    (case i17 => k_is)
    (case l17 => k_is)
    (case c17 => k_is)
    (case k17 => k_is)
    (case a18 => k_is)
    (case i18 => k_is)
    (case l18 => k_is)
    (case c18 => k_is)
    (case k18 => k_is)
    (case a19 => k_is)
    (case i19 => k_is)
    (case l19 => k_is)
    (case c19 => k_is)
    (case k19 => k_is)
    (case a20 => k_is)
    (case i20 => k_is)
    (case l20 => k_is)
    (case c20 => k_is)
    (case k20 => k_is)
    (case a21 => k_is)
    (case i21 => k_is)
    (case l21 => k_is)
    (case c21 => k_is)
    (case k21 => k_is)
    (case a22 => k_is)
    (case i22 => k_is)
    (case l22 => k_is)
    (case c22 => k_is)
    (case k22 => k_is)
    (case a23 => k_is)
    (case l23 => k_is)
    (case c23 => k_is)
    (case k23 => k_is)
    (case a24 => k_is)
    (case l24 => k_is)
    (case c24 => k_is)
    (case k24 => k_is)
    (case a25 => k_is)
    (case l25 => k_is)
    (case c25 => k_is)
    (case k25 => k_is)
    (case a26 => k_is)
    (case l26 => k_is)
    (case c26 => k_is)
    (case k26 => k_is)
    (case a27 => k_is)
    (case l27 => k_is)
    (case c27 => k_is)
    (case k27 => k_is)
    (case a28 => k_is)
    (case l28 => k_is)
    (case c28 => k_is)
    (case k28 => k_is)
    (case a29 => k_is)
    (case l29 => k_is)
    (case c29 => k_is)
    (case k29 => k_is)
    (case a30 => k_is)
    (case l30 => k_is)
    (case c30 => k_is)
    (case k30 => k_is)
    (case a31 => k_is)
    (case l31 => k_is)
    (case c31 => k_is)
    (case k31 => k_is)
    (case a32 => k_is)
    (case l32 => k_is)
    (case c32 => k_is)
    (case k32 => k_is)
    (case a33 => k_is)
    (case l33 => k_is)
    (case c33 => k_is)
    (case k33 => k_is)
    (case a34 => k_is)
    (case l34 => k_is)
    (case c34 => k_is)
    (case k34 => k_is)
    (case a35 => k_is)
    (case l35 => k_is)
    (case c35 => k_is)
    (case k35 => k_is)
    (case a36 => k_is)
    (case l36 => k_is)
    (case c36 => k_is)
    (case k36 => k_is)
    (case a37 => k_is)
    (case l37 => k_is)
    (case c37 => k_is)
    (case k37 => k_is)
    (case a38 => k_is)
    (case l38 => k_is)
    (case c38 => k_is)
    (case k38 => k_is)
    (case a39 => k_is)
    (case l39 => k_is)
    (case c39 => k_is)
    (case k39 => k_is)
    (case a40 => k_is)
    (case l40 => k_is)
    (case c40 => k_is)
    (case k40 => k_is)
    (case a41 => k_is)
    (case l41 => k_is)
    (case c41 => k_is)
    (case k41 => k_is)
    (case a42 => k_is)
    (case l42 => k_is)
    (case c42 => k_is)
    (case k42 => k_is)
    (case a43 => k_is)
    (case l43 => k_is)
    (case c43 => k_is)
    (case k43 => k_is)
    (case a44 => k_is)
    (case l44 => k_is)
    (case c44 => k_is)
    (case k44 => k_is)
    (case a45 => k_is)
    (case l45 => k_is)
    (case c45 => k_is)
    (case k45 => k_is)
    (case a46 => k_is)
    (case l46 => k_is)
    (case c46 => k_is)
    (case k46 => k_is)
    (case a47 => k_is)
    (case l47 => k_is)
    (case c47 => k_is)
    (case k47 => k_is)
    (case a48 => k_is)
    (case l48 => k_is)
    (case c48 => k_is)
    (case k48 => k_is)
    (case a49 => k_is)
    (case l49 => k_is)
    (case c49 => k_is)
    (case k49 => k_is)
    (case a50 => k_is)
    (case l50 => k_is)
    (case c50 => k_is)
    (case k50 => k_is)
    (case a51 => k_is)
    (case l51 => k_is)
    (case c51 => k_is)
    (case k51 => k_is)
    (case a52 => k_is)
    (case l52 => k_is)
    (case c52 => k_is)
    (case k52 => k_is)
    (case a53 => k_is)
    (case l53 => k_is)
    (case c53 => k_is)
    (case k53 => k_is)
    (case a54 => k_is)
    (case l54 => k_is)
    (case c54 => k_is)
    (case k54 => k_is)
    (case a55 => k_is)
    (case l55 => k_is)
    (case c55 => k_is)
    (case k55 => k_is)
    (case a56 => k_is)
    (case l56 => k_is)
    (case c56 => k_is)
    (case k56 => k_is)
    (case a57 => k_is)
    (case l57 => k_is)
    (case c57 => k_is)
    (case k57 => k_is)
    (case a58 => k_is)
    (case l58 => k_is)
    (case c58 => k_is)
    (case k58 => k_is)
    (case a59 => k_is)
    (case l59 => k_is)
    (case c59 => k_is)
    (case k59 => k_is)
    (case a60 => k_is)
    (case l60 => k_is)
    (case c60 => k_is)
    (case k60 => k_is)
    (case a61 => k_is)
    (case l61 => k_is)
    (case c61 => k_is)
    (case k61 => k_is)
    (case a62 => k_is)
    (case l62 => k_is)
    (case c62 => k_is)
    (case k62 => k_is)
    (case a63 => k_is)
    (case l63 => k_is)
    (case c63 => k_is)
    (case k63 => k_is)
    (case a64 => k_is)
    (case l64 => k_is)
    (case c64 => k_is)
    (case k64 => k_is)
    (case a65 => k_is)
    (case l65 => k_is)
    (case c65 => k_is)
    (case k65 => k_is)
    (case a66 => k_is)
    (case l66 => k_is)
    (case c66 => k_is)
    (case k66 => k_is)
    (case a67 => k_is)
    (case l67 => k_is)
    (case c67 => k_is)
    (case k67 => k_is)
    (case a68 => k_is)
    (case l68 => k_is)
    (case c68 => k_is)
    (case k68 => k_is)
    (case a69 => k_is)
    (case l69 => k_is)
    (case c69 => k_is)
    (case k69 => k_is)
    (case a70 => k_is)
    (case l70 => k_is)
    (case c70 => k_is)
    (case k70 => k_is)
    (case a71 => k_is)
    (case l71 => k_is)
    (case c71 => k_is)
    (case k71 => k_is)
    (case a72 => k_is)
    (case l72 => k_is)
    (case c72 => k_is)
    (case k72 => k_is)
    (case a73 => k_is)
    (case l73 => k_is)
    (case c73 => k_is)
    (case k73 => k_is)
    (case a74 => k_is)
    (case l74 => k_is)
    (case c74 => k_is)
    (case k74 => k_is)
    (case a75 => k_is)
    (case l75 => k_is)
    (case c75 => k_is)
    (case k75 => k_is)
    (case a76 => k_is)
    (case l76 => k_is)
    (case c76 => k_is)
    (case k76 => k_is)
