import PyProof.Rows.All
import Wide.All
import OpenK.AllK
import Wide.FinOn
import HandS.ForMost
import HandS.ForExc
import HandS.TryMany
import HandS.ExcInit
import HandS.ExcField
import HandS.ExcIs
import HandS.IsInst
import KE.KExcIs
import KE.KOpsOwn
import HandS.OwnEq
import HandS.Wide
import HandS.Gcd
import HandS.TupMul
import HandS.Zip
import HandS.Defaults
import HandS.Walk
import HandS.ClsMeth
import HandS.Codes
import PyProof.StrOps2
import PyProof.ReprRoads
import HandS.HotCalls
import HandS.Iter
import KE.KOwnIter
import KE.KDictIter
import HandS.Conv
import HandS.Dict
import HandS.List
import HandS.ListEq
import KE.KEqDict
import HandS.TupLen
import KE.GoesEnum
import KE.GoesMore
import KE.KAssignIn
import HandS.Star
import HandS.SuiteRaise
import HandS.RaiseFrom
import HandS.ExcInitHot
import KE.KAsSuite
import HandS.Ends
import HandS.DictComp
import PySem.Challenge.RW_ellwarden_k49_cards_judged
import HandS.ReplaceLit
import HandS.TupAny
import KE.KDictSum
import KE.KDictDisplayH
import KE.SortData
import HandS.SortRule
import HandS.Deep
import KE.IntTextLaws
import HandS.StrMore
set_option Elab.async false
namespace K49
/-! ### tables of bounds -/
abbrev Tb2 := Nat → Nat → Int
structure Cld (n : Nat) (f : Tb2) : Prop where
  z : ∀ a, a < n → f a a = 0
  t : ∀ a b c, a < n → b < n → c < n → f a c ≤ f a b + f b c
def Le (n : Nat) (f g : Tb2) : Prop := ∀ a b, a < n → b < n → f a b ≤ g a b
theorem Le.refl {n : Nat} {f : Tb2} : Le n f f := fun _ _ _ _ => Int.le_refl _
theorem Le.trans {n : Nat} {f g h : Tb2} (p : Le n f g) (q : Le n g h) : Le n f h := fun a b ha hb => Int.le_trans (p a b ha hb) (q a b ha hb)
/-- by way of m -/
def via (m : Nat) (f : Tb2) : Tb2 := fun a b => if f a m + f m b < f a b then f a m + f m b else f a b
def fw : Nat → Tb2 → Tb2
  | 0, f => f
  | m + 1, f => via m (fw m f)
theorem via_le {n m : Nat} {f : Tb2} : Le n (via m f) f := fun a b _ _ => by
  unfold via
  split <;> omega
theorem fw_le {n : Nat} {f : Tb2} : ∀ m, Le n (fw m f) f
  | 0 => .refl
  | m + 1 => via_le.trans (fw_le m)
theorem fw_down {n : Nat} {f : Tb2} {k m : Nat} (h : k ≤ m) : Le n (fw m f) (fw k f) := by
  induction h with
  | refl => exact .refl
  | step _ ih => exact via_le.trans ih
theorem fw_ge {n : Nat} {f c : Tb2} (hc : Cld n c) (h : Le n c f) : ∀ m, m ≤ n → Le n c (fw m f)
  | 0, _ => h
  | m + 1, hm => fun a b ha hb => by
    have ih := fw_ge hc h m (by omega)
    have h1 := ih a b ha hb
    have h2 := ih a m ha (by omega)
    have h3 := ih m b (by omega) hb
    have h4 := hc.t a m b ha (by omega) hb
    show c a b ≤ via m (fw m f) a b
    unfold via
    split <;> omega
theorem fw_inv {n : Nat} {f : Tb2} (hd : ∀ a, a < n → 0 ≤ fw n f a a) : ∀ m, m ≤ n → ∀ a b k, a < n → b < n → k < m → fw m f a b ≤ fw m f a k + fw m f k b
  | 0, _, _, _, _, _, _, hk => absurd hk (Nat.not_lt_zero _)
  | m + 1, hm, a, b, k, ha, hb, hk => by
    have ih := fw_inv hd m (by omega)
    have dm : 0 ≤ fw m f m m := Int.le_trans (hd m (by omega)) (fw_down (n := n) (by omega : m ≤ n) m m (by omega) (by omega))
    show via m (fw m f) a b ≤ via m (fw m f) a k + via m (fw m f) k b
    generalize fw m f = g at ih dm ⊢
    by_cases e : k = m
    · subst e
      unfold via
      repeat' split
      all_goals omega
    · have km : k < m := by omega
      have i1 := ih a b k ha hb km
      have i2 := ih m b k (by omega) hb km
      have i3 := ih a m k ha (by omega) km
      have i4 := ih m m k (by omega) (by omega) km
      unfold via
      repeat' split
      all_goals omega
theorem fw_cld {n : Nat} {f : Tb2} (h0 : ∀ a, a < n → f a a ≤ 0) (hd : ∀ a, a < n → 0 ≤ fw n f a a) : Cld n (fw n f) :=
  ⟨fun a ha => by have := hd a ha; have := fw_le (n := n) (f := f) n a a ha ha; have := h0 a ha; omega, fun a b c ha hb hc => fw_inv hd n (Nat.le_refl _) a c b ha hc hb⟩
/-- one bound more -/
def low (f : Tb2) (s g : Nat) (w : Int) : Tb2 := fun a b => if f a b ≤ f a s + (w + f g b) then f a b else f a s + (w + f g b)
theorem low_cld {n s g : Nat} {f : Tb2} {w : Int} (h : Cld n f) (hs : s < n) (hg : g < n) (hw : 0 ≤ f g s + w) : Cld n (low f s g w) := by
  refine ⟨fun a ha => ?_, fun a b c ha hb hc => ?_⟩
  · have h1 := h.z a ha
    have h2 := h.t g a s hg ha hs
    unfold low
    split <;> omega
  · have h1 := h.t a b c ha hb hc
    have h2 := h.t g b c hg hb hc
    have h3 := h.t a b s ha hb hs
    have h4 := h.t g b s hg hb hs
    unfold low
    repeat' split
    all_goals omega
theorem low_le {n s g : Nat} {f : Tb2} {w : Int} : Le n (low f s g w) f := fun a b _ _ => by
  unfold low
  split <;> omega
theorem low_at {n s g : Nat} {f : Tb2} {w : Int} (h : Cld n f) (hs : s < n) (hg : g < n) : low f s g w s g ≤ w := by
  have h1 := h.z s hs
  have h2 := h.z g hg
  unfold low
  split <;> omega
theorem low_max {n s g : Nat} {f c : Tb2} {w : Int} (hc : Cld n c) (h : Le n c f) (hs : s < n) (hg : g < n) (hw : c s g ≤ w) : Le n c (low f s g w) := fun a b ha hb => by
  have h1 := h a b ha hb
  have h2 := h a s ha hs
  have h3 := h g b hg hb
  have h4 := hc.t a s b ha hs hb
  have h5 := hc.t s g b hs hg hb
  unfold low
  split <;> omega
def put (f : Tb2) (s g : Nat) (w : Int) : Tb2 := fun a b => if a = s ∧ b = g then (if f s g < w then f s g else w) else f a b
theorem put_le {n s g : Nat} {f : Tb2} {w : Int} : Le n (put f s g w) f := fun a b _ _ => by
  unfold put
  by_cases h : a = s ∧ b = g
  · rw [if_pos h, h.1, h.2]
    split <;> omega
  · rw [if_neg h]
    exact Int.le_refl _
theorem put_at {s g : Nat} {f : Tb2} {w : Int} : put f s g w s g ≤ w := by
  unfold put
  rw [if_pos ⟨rfl, rfl⟩]
  split <;> omega
theorem put_ge {n s g : Nat} {f c : Tb2} {w : Int} (h : Le n c f) (hw : c s g ≤ w) : Le n c (put f s g w) := fun a b ha hb => by
  have h1 := h a b ha hb
  unfold put
  by_cases q : a = s ∧ b = g
  · rw [if_pos q]
    obtain ⟨rfl, rfl⟩ := q
    split <;> omega
  · rw [if_neg q]
    exact h1
theorem put_diag {n s g : Nat} {f : Tb2} {w : Int} (h : ∀ a, a < n → f a a ≤ 0) : ∀ a, a < n → put f s g w a a ≤ 0 := fun a ha => by
  have := h a ha
  have := put_le (n := n) (s := s) (g := g) (f := f) (w := w) a a ha ha
  omega
/-- what the law closes is what the card tells -/
theorem fw_put {n s g : Nat} {f : Tb2} {w : Int} (h : Cld n f) (hs : s < n) (hg : g < n) (hw : 0 ≤ f g s + w) : ∀ a b, a < n → b < n → fw n (put f s g w) a b = low f s g w a b := by
  have lc := low_cld h hs hg hw
  have ge := fw_ge lc (put_ge (low_le (f := f)) (low_at h hs hg)) n (Nat.le_refl _)
  have fc : Cld n (fw n (put f s g w)) := fw_cld (put_diag fun a ha => Int.le_of_eq (h.z a ha)) fun a ha => by
    have := ge a a ha ha
    have := lc.z a ha
    omega
  have le := low_max fc ((fw_le n).trans put_le) hs hg (Int.le_trans (fw_le n s g hs hg) put_at)
  intro a b ha hb
  exact Int.le_antisymm (le a b ha hb) (ge a b ha hb)
/-! ### rows of links -/
abbrev Lk := Nat × Nat × Int
def putAll (f : Tb2) : List Lk → Tb2
  | [] => f
  | l :: ls => putAll (put f l.1 l.2.1 l.2.2) ls
structure Lks (n : Nat) (ls : List Lk) : Prop where
  a : ∀ l ∈ ls, l.1 < n
  b : ∀ l ∈ ls, l.2.1 < n
theorem putAll_le {n : Nat} : ∀ (ls : List Lk) (f : Tb2), Le n (putAll f ls) f
  | [], _ => .refl
  | _ :: ls, _ => (putAll_le ls _).trans put_le
theorem putAll_at {n : Nat} : ∀ (ls : List Lk) (f : Tb2), Lks n ls → ∀ l ∈ ls, putAll f ls l.1 l.2.1 ≤ l.2.2
  | l :: ls, f, h, m, hm => by
    rcases List.mem_cons.mp hm with rfl | hm
    · exact Int.le_trans (putAll_le (n := n) ls _ _ _ (h.a m List.mem_cons_self) (h.b m List.mem_cons_self)) put_at
    · exact putAll_at ls _ ⟨fun x hx => h.a x (List.mem_cons_of_mem _ hx), fun x hx => h.b x (List.mem_cons_of_mem _ hx)⟩ m hm
theorem putAll_ge {n : Nat} {c : Tb2} : ∀ (ls : List Lk) (f : Tb2), Le n c f → (∀ l ∈ ls, c l.1 l.2.1 ≤ l.2.2) → Le n c (putAll f ls)
  | [], _, h, _ => h
  | l :: ls, _, h, k => putAll_ge ls _ (put_ge h (k l List.mem_cons_self)) fun x hx => k x (List.mem_cons_of_mem _ hx)
theorem putAll_diag {n : Nat} {ls : List Lk} {f : Tb2} (h : ∀ a, a < n → f a a ≤ 0) : ∀ a, a < n → putAll f ls a a ≤ 0 := fun a ha => Int.le_trans (putAll_le (n := n) ls f a a ha ha) (h a ha)
/-- g: the greatest closed table below f that keeps the links -/
structure Mx (n : Nat) (f : Tb2) (ls : List Lk) (g : Tb2) : Prop where
  c : Cld n g
  le : Le n g f
  at_ : ∀ l ∈ ls, g l.1 l.2.1 ≤ l.2.2
  mx : ∀ c, Cld n c → Le n c f → (∀ l ∈ ls, c l.1 l.2.1 ≤ l.2.2) → Le n c g
theorem Mx.nil {n : Nat} {f : Tb2} (h : Cld n f) : Mx n f [] f := ⟨h, .refl, fun _ z => (nomatch z), fun _ _ h _ => h⟩
theorem Mx.snoc {n : Nat} {f g : Tb2} {ls : List Lk} {l : Lk} (h : Mx n f ls g) (ha : l.1 < n) (hb : l.2.1 < n) (hl : Lks n ls) (hw : 0 ≤ g l.2.1 l.1 + l.2.2) : Mx n f (ls ++ [l]) (low g l.1 l.2.1 l.2.2) := by
  refine ⟨low_cld h.c ha hb hw, low_le.trans h.le, fun x hx => ?_, fun c hc hcf hcl => ?_⟩
  · rcases List.mem_append.mp hx with hx | hx
    · exact Int.le_trans (low_le (n := n) _ _ (hl.a x hx) (hl.b x hx)) (h.at_ x hx)
    · rw [List.mem_singleton] at hx
      subst hx
      exact low_at h.c ha hb
  · exact low_max hc (h.mx c hc hcf fun x hx => hcl x (List.mem_append_left _ hx)) ha hb (hcl l (List.mem_append_right _ List.mem_cons_self))
theorem Mx.perm {n : Nat} {f g : Tb2} {ls ms : List Lk} (h : Mx n f ls g) (p : ∀ l, l ∈ ls ↔ l ∈ ms) : Mx n f ms g := ⟨h.c, h.le, fun l hl => h.at_ l ((p l).mpr hl), fun c h1 h2 h3 => h.mx c h1 h2 fun l hl => h3 l ((p l).mp hl)⟩
/-- all links, closed: the same table -/
theorem Mx.all {n : Nat} {f g : Tb2} {ls : List Lk} (hf : Cld n f) (h : Mx n f ls g) (hl : Lks n ls) : ∀ a b, a < n → b < n → fw n (putAll f ls) a b = g a b := by
  have ge := fw_ge h.c (putAll_ge ls f h.le h.at_) n (Nat.le_refl _)
  have fc : Cld n (K49.fw n (putAll f ls)) := fw_cld (putAll_diag fun a ha => Int.le_of_eq (hf.z a ha)) fun a ha => by
    have := ge a a ha ha
    have := h.c.z a ha
    omega
  have le := h.mx _ fc ((fw_le n).trans (putAll_le ls f)) fun l hm => Int.le_trans (fw_le n _ _ (hl.a l hm) (hl.b l hm)) (putAll_at ls f hl l hm)
  intro a b ha hb
  exact Int.le_antisymm (le a b ha hb) (ge a b ha hb)
/-- a link that clashes: no closed table keeps them all -/
theorem Mx.no {n : Nat} {f g : Tb2} {ls ms : List Lk} {l : Lk} (hf : Cld n f) (h : Mx n f ls g) (ha : l.1 < n) (hb : l.2.1 < n) (hw : g l.2.1 l.1 + l.2.2 < 0) (hl : Lks n ms) (hm : ∀ x ∈ ls, x ∈ ms) (hl2 : l ∈ ms) : ∃ a, a < n ∧ fw n (putAll f ms) a a < 0 := by
  refine Classical.byContradiction fun no => ?_
  have hd : ∀ a, a < n → 0 ≤ K49.fw n (putAll f ms) a a := fun a ha => Int.not_lt.mp fun z => no ⟨a, ha, z⟩
  have fc := fw_cld (putAll_diag fun a ha => Int.le_of_eq (hf.z a ha)) hd
  have at_ : ∀ x ∈ ms, K49.fw n (putAll f ms) x.1 x.2.1 ≤ x.2.2 := fun x hx => Int.le_trans (fw_le n _ _ (hl.a x hx) (hl.b x hx)) (putAll_at ms f hl x hx)
  have le := h.mx _ fc ((fw_le n).trans (putAll_le ms f)) fun x hx => at_ x (hm x hx)
  have h1 := le l.2.1 l.1 hb ha
  have h2 := at_ l hl2
  have h3 := fc.t l.2.1 l.1 l.2.1 hb ha hb
  have h4 := fc.z l.2.1 hb
  omega
end K49

set_option Elab.async false
set_option linter.all false
set_option maxRecDepth 100000
set_option maxHeartbeats 4000000
/-! a try with several clauses, each with a name or without -/
namespace Ew
open PySem PySem.Spec PyProof.Rows L2
/-- one clause: what it names, the slot of its name, what its suite asks -/
abbrev Cl1 := Value × Option Nat × (Addr → Value → Option Addr → TS)
/-- behind a suite the slot of its name is empty -/
def Emp : Option Nat → Ends → Ends
  | none, D => D
  | some i, D => ⟨fun t G => D.nx (t.set i none) G, D.rt, fun t G => D.bk (t.set i none) G, fun t G => D.ct (t.set i none) G⟩
def bindAt : Option Nat → Addr → L2.St → L2.St
  | none, _, σ => σ
  | some i, a, σ => σ.set i (some (.ref a))
def wN (K : PySem.W.Frag) (Wo : WX) (D : Ends) : List Cl1 → WX
  | [] => Wo
  | (c, i, ts) :: r => fun cls d σ H => ∃ b, PySem.W.exmOne K cls c = some b ∧ (b = true → ∀ a, H a = none → ts a cls d (Emp i D) (bindAt i a σ) H) ∧ (b = false → wN K Wo D r cls d σ H)
/-- a suite keeps its reading whatever exception it holds -/
def SuiteOk (X : Cx) (sts : List Stmt) (ts : Addr → Value → Option Addr → TS) : Prop := ∀ a oe cls d pn, Zc cls d oe → (∃ vs, oe.data = .fields vs) → PSs (X.suite a ((a, oe) :: pn)) sts (ts a cls d)
inductive HdsN (X : Cx) : List ExceptHandler → List Cl1 → Prop
  | nil : HdsN X [] []
  | pl {x : Str} {c : Value} {ts b sts p q hs l} : Names X x c → SuiteOk X (b :: sts) ts → HdsN X hs l → HdsN X (.ExceptHandler (some (.Name x p)) none (b :: sts) q :: hs) ((c, none, ts) :: l)
  | nm {x n : Str} {i : Nat} {c : Value} {ts b sts p q hs l} : X.N[i]? = some n → X.env.kindOf n = some .local → Names X x c → SuiteOk X (b :: sts) ts → HdsN X hs l → HdsN X (.ExceptHandler (some (.Name x p)) (some n) (b :: sts) q :: hs) ((c, some i, ts) :: l)
section
variable {X : Cx} {pins : List (Addr × Obj)} {σ : L2.St} {H : Hp} {a : Addr} {cls : Value} {d : Option Addr} {D : Ends} {s : Shared} {Wo : WX}
/-- an exception lies at a, looked at by the frame's own handlers -/
structure Caught (X : Cx) (pins : List (Addr × Obj)) (σ : L2.St) (H : Hp) (a : Addr) (cls : Value) (d : Option Addr) (s : Shared) : Prop where
  ok : X.Ok
  st : X.stack = X.env :: X.outer
  fr : X.env.frame = some X.env.locals
  free : H a = none
  rest : ∃ B sI, Inv X pins σ H sI ∧ (∀ b o, sI.heap.get? b = some o → b ∉ frs X.stack → B.get? b = some o) ∧ sI.heap.UpToSlots s.heap ∧ s.os = sI.os ∧ AllBare s.gens ∧ HandSPX.FlyingZ B (X.env :: X.outer) a (Zc cls d) s.heap
theorem Caught.inv (c : Caught X pins σ H a cls d s) : Inv X pins σ H s := by
  obtain ⟨B, sI, J, nb, up, os, ag, fl⟩ := c.rest
  obtain ⟨hp, g, dr, t, o⟩ := s
  exact J.landed nb fl.1 up os ag
theorem Caught.off (c : Caught X pins σ H a cls d s) : a ∉ frs (X.env :: X.outer) := fun hm => by
  obtain ⟨B, sI, J, nb, up, os, ag, fl⟩ := c.rest
  obtain ⟨o, vs, e, z, q⟩ := fl.there
  obtain ⟨_, o', e', w⟩ := fl.2.2.1.mem hm
  obtain rfl := Option.some.inj (e.symm.trans e')
  exact w _ q
theorem Caught.held (c : Caught X pins σ H a cls d s) : ∃ oe, s.heap.get? a = some oe ∧ Zc cls d oe ∧ (∃ vs, oe.data = .fields vs) ∧ Inv (X.suite a ((a, oe) :: (X.pn ++ pins))) [] σ H s := by
  obtain ⟨B, sI, J, nb, up, os, ag, fl⟩ := id c.rest
  obtain ⟨oe, vs, e, z, q⟩ := fl.there
  refine ⟨oe, e, z, ⟨vs, q⟩, c.inv.suite e q c.free (fun h => c.off ?_) fun h => c.off ?_⟩
  · exact List.mem_filterMap.mpr ⟨_, List.mem_cons_self, c.fr.trans (congrArg some h.symm)⟩
  · obtain ⟨y, hy, w⟩ := List.mem_filterMap.mp h
    exact List.mem_filterMap.mpr ⟨y, List.mem_cons_of_mem _ hy, w⟩
/-- the clause's class is looked at -/
theorem Caught.asks (c : Caught X pins σ H a cls d s) {x : Str} {p : Pos} {v : Value} (n : Names X x v) {Q E : Value → Shared → Prop} (q : Q v s) :
    wpAny (model X.prog X.w) (X.A.mark (some (.ref a))) (eval (.Name x p) X.env) Q E s := by
  obtain ⟨oe, _, _, _, S⟩ := c.held
  obtain ⟨g, db, m | ⟨m, v', nn⟩⟩ := n
  · exact ld_glob (X := X.suite a ((a, oe) :: (X.pn ++ pins))) S g m q db
  · exact ld_blt (X := X.suite a ((a, oe) :: (X.pn ++ pins))) S g m v' q nn db
theorem Caught.judged (c : Caught X pins σ H a cls d s) {v : Value} {b : Bool} (h : PySem.W.exmOne X.K cls v = some b) : PySem.W.Looks (model X.prog X.w) s.heap (excMatches (.ref a) v) b := by
  obtain ⟨oe, e, z, _, _⟩ := c.held
  exact PySem.W.exm_one c.inv.kIn (fun _ _ _ _ k q => wpAny_typeOf_ref (k _ _ e) (z.1.symm ▸ q)) h
/-- what behind the suite is left of an end -/
theorem Caught.done (c : Caught X pins σ H a cls d s) {oe : Obj} {i : Option Nat} {f : Flow} {s' : Shared} (hN : X.N.Nodup) {n : Str} (hn : ∀ j, i = some j → X.N[j]? = some n ∧ X.env.kindOf n = some .local)
    (h : SP (X.suite a ((a, oe) :: (X.pn ++ pins))) [] (Emp i D) f s') {p : Pos} :
    (i = none → SP X pins D f s') ∧ (i ≠ none → wpAny (model X.prog X.w) X.A (do bindName X.env n .none; unbindBehindTheSuite X.env n p) (fun _ s7 => SP X pins D f s7) X.xe s') := by
  cases i with
  | none =>
    refine ⟨fun _ => ?_, fun z => absurd rfl z⟩
    cases f <;> first
      | (obtain ⟨σ6, H6, S, q⟩ := h; exact ⟨σ6, H6, S.unsuite c.ok, q⟩)
      | (obtain ⟨v, σ6, H6, S, r, q⟩ := h; exact ⟨v, σ6, H6, S.unsuite c.ok, r, q⟩)
  | some j =>
    obtain ⟨hj, hk⟩ := hn j rfl
    refine ⟨fun z => (nomatch z), fun _ => ?_⟩
    cases f <;> first
      | (obtain ⟨σ6, H6, S, q⟩ := h; exact gone_ok (S.unsuite c.ok) hN hj hk fun s7 J => ⟨_, _, J, q⟩)
      | (obtain ⟨v, σ6, H6, S, r, q⟩ := h; exact gone_ok (S.unsuite c.ok) hN hj hk fun s7 J => ⟨_, _, _, J, r, q⟩)
/-- the clauses, one after the other -/
theorem Caught.handled {pos : Pos} (hN : X.N.Nodup) (tk : Takes X Wo) : ∀ {hs : List ExceptHandler} {l : List Cl1}, HdsN X hs l → ∀ {s : Shared}, Caught X pins σ H a cls d s → wN X.K Wo D l cls d σ H →
    wpAny (model X.prog X.w) X.A (handleBy (.ref a) X.env hs) (SP X pins D) X.xe s
  | _, _, .nil, s, c, w => by
    obtain ⟨B, sI, J, nb, up, os, ag, fl⟩ := id c.rest
    obtain ⟨_, _, _, oe, vs, T, oT, ts', he, hz, hd, h1, hr⟩ := id fl
    refine wpAny_handleBy_nil ?_
    have up2 : wpAny (model X.prog X.w) X.A (setFlight (.ref a) X.env.frame) (fun _ s4 => wpAny (model X.prog X.w) X.A (throw (.ref a) : Sem Flow) (SP X pins D) X.xe s4) X.xe s := by
      obtain ⟨hp, g, dr, t, o⟩ := s
      rw [c.fr]
      refine HandSPX.setFlight_upZ fl fun h4 hh4 u4 => wpAny_throw (tk _ _ ⟨a, B, sI, pins, σ, H, cls, d, rfl, J, nb, up.trans u4, .inr (.inr ?_), c.free, os, ag, w⟩)
      rw [c.st]
      exact hh4
    unfold PySem.passOn
    refine wpAny_bind (wpAny_field he hd h1 ?_)
    rw [if_neg (fun z => by simp at z)]
    first
      | exact wpAny_bind (wpAny_pure (wpAny_bind up2))
      | exact wpAny_bind up2
  | _, _, .pl hc hsu r, s, c, w => by
    obtain ⟨b, e, yes, no⟩ := w
    refine wpAny_handleBy_cons (codeAny_handlers_test (c.asks hc ((c.judged e).here ?_))) (fun q => nomatch q)
    cases b with
    | false => exact Caught.handled (pos := pos) hN tk r c (no rfl)
    | true =>
      refine codeAny_handlers_suite ?_
      obtain ⟨B, sI, J, nb, up, os, ag, fl⟩ := id c.rest
      obtain ⟨hp, g, dr, t, o⟩ := s
      refine HandSPX.lands_againZ fl fun h4 fl4 u4 => ?_
      have c4 : Caught X pins σ H a cls d ⟨h4, g, dr, t, o⟩ := ⟨c.ok, c.st, c.fr, c.free, B, sI, J, nb, up.trans u4, os, ag, fl4⟩
      obtain ⟨oe, _, z, q, S⟩ := c4.held
      exact wpAny_mono ((hsu a oe cls d _ z q).run [] _ _ H _ S (yes rfl a c.free)) (fun f s6 h => (c4.done (i := none) (n := "") (p := pos) hN (fun _ z => (nomatch z)) h).1 rfl) fun _ _ z => z.elim
  | _, _, .nm hi hl hc hsu r, s, c, w => by
    obtain ⟨b, e, yes, no⟩ := w
    refine wpAny_handleBy_cons (codeAny_handlers_test (c.asks hc ((c.judged e).here ?_))) (fun q => nomatch q)
    cases b with
    | false => exact Caught.handled (pos := pos) hN tk r c (no rfl)
    | true =>
      refine codeAny_handlers_suite_as ?_
      obtain ⟨B, sI, J, nb, up, os, ag, fl⟩ := id c.rest
      obtain ⟨hp, g, dr, t, o⟩ := s
      refine HandSPX.lands_againZ fl fun h4 fl4 u4 => ?_
      have c4 : Caught X pins σ H a cls d ⟨h4, g, dr, t, o⟩ := ⟨c.ok, c.st, c.fr, c.free, B, sI, J, nb, up.trans u4, os, ag, fl4⟩
      obtain ⟨oe, _, z, q, S⟩ := c4.held
      refine store_ok (X := X.suite a ((a, oe) :: (X.pn ++ pins))) (v := .ref a) S hN hi (.inl hl) rfl (fun s5 S5 => ?_) (.inr hl)
      exact wpAny_mono ((hsu a oe cls d _ z q).run [] s5 _ H _ S5 (yes rfl a c.free)) (fun f s6 h => (c4.done (i := some _) hN (fun j e => by cases e; exact ⟨hi, hl⟩) h).2 (fun z => (nomatch z))) fun _ _ z => z.elim
/-- try: body / several clauses -/
theorem ps_tryN {body : List Stmt} {h0 : ExceptHandler} {hs : List ExceptHandler} {l : List Cl1} {pos : Pos} {tb : WX → TS} (hst : X.stack = X.env :: X.outer) (hfr : X.env.frame = some X.env.locals) (hN : X.N.Nodup) (tk : Takes X Wo)
    (hb : ∀ (W : WX) (pn : List (Addr × Obj)) (xe : Value → Shared → Prop), Takes (X.tr pn xe) W → PassesOwn (model X.prog X.w) X.A X.env xe → PSs (X.tr pn xe) body (tb W)) (hh : HdsN X (h0 :: hs) l) :
    PS X (.Try body (h0 :: hs) [] [] pos) (fun D σ H => tb (wN X.K Wo D l) D σ H) := ⟨fun pins s σ H D I h => by
  have ok := I.ok
  let xe : Value → Shared → Prop := fun e s₁ => wpAny (model X.prog X.w) X.A (noteFrame e X.env) (fun _ s₂ => wpAny (model X.prog X.w) X.A (setFlight e none) (fun _ s₃ => wpAny (model X.prog X.w) X.A (handleBy e X.env (h0 :: hs)) (SP X pins D) X.xe s₃) X.xe s₂) X.xe s₁
  have tk2 : Takes (X.tr (X.pn ++ pins) xe) (wN X.K Wo D l) := fun u s' ⟨a, B, sI, pins', σ', H', cls, d, e, J', nb, up, sky, na, os, ag, w⟩ => by
    subst e
    have sky2 : Sky B (X.env :: X.outer) a (Zc cls d) X.env.locals s'.heap := by rw [← hst]; exact sky
    obtain ⟨hp, g, dr, t, o⟩ := s'
    refine Sky.land Zc.steady (ok.frames.trans (congrArg some hst)) hfr sky2 fun h3 fl u3 => ?_
    exact Caught.handled (pos := pos) hN tk hh ⟨ok, hst, hfr, na, B, sI, J'.ofTry ok, nb, up.trans u3, os, ag, fl⟩ w
  refine wpAny_Try_except (wpAny_mono ((hb _ _ xe tk2 PassesOwn.looking).run [] s σ H D (I.toTry _) h) (fun f s1 q => ?_) fun _ _ z => z)
  cases f <;> first
    | (obtain ⟨σ', H', J, q⟩ := q; exact wpAny_execs_nil ⟨σ', H', J.ofTry ok, q⟩)
    | (obtain ⟨σ', H', J, q⟩ := q; exact ⟨σ', H', J.ofTry ok, q⟩)
    | (obtain ⟨v, σ', H', J, r, q⟩ := q; exact ⟨v, σ', H', J.ofTry ok, r, q⟩)⟩
end
end Ew

set_option Elab.async false
set_option linter.all false
set_option maxRecDepth 100000
set_option maxHeartbeats 4000000
namespace Ew
open PySem PySem.Spec PyProof.Rows L2
/-- what the text's class D of an error says -/
structure ErrC (K : PySem.W.Frag) (D : Addr) : Prop where
  cl : (PySem.W.clsIn K D).isSome = true
  ga : PySem.W.findIn K (.ref D) "__getattribute__" = some (some (.builtin "BaseException.__getattribute__"))
  gt : PySem.W.findIn K (.ref D) "__getattr__" = some none
  sb : PySem.W.subIn K (.ref D) (.type "BaseException") = some true
  ca : PySem.W.findIn K (.ref D) "__class__" = some (some (.builtin "object.__class__"))
  gg : PySem.W.specialIn K (.builtin "object.__class__") "__get__" = some (some (.builtin "getset_descriptor.__get__"))
  tk : PySem.W.takesIn K (.builtin "object.__class__") = some true
  mo : PySem.W.mroIn K D (.type "object") = some true
section
variable {X : Cx} {a D : Addr} {oe : Obj} {pn : List (Addr × Obj)} {d : Option Addr}
theorem err_kit (C : ErrC X.K D) (hz : Zc (.ref D) d oe) (hf : ∃ vs, oe.data = .fields vs) {pins : List (Addr × Obj)} {σ : L2.St} {H : Hp} {s : Shared} (I : Inv (X.suite a ((a, oe) :: pn)) pins σ H s) (hd : ∀ dd, d = some dd → ∃ o, H dd = some o) :
    ∃ P : Heap → Prop, PySem.W.KitX X.K (.ref a) (.ref D) P ∧ P s.heap := by
  obtain ⟨at_, _⟩ := I.pin (a, oe) (List.mem_append.mpr (.inl List.mem_cons_self))
  obtain ⟨vs, hv⟩ := hf
  obtain ⟨oc, od, oda, osl⟩ := oe
  obtain ⟨h1, h2⟩ := hz
  dsimp only at h1 h2 hv
  subst h1 h2 hv
  cases od with
  | none => exact ⟨_, PySem.W.kitx_exc (od := none) C.cl C.ga C.gt C.sb C.ca C.gg C.tk C.mo, at_, rfl, rfl, trivial⟩
  | some dd =>
    obtain ⟨o, ho⟩ := hd dd rfl
    obtain ⟨u, hu⟩ := objOk_get (I.hok dd o ho)
    exact ⟨_, PySem.W.kitx_exc (od := some u) C.cl C.ga C.gt C.sb C.ca C.gg C.tk C.mo, at_, rfl, rfl, hu⟩
/-- isinstance(e, c) | isinstance(e, (c1, c2, ..)), e the error that the suite holds -/
def rIsErr (K : PySem.W.Frag) (D a : Addr) (d : Option Addr) : List V → Hp → VK → Prop := fun xs H Q => (∀ dd, d = some dd → ∃ o, H dd = some o) ∧
  ((∃ c u b, xs = [.ref a, c] ∧ ClsV c u ∧ PySem.W.kitOne K (.ref D) u = some b ∧ Q (.bl b) H) ∨ (∃ tp cs us b, xs = [.ref a, .ref tp] ∧ H tp = some (.tup cs) ∧ Paired ClsV cs us ∧ PySem.W.kitAny K (.ref D) us = some b ∧ Q (.bl b) H))
theorem call_isErr (C : ErrC X.K D) (hz : Zc (.ref D) d oe) (hf : ∃ vs, oe.data = .fields vs) : CallR (X.suite a ((a, oe) :: pn)) (.builtin "isinstance") (rIsErr X.K D a d) := by
  intro pins s σ H xs us Q I r h
  obtain ⟨hd, h⟩ := h
  obtain ⟨P, Z, p⟩ := err_kit C hz hf I hd
  rcases h with ⟨c, u, b, rfl, k, e, q⟩ | ⟨tp, cs, ws, b, rfl, ht, k, e, q⟩
  · obtain ⟨u1, u2, rfl, r1, r2⟩ := vals2 r
    cases r1
    obtain rfl := k.eq r2
    exact PySem.W.kia_one Z I.kIn p e (fun z => nomatch z) fun t => ⟨.bl b, H, I.tok t, rfl, q⟩
  · obtain ⟨u1, u2, rfl, r1, r2⟩ := vals2 r
    cases r1
    cases r2
    obtain ⟨_, its, rv, ⟨oc, od, dt, sl⟩, g1, g2, n, g3⟩ := (show ObjOk X.prog X.w H s.heap tp (.tup cs) from I.hok tp _ ht)
    dsimp only at g2 g3
    subst g2 g3
    obtain rfl := ClsV.all k rv
    exact PySem.W.kia_tup Z I.kIn p g1 e (fun z => nomatch z) fun t => ⟨.bl b, H, I.tok t, rfl, q⟩
/-- the same, the class told by the reading -/
theorem call_isErrC {cls : Value} (C : ErrC X.K D) (hz : Zc cls d oe) (hf : ∃ vs, oe.data = .fields vs) : CallR (X.suite a ((a, oe) :: pn)) (.builtin "isinstance") (fun xs H Q => cls = .ref D ∧ rIsErr X.K D a d xs H Q) := by
  intro pins s σ H xs us Q I r h
  obtain ⟨e, h⟩ := h
  subst e
  exact call_isErr C hz hf pins s σ H xs us Q I r h
end

/-! ### own operators -/
/-- a method of the class by a name of its own -/
structure OpM (K : PySem.W.Frag) (C : Addr) (name : Str) (f : Addr) : Prop where
  at_ : PySem.W.findIn K (.ref C) name = some (some (.ref f))
  fn : PySem.W.isFn K (.ref f) = true
section
variable {X : Cx} {CX : CXT} {k : Nat} {f C : Addr} {fd : FuncData} {ps : List Str} {sp : Sp} {E : L2.St → XK} {a b : Expr} {ta tb : TE} {pos : Pos}
theorem back_of {pins : List (Addr × Obj)} {σ : L2.St} {Q : VK} {u : Value} {s : Shared} (h : EP X pins σ Q u s) : PySem.W.CmpBack (EP X pins σ Q) u s := by
  obtain ⟨v, H, I, r, q⟩ := id h
  cases v <;> first
    | (cases r; exact h)
    | (obtain ⟨t, rfl⟩ := r; exact h)
theorem ins_at {pins : List (Addr × Obj)} {σ : L2.St} {H : Hp} {s : Shared} {x dx : Addr} {fs : List (Str × V)} (I : Inv X pins σ H s) (e : H x = some (.ins C dx fs)) : ∃ od, PySem.W.InstAt s.heap x (PySem.W.instObj C dx) C (some od) := by
  obtain ⟨mA, J, _⟩ := ins_get I.hok e
  obtain ⟨od, J, _⟩ := J.look
  exact ⟨od, J⟩
def tBinO (C : Addr) (sp : Sp) (E : L2.St → XK) (ta tb : TE) : TE := fun σ H Q => ta σ H fun x H1 => tb σ H1 fun y H2 => ∃ p q dx dy fs gs, x = .ref p ∧ y = .ref q ∧ H2 p = some (.ins C dx fs) ∧ H2 q = some (.ins C dy gs) ∧ sp [x, y] H2 Q (E σ)
/-- a + b and its like, both of one own class -/
theorem pe_binO {op : Operator} (F : FnOk X.prog X.w X.K X.mg X.base CX k f fd ps sp) (hr : Room k X.A) (M : OpM X.K C (PySem.dunder op.info.2) f) (sf : PySem.W.selfFirst X.K C = true) (hb : Binds X.K fd ps []) (hx : ∀ σ, PassesAt CX X σ (E σ))
    (h1 : PE X a ta) (h2 : PE X b tb) : PE X (.BinOp a op b pos) (tBinO C sp E ta tb) := by
  refine ⟨fun pins s σ H Q I h => wpAny_BinOp (bin h1 h2 I h fun v u s2 x y H2 I2 rx ry q => ?_)⟩
  obtain ⟨p, q', dx, dy, fs, gs, rfl, rfl, e1, e2, q⟩ := q
  cases rx
  cases ry
  obtain ⟨o1, J1⟩ := ins_at I2 e1
  obtain ⟨o2, J2⟩ := ins_at I2 e2
  obtain ⟨m, fr⟩ := I2.fr
  exact PySem.W.binop_K fr I2.ok.mod.kin J1 J2.type sf M.at_ M.fn (thn (run_fnS (vs := [.ref p, .ref q']) F hr hb (hx σ) I2 (.cons rfl (.cons rfl .nil)) q) fun _ _ z => back_of z)
def tNegO (C : Addr) (sp : Sp) (E : L2.St → XK) (ta : TE) : TE := fun σ H Q => ta σ H fun x H1 => ∃ p dx fs, x = .ref p ∧ H1 p = some (.ins C dx fs) ∧ sp [x] H1 Q (E σ)
/-- -a of an own class -/
theorem pe_negO (F : FnOk X.prog X.w X.K X.mg X.base CX k f fd ps sp) (hr : Room k X.A) (M : OpM X.K C "__neg__" f) (hb : Binds X.K fd ps []) (hx : ∀ σ, PassesAt CX X σ (E σ))
    (h1 : PE X a ta) : PE X (.UnaryOp .USub a pos) (tNegO C sp E ta) := by
  refine ⟨fun pins s σ H Q I h => UnaryOp_ (thn (h1.run pins s σ H _ I h) fun v s1 ⟨x, H1, I1, r1, q1⟩ => ?_)⟩
  obtain ⟨p, dx, fs, rfl, e1, q⟩ := q1
  cases r1
  obtain ⟨o1, J1⟩ := ins_at I1 e1
  obtain ⟨m, fr⟩ := I1.fr
  exact PySem.W.ksp_neg fr I1.ok.mod.kin J1 M.at_ M.fn (run_fnS (vs := [.ref p]) F hr hb (hx σ) I1 (.cons rfl .nil) q)
/-- what stands to the right of an own ==: another of the class, or a tuple -/
def RhsEq (K : PySem.W.Frag) (C : Addr) (H : Hp) (y : V) : Prop := ∃ q, y = .ref q ∧ ((∃ dy gs, H q = some (.ins C dy gs)) ∨ ∃ ys, SqT K H q ys)
def tEqO (K : PySem.W.Frag) (C : Addr) (sp : Sp) (E : L2.St → XK) (ta tb : TE) : TE := fun σ H Q => ta σ H fun x H1 => tb σ H1 fun y H2 => ∃ p dx fs, x = .ref p ∧ H2 p = some (.ins C dx fs) ∧ RhsEq K C H2 y ∧ sp [x, y] H2 Q (E σ)
theorem pc_eqO (F : FnOk X.prog X.w X.K X.mg X.base CX k f fd ps sp) (hr : Room k X.A) (M : OpM X.K C "__eq__" f) (ht : PySem.W.notFirst X.K C (.type "tuple") = true) (hb : Binds X.K fd ps []) (hx : ∀ σ, PassesAt CX X σ (E σ))
    (h1 : PE X a ta) (h2 : PE X b tb) : PC X .Eq a b (tEqO X.K C sp E ta tb) := by
  refine ⟨fun pins s σ H Q I h => bin h1 h2 I h fun v u s2 x y H2 I2 rx ry q => ?_⟩
  obtain ⟨p, dx, fs, rfl, e1, ⟨q', rfl, r⟩, q⟩ := q
  cases rx
  cases ry
  obtain ⟨o1, J1⟩ := ins_at I2 e1
  obtain ⟨m, fr⟩ := I2.fr
  have run := thn (run_fnS (vs := [.ref p, .ref q']) F hr hb (hx σ) I2 (.cons rfl (.cons rfl .nil)) q) fun _ _ z => back_of z
  show wpAny _ _ (richCompare .Eq (.ref p) (.ref q')) _ _ _
  rcases r with ⟨dy, gs, e2⟩ | ⟨ys, e2⟩
  · obtain ⟨o2, J2⟩ := ins_at I2 e2
    exact PySem.W.cmp_K (op := .Eq) hr.units0 fr I2.ok.mod.kin J1 J2.type (by simp [PySem.W.notFirst]) M.at_ M.fn run
  · obtain ⟨its, rv, ⟨o, ho, hc, _⟩, _⟩ := I2.tuple e2
    exact PySem.W.cmp_K (op := .Eq) hr.units0 fr I2.ok.mod.kin J1 (fun A' Q' E' s' kp z => wpAny_typeOf_ref (kp _ _ ho) (by rw [hc]; exact z)) ht M.at_ M.fn run
end
end Ew

set_option Elab.async false
set_option linter.all false
set_option maxRecDepth 100000
set_option maxHeartbeats 4000000
namespace Ew
open PySem PySem.Spec PyProof.Rows L2
/-! ### a def of the top as it stands behind the top, and its promise -/
section
variable {P : Program} {w : World} {K : PySem.W.Frag} {mg : Str → Option Value} {base : Heap}
structure DefAt (K : PySem.W.Frag) (mg : Str → Option Value) (x : Str) (st : Stmt) (ps : List Str) : Prop where
  ex : ∃ f fd, Fun K x x st f fd ∧ mg x = some (.ref f) ∧ Binds K fd ps []
structure Cl (P : Program) (w : World) (K : PySem.W.Frag) (mg : Str → Option Value) (base : Heap) (k : Nat) (x : Str) (ps : List Str) (sp : Sp) (dvs : List V) : Prop where
  ex : ∃ f fd ds, FnOk P w K mg base (L2.CX P w) k f fd ps sp ∧ mg x = some (.ref f) ∧ PySem.W.keepIn K (.ref f) = true ∧ Binds K fd ps ds ∧ Vals dvs ds
/-- where a body runs -/
abbrev cxB (P : Program) (w : World) (K : PySem.W.Frag) (mg : Str → Option Value) (base : Heap) (N : List Str) (qual : Str) (st : Stmt) (f : Addr) (cdv : Value) (A : Around) (outer : List Env) (s : Shared) (H : Hp) (E : XK) : Cx := cxOf (L2.CX P w) P w K mg base N qual (defScope st) f cdv A outer s H E
def BodyOk (P : Program) (w : World) (K : PySem.W.Frag) (mg : Str → Option Value) (base : Heap) (N : List Str) (qual : Str) (st : Stmt) (k : Nat) (sp : Sp) : Prop :=
  ∀ (f : Addr) (cdv : Value) (A : Around) (outer : List Env) (s : Shared) (H : Hp) (vs : List V) (Q : VK) (E : XK), Room k (cxB P w K mg base N qual st f cdv A outer s H E).A → sp vs H Q E →
    ∃ t, PSs (cxB P w K mg base N qual st f cdv A outer s H E) (defBody st) t ∧ t { nx := fun _ H' => Q .non H', rt := Q } (start N vs) H
theorem DefAt.cl {x : Str} {st : Stmt} {ps N : List Str} {k : Nat} {sp : Sp} (D : DefAt K mg x st ps) (S : FnScope N ps (defScope st)) (len : ∀ vs H Q E, sp vs H Q E → vs.length = ps.length) (h : BodyOk P w K mg base N x st k sp) : Cl P w K mg base (k + 1) x ps sp [] := by
  obtain ⟨f, fd, F, g, b⟩ := D.ex
  exact ⟨f, fd, [], F.okX S len fun cdv A outer s H vs Q E hr hs => h f cdv A outer s H vs Q E hr hs, g, F.kp, b, .nil⟩
/-- a def with defaults -/
structure DefAtD (K : PySem.W.Frag) (mg : Str → Option Value) (x : Str) (st : Stmt) (ps : List Str) (dvs : List V) : Prop where
  ex : ∃ f fd, FunD K x x (defArgs st) (defBody st) (defScope st) dvs [] f fd ∧ mg x = some (.ref f) ∧ ∀ j, j ≤ dvs.length → ∃ ds, Vals (dvs.drop j) ds ∧ Binds K fd ps ds
theorem DefAtD.cl {x : Str} {st : Stmt} {ps N : List Str} {k : Nat} {sp : Sp} {dvs : List V} (D : DefAtD K mg x st ps dvs) (j : Nat) (hj : j ≤ dvs.length) (S : FnScope N ps (defScope st)) (len : ∀ vs H Q E, sp vs H Q E → vs.length = ps.length)
    (h : BodyOk P w K mg base N x st k sp) : Cl P w K mg base (k + 1) x ps sp (dvs.drop j) := by
  obtain ⟨f, fd, F, g, b⟩ := D.ex
  obtain ⟨ds, hd, hb⟩ := b j hj
  exact ⟨f, fd, ds, F.ok S len fun cdv A outer s H vs Q E hr hs => h f cdv A outer s H vs Q E hr hs, g, F.kp, hb, hd⟩
theorem fun_ok {x qual : Str} {st : Stmt} {f : Addr} {fd : FuncData} {ps N : List Str} {k : Nat} {sp : Sp} (F : Fun K x qual st f fd) (S : FnScope N ps (defScope st)) (len : ∀ vs H Q E, sp vs H Q E → vs.length = ps.length) (h : BodyOk P w K mg base N qual st k sp) :
    FnOk P w K mg base (L2.CX P w) (k + 1) f fd ps sp := F.okX S len fun cdv A outer s H vs Q E hr hs => h f cdv A outer s H vs Q E hr hs
end
/-! ### calls -/
section
variable {X : Cx} {k j : Nat} {x m : Str} {ps : List Str} {sp : Sp} {dvs : List V} {e o : Expr} {es : List Expr} {t : TA} {ta : TE} {p pos apos : Pos} {W : WX} {C : Addr}
theorem run_dv {f : Addr} {fd : FuncData} {ds : List Value} {pins : List (Addr × Obj)} {σ : L2.St} {H : Hp} {s : Shared} {Q : VK} {us : List Value} {vs : List V} (F : FnOk X.prog X.w X.K X.mg X.base (L2.CX X.prog X.w) k f fd ps sp) (hr : Room k X.A) (hb : Binds X.K fd ps ds) (hd : Vals dvs ds)
    (tk : Takes X W) (I : Inv X pins σ H s) (r : Vals vs us) (h : sp (vs ++ dvs) H Q (WE W σ)) : wpAny (model X.prog X.w) X.A (call (.ref f) us) (EP X pins σ Q) X.xe s := by
  have r2 := r.append hd
  have hl : (us ++ ds).length = ps.length := by rw [← r2.length]; exact F.len _ _ _ _ h
  refine wpAny_call (codeAny_mono (F.run X.A X.stack s H ⟨us, []⟩ (us ++ ds) (vs ++ dvs) Q (WE W σ) hr I.env0 (hb s us I.kIn hl) r2 h) fun y s' hq => ?_)
  match y, hq with
  | .error e, hq => exact passAt tk σ pins H s e s' I hq
  | .ok (.ret u), hq => exact I.after hq
def tF (sp : Sp) (dvs : List V) (W : WX) (t : TA) : TE := fun σ H Q => t σ H fun vs H1 => sp (vs ++ dvs) H1 Q (WE W σ)
theorem pe_f (c : Cl X.prog X.w X.K X.mg X.base k x ps sp dvs) (tk : Takes X W) (hr : Room j X.A) (hk : k ≤ j) (hg : Gl X x) (ha : PA X (e :: es) t) (hdb : (x == ("__debug__" : Str)) = false := by decide)
    (he : starEach (e :: es) X.env = (false, eval e X.env) :: starEach es X.env := by rfl) (hpl : (backTo pos (starEach es X.env)).any (·.1) = false := by rfl) : PE X (.Call (.Name x p) (e :: es) [] pos) (tF sp dvs W t) := by
  obtain ⟨f, fd, ds, F, hm, hkp, hb, hd⟩ := c.ex
  exact ⟨fun pins s σ H Q I h => wpAny_Call_Name_kw (ld_glob I hg hm (PySem.W.callWith_K (h₀ := X.base) I.ok.mod.kin hkp (thn (ha.run pos pins s σ H _ I h) fun us s1 ⟨vs, H1, I1, r, q⟩ => ⟨I1.kIn, run_dv F (hr.mono hk) hb hd tk I1 r q⟩) he hpl) hdb)⟩
/-- a method of the class at C -/
structure Mt (P : Program) (w : World) (K : PySem.W.Frag) (mg : Str → Option Value) (base : Heap) (k : Nat) (C : Addr) (m : Str) (ps : List Str) (sp : Sp) (dvs : List V) : Prop where
  cl : Cls K C
  ex : ∃ f fd ds, Meth K C m f ∧ FnOk P w K mg base (L2.CX P w) k f fd ps sp ∧ Binds K fd ps ds ∧ Vals dvs ds
def tM (C : Addr) (m : Str) (sp : Sp) (dvs : List V) (W : WX) (ta : TE) (t : TA) : TE := fun σ H Q => ta σ H fun x H1 => ∃ a dx fs, x = .ref a ∧ H1 a = some (.ins C dx fs) ∧ fs.lookup m = none ∧ t σ H1 fun vs H2 => sp (x :: (vs ++ dvs)) H2 Q (WE W σ)
theorem pe_mf {pl : Sem Bool} (c : Mt X.prog X.w X.K X.mg X.base k C m ps sp dvs) (tk : Takes X W) (hr : Room j X.A) (hk : k ≤ j) (he : PE X o ta) (ha : PA X (e :: es) t)
    (hst : starEach (e :: es) X.env = (false, eval e X.env) :: starEach es X.env := by rfl) (hpl : (backTo pos (starEach es X.env)).any (·.1) = false := by rfl)
    (ht : eval (.Call (.Attribute o m apos) (e :: es) [] pos) X.env = (do
      let v ← eval o X.env
      standAt apos.atName
      let (g, first) ← holding [v] (getMethod v m pl)
      callWith pos g first (backTo pos (starEach (e :: es) X.env)) (backToKw pos (keywordEach [] X.env))) := by rfl) :
    PE X (.Call (.Attribute o m apos) (e :: es) [] pos) (tM C m sp dvs W ta t) := by
  obtain ⟨f, fd, ds, hm, F, hb, hd⟩ := c.ex
  refine ⟨fun pins s σ H Q I h => PySem.W.methodCall_KW (pl := pl) (thn (he.run pins s σ H _ I h) fun u s1 ⟨x, H1, I1, rx, a, dx, fs, ex, ea, l, q⟩ => ?_) ht⟩
  subst ex
  obtain rfl : u = Value.ref a := rx
  refine getmeth_ok I1 ea c.cl hm l ?_
  refine PySem.W.callWith_K (h₀ := X.base) I1.ok.mod.kin hm.kp (thn (ha.run pos pins s1 σ H1 _ I1 q) fun us s2 ⟨vs, H2, I2, r, q2⟩ => ⟨I2.kIn, ?_⟩) hst hpl
  exact run_dv (vs := .ref a :: vs) F (hr.mono hk) hb hd tk I2 (.cons rfl r) q2
/-- a new instance of the class x at C -/
structure Mkr (P : Program) (w : World) (K : PySem.W.Frag) (mg : Str → Option Value) (base : Heap) (k : Nat) (x : Str) (C : Addr) (ps : List Str) (sp : Sp) : Prop where
  gC : mg x = some (.ref C)
  ex : ∃ f fd, Mk K C f ∧ FnOk P w K mg base (L2.CX P w) k f fd ps sp ∧ Binds K fd ps []
theorem pe_mkf (c : Mkr X.prog X.w X.K X.mg X.base k x C ps sp) (hr : Room j X.A) (hk : k + 1 ≤ j) (hg : Gl X x) (ha : PA X (e :: es) t) (hdb : (x == ("__debug__" : Str)) = false := by decide)
    (he : starEach (e :: es) X.env = (false, eval e X.env) :: starEach es X.env := by rfl) (hpl : (backTo pos (starEach es X.env)).any (·.1) = false := by rfl) : PE X (.Call (.Name x p) (e :: es) [] pos) (tMake C sp [] E0 t) := by
  obtain ⟨f, fd, M, F, hb⟩ := c.ex
  exact pe_make M F (hr.mono hk) hg c.gC hb .nil passL ha hdb he hpl
/-- an own error made by C(e, ..) -/
structure Mke (P : Program) (w : World) (K : PySem.W.Frag) (mg : Str → Option Value) (base : Heap) (k : Nat) (x : Str) (C : Addr) (ps : List Str) (sp : Sp) : Prop where
  gC : mg x = some (.ref C)
  ox : OexC K C
  ex : ∃ f fd, PySem.W.findIn K (.ref C) "__init__" = some (some (.ref f)) ∧ PySem.W.typeIn K (.ref f) = some (.type "function") ∧ FnOk P w K mg base (L2.CX P w) k f fd ps sp ∧ Binds K fd ps []
theorem pmk_err (c : Mke X.prog X.w X.K X.mg X.base k x C ps sp) (hr : Room j X.A) (hk : k + 1 ≤ j) (hg : Gl X x) (ha : PA X (e :: es) t) (hdb : (x == ("__debug__" : Str)) = false := by decide)
    (he : starEach (e :: es) X.env = (false, eval e X.env) :: starEach es X.env := by rfl) (hpl : (backTo pos (starEach es X.env)).any (·.1) = false := by rfl) : PMk X (.Call (.Name x p) (e :: es) [] pos) (tMkO C sp [] t) := by
  obtain ⟨f, fd, hi, ht, F, hb⟩ := c.ex
  exact pmk_oex c.ox hi ht F (hr.mono hk) hb .nil passL hg c.gC ha hdb he hpl
end
/-! ### what is frozen: F, a part of the heap that stays; m: what may be changed -/
structure Stm (m : Addr → Prop) (F H F' H' : Hp) : Prop where
  ff : Same F F'
  fh : Same F' H'
  hh : ∀ a o, ¬ m a → H a = some o → H' a = some o
  nw : ∀ a, F a = none → H a ≠ none → F' a = none
abbrev Stp := Stm (fun _ => False)
section
variable {m m' : Addr → Prop} {F H F' H' F2 H2 : Hp} {p : Addr} {o : HO}
theorem Stm.refl (h : Same F H) : Stm m F H F H := ⟨Same.refl F, h, fun _ _ _ e => e, fun _ n _ => n⟩
theorem Stm.mono (a : Stm m F H F' H') (h : ∀ x, m x → m' x) : Stm m' F H F' H' := ⟨a.ff, a.fh, fun x o n e => a.hh x o (fun z => n (h x z)) e, a.nw⟩
theorem Stm.any (a : Stp F H F' H') : Stm m F H F' H' := a.mono fun _ z => z.elim
theorem Stm.same (a : Stp F H F' H') : Same H H' := fun x o e => a.hh x o (fun z => z) e
theorem Stm.there (a : Stm m F H F' H') (hm : ∀ x, m x → H x ≠ none → H' x ≠ none) {x : Addr} (h : H x ≠ none) : H' x ≠ none := by
  by_cases q : m x
  · exact hm x q h
  · cases e : H x with
    | none => exact absurd e h
    | some o => rw [a.hh x o q e]; exact fun z => nomatch z
theorem Stm.trans (a : Stm m F H F' H') (b : Stm m F' H' F2 H2) (hm : ∀ x, m x → H x ≠ none → H' x ≠ none) : Stm m F H F2 H2 :=
  ⟨a.ff.trans b.ff, b.fh, fun x o n e => b.hh x o n (a.hh x o n e), fun q n z => b.nw q (a.nw q n z) (a.there hm z)⟩
theorem Stm.transP (a : Stp F H F' H') (b : Stp F' H' F2 H2) : Stp F H F2 H2 := a.trans b fun _ z => z.elim
theorem same_new (h : H p = none) : Same H (upd H p o) := fun b u e => by rw [upd_ne (ne_of_none e h)]; exact e
/-- a new thing is laid, and frozen at once -/
theorem Stm.new (a : Stm m F H F' H') (hp : H' p = none) (h0 : H p = none) : Stm m F H (upd F' p o) (upd H' p o) where
  ff := a.ff.trans (same_new (a.fh.free hp))
  fh := fun b u e => by
    by_cases hb : b = p
    · subst hb; rw [upd_same] at e ⊢; exact e
    · rw [upd_ne hb] at e ⊢; exact a.fh b u e
  hh := fun x u n e => by rw [upd_ne (ne_of_none e h0)]; exact a.hh x u n e
  nw := fun x n z => by rw [upd_ne (fun q => z (by rw [q]; exact h0))]; exact a.nw x n z
/-- a new thing is laid that is to be changed further -/
theorem Stm.raw (a : Stm m F H F' H') (hp : H' p = none) (h0 : H p = none) : Stm m F H F' (upd H' p o) := ⟨a.ff, a.fh.trans (same_new hp), fun x u n e => by rw [upd_ne (ne_of_none e h0)]; exact a.hh x u n e, a.nw⟩
/-- a thing of the def's own is changed -/
theorem Stm.mut (a : Stm m F H F' H') (hf : F' p = none) (h0 : H p = none) : Stm m F H F' (upd H' p o) := ⟨a.ff, fun b u e => by rw [upd_ne (ne_of_none e hf)]; exact a.fh b u e, fun x u n e => by rw [upd_ne (ne_of_none e h0)]; exact a.hh x u n e, a.nw⟩
/-- a thing of the def's own stays from now on -/
theorem Stm.freeze (a : Stm m F H F' H') (hf : F' p = none) (h0 : H p = none) (e : H' p = some o) : Stm m F H (upd F' p o) H' where
  ff := a.ff.trans (same_new hf)
  fh := fun b u q => by
    by_cases hb : b = p
    · subst hb; rw [upd_same] at q; rw [e]; exact q
    · rw [upd_ne hb] at q; exact a.fh b u q
  hh := a.hh
  nw := fun x n z => by rw [upd_ne (fun q => z (by rw [q]; exact h0))]; exact a.nw x n z
/-- fresh now is fresh at the start, where what may change is there -/
theorem Stm.fresh (a : Stm m F H F' H') (hm : ∀ x, m x → H' x ≠ none) {x : Addr} (h : H' x = none) : H x = none := by
  by_cases q : m x
  · exact absurd h (hm x q)
  · cases e : H x with
    | none => rfl
    | some o => rw [a.hh x o q e] at h; cases h
theorem Stm.freshP (a : Stp F H F' H') {x : Addr} (h : H' x = none) : H x = none := a.fresh (fun _ z => z.elim) h
theorem Stm.newP (a : Stp F H F' H') (hp : H' p = none) : Stp F H (upd F' p o) (upd H' p o) := a.new hp (a.freshP hp)
theorem stp_new (h : Same F H) (hp : H p = none) : Stp F H (upd F p o) (upd H p o) := (Stm.refl h).newP hp
end
theorem upT {K : PySem.W.Frag} {H H' : Hp} {a : Addr} {xs : List V} (e : Same H H') (h : SqT K H a xs) : SqT K H' a xs := h.ext e
theorem upL {K : PySem.W.Frag} {H H' : Hp} {a : Addr} {xs : List V} (e : Same H H') (h : SqL K H a xs) : SqL K H' a xs := h.ext e
theorem sq_new {K : PySem.W.Frag} {H : Hp} {p : Addr} {xs : List V} : SqT K (upd H p (.tup xs)) p xs := SqT.of upd_same
/-- what a def promises that changes nothing: a part of the heap stays, the answer stands in it -/
def Pu (F H : Hp) (Q : VK) (post : Hp → V → Prop) : Prop := Same F H ∧ ∀ F' H' v, Stp F H F' H' → post F' v → Q v H'
theorem iteY {c A B : Prop} [Decidable c] (h : c) (x : A) : if c then A else B := by rw [if_pos h]; exact x
theorem iteN {c A B : Prop} [Decidable c] (h : ¬ c) (x : B) : if c then A else B := by rw [if_neg h]; exact x
theorem vint_ne {a b : Int} (h : a ≠ b) : ¬ decide (V.int a = V.int b) = true := fun z => h (V.int.inj (of_decide_eq_true z))
theorem vint_eq {a b : Int} (h : a = b) : decide (V.int a = V.int b) = true := decide_eq_true (congrArg V.int h)
/-! ### // by any divisor but 0 -/
def CDivX (_ j : Int) : Prop := j ≠ 0 ∧ j.natAbs.log2 < 9000
theorem op_fdivX {X : Cx} : OpR X (binaryOp .FloorDiv) (rI CDivX fun i j => .int (i.fdiv j)) := opI fun _ _ _ _ _ _ _ hc q => floordiv_int hc.1 q (.inl (PyProof.noPylong_of_log2 hc.2))
end Ew

set_option Elab.async false
set_option linter.all false
set_option maxRecDepth 100000
set_option maxHeartbeats 4000000
namespace Ew
open PySem PySem.Spec PyProof.Rows L2
/-- an error's __init__ that keeps its one argument (its two) -/
def spI1 (C : Addr) (f : Str) : Sp := fun vs H Q _ => ∃ x v, vs = [.ref x, v] ∧ H x = some (exo x C none) ∧ ∀ dx, H dx = none → dx ≠ x → Q .non (upd (upd H dx (exd dx [(f, v)])) x (exo x C (some dx)))
def spI2 (C : Addr) (f g : Str) : Sp := fun vs H Q _ => ∃ x u v, vs = [.ref x, u, v] ∧ H x = some (exo x C none) ∧
  ∀ dx, H dx = none → dx ≠ x → Q .non (upd (upd (upd H dx (exd dx [(f, u)])) x (exo x C (some dx))) dx (exd dx [(g, v), (f, u)]))
theorem back1 {H : Hp} {a d : Addr} {o1 o2 o3 o4 : HO} (ha : H a = none) (h : d ≠ a) : upd (del (upd (upd (upd H a o1) d o2) a o3) a) d o4 = upd H d o4 := by
  funext b
  by_cases e : b = d
  · subst e; rw [upd_same, upd_same]
  · rw [upd_ne e, upd_ne e]
    by_cases e2 : b = a
    · subst e2; rw [del_same, ha]
    · rw [del_ne e2, upd_ne e2, upd_ne e, upd_ne e2]
theorem back2 {H : Hp} {a d : Addr} {o1 o2 o3 o4 o5 : HO} (ha : H a = none) (h : d ≠ a) : upd (del (upd (upd (upd (upd H a o1) d o2) a o3) d o5) a) d o4 = upd H d o4 := by
  funext b
  by_cases e : b = d
  · subst e; rw [upd_same, upd_same]
  · rw [upd_ne e, upd_ne e]
    by_cases e2 : b = a
    · subst e2; rw [del_same, ha]
    · rw [del_ne e2, upd_ne e, upd_ne e2, upd_ne e, upd_ne e2]
section
variable {X : Cx} {k j : Nat} {x f g : Str} {ps : List Str} {e e2 : Expr} {te te2 : TE} {p pos pos2 : Pos} {W : WX} {C : Addr}
def tR1 (C : Addr) (f : Str) (W : WX) (te : TE) : TS := fun _ σ H => te σ H fun v H1 => ∀ d, H1 d = none → W (.ref C) (some d) σ (upd H1 d (.xd [(f, v)]))
def tR2 (C : Addr) (f g : Str) (W : WX) (te te2 : TE) : TS := fun _ σ H => te σ H fun u H1 => te2 σ H1 fun v H2 => ∀ d, H2 d = none → W (.ref C) (some d) σ (upd H2 d (.xd [(g, v), (f, u)]))
theorem ps_weak {st : Stmt} {t t' : TS} (h : PS X st t) (q : ∀ D σ H, t' D σ H → t D σ H) : PS X st t' := ⟨fun pins s σ H D I z => h.run pins s σ H D I (q D σ H z)⟩
end
/-- te says what it says of more, too -/
def TeMono (te : TE) : Prop := ∀ σ H (Q Q' : VK), (∀ v H', Q v H' → Q' v H') → te σ H Q → te σ H Q'
theorem pe_up {X : Cx} {e : Expr} {te : TE} (h : PE X e te) : PE X e fun σ H Q => ∃ Q', (∀ v H', Q' v H' → Q v H') ∧ te σ H Q' := ⟨fun pins s σ H Q I ⟨Q', q, z⟩ => thn (h.run pins s σ H Q' I z) fun _ _ ⟨v, H', I', r, y⟩ => ⟨v, H', I', r, q v H' y⟩⟩
section
variable {X : Cx} {k j : Nat} {x f g : Str} {ps : List Str} {e e2 : Expr} {te te2 : TE} {p pos pos2 : Pos} {W : WX} {C : Addr}
theorem ps_raise1 (hc : X.calm = true) (tk : Takes X W) (c : Mke X.prog X.w X.K X.mg X.base k x C ps (spI1 C f)) (hr : Room j X.A) (hk : k + 1 ≤ j) (hg : Gl X x) (he : PE X e te) (hdb : (x == ("__debug__" : Str)) = false := by decide)
    (hs : starEach [e] X.env = [(false, eval e X.env)] := by rfl) (hpl : (backTo pos (starEach ([] : List Expr) X.env)).any (·.1) = false := by rfl) : PS X (.Raise (some (.Call (.Name x p) [e] [] pos)) none pos2) (tR1 C f W te) := by
  refine ps_weak (ps_raise hc tk (pmk_err c hr hk hg (pa_cons (pe_up he) pa_nil hs) hdb hs hpl)) fun D σ H h => ⟨_, fun v H1 z => ?_, h⟩
  refine ⟨Nat.le_of_ble_eq_true rfl, fun a ha => ⟨a, v, rfl, upd_same, fun dx n ne => ⟨rfl, dx, [(f, v)], upd_same, ?_, ?_, ?_⟩⟩⟩
  · rw [upd_ne ne, upd_same]
  · rw [upd_ne ne] at n; exact n
  · rw [back1 ha ne]
    rw [upd_ne ne] at n
    exact z dx n
theorem ps_raise2 (hc : X.calm = true) (tk : Takes X W) (c : Mke X.prog X.w X.K X.mg X.base k x C ps (spI2 C f g)) (hr : Room j X.A) (hk : k + 1 ≤ j) (hg : Gl X x) (he : PE X e te) (he2 : PE X e2 te2) (hdb : (x == ("__debug__" : Str)) = false := by decide)
    (hs : starEach [e, e2] X.env = [(false, eval e X.env), (false, eval e2 X.env)] := by rfl) (hs2 : starEach [e2] X.env = [(false, eval e2 X.env)] := by rfl) (hpl : (backTo pos (starEach [e2] X.env)).any (·.1) = false := by rfl) :
    PS X (.Raise (some (.Call (.Name x p) [e, e2] [] pos)) none pos2) (tR2 C f g W te te2) := by
  have hs' : starEach [e, e2] X.env = (false, eval e X.env) :: starEach [e2] X.env := by rw [hs, hs2]
  refine ps_weak (ps_raise hc tk (pmk_err c hr hk hg (pa_cons (pe_up he) (pa_cons (pe_up he2) pa_nil hs2) hs') hdb hs' hpl)) fun D σ H h => ⟨_, fun u H1 y => ⟨_, fun v H2 z => ?_, y⟩, h⟩
  refine ⟨Nat.le_of_ble_eq_true rfl, fun a ha => ⟨a, u, v, rfl, upd_same, fun dx n ne => ⟨rfl, dx, [(g, v), (f, u)], ?_, upd_same, ?_, ?_⟩⟩⟩
  · rw [upd_ne (Ne.symm ne), upd_same]
  · rw [upd_ne ne] at n; exact n
  · rw [back2 ha ne]
    rw [upd_ne ne] at n
    exact z dx n
end
/-- what a def promises of an error that leaves it -/
def Ra (F H : Hp) (E : XK) (C : Addr) (post : Hp → Addr → Prop) : Prop := ∀ F' H' d, Stp F H F' H' → post F' d → E (.ref C) (some d) H'
theorem ty_sqT {K : PySem.W.Frag} {H : Hp} {p : Addr} {xs : List V} (h : SqT K H p xs) : TyX K H (.ref p) (.type "tuple") := by
  rcases h with (h | ⟨o, h⟩) | h
  · exact .base (.tup h)
  · exact .fTuple h
  · obtain ⟨o, its, n, e, c, _⟩ := h
    exact .kTuple e c
theorem ty_sqL {K : PySem.W.Frag} {H : Hp} {p : Addr} {xs : List V} (h : SqL K H p xs) : TyX K H (.ref p) (.type "list") := by
  rcases h with (h | ⟨o, h⟩) | h
  · exact .base (.lst h)
  · exact .base (.frz h)
  · obtain ⟨o, its, n, e, c, _⟩ := h
    exact .kList e c
end Ew

set_option Elab.async false
set_option linter.all false
set_option maxRecDepth 100000
set_option maxHeartbeats 4000000
namespace Ew
open PySem PySem.Spec PyProof.Rows L2
/-- what may be changed (m), and what stays true of it (I) -/
structure Mem (m : Addr → Prop) (I : Hp → Hp → Prop) : Prop where
  there : ∀ {F H x}, I F H → m x → H x ≠ none
  off : ∀ {F H x}, I F H → m x → F x = none
  put : ∀ {F H p o}, I F H → ¬ m p → I F (upd H p o)
  grow : ∀ {F F' H}, I F H → Same F F' → (∀ x, m x → F' x = none) → I F' H
theorem memP : Mem (fun _ => False) (fun _ _ => True) := ⟨fun _ z => z.elim, fun _ z => z.elim, fun _ _ => trivial, fun _ _ _ => trivial⟩
section
variable {m : Addr → Prop} {I : Hp → Hp → Prop} {F H F' H' F2 H2 : Hp} {J : It} {n : Nat} {G : Hp → Prop} {Y : Nat → Hp → V → Hp → Prop}
theorem Stm.then (M : Mem m I) (i : I F' H') (a : Stm m F H F' H') (b : Stm m F' H' F2 H2) : Stm m F H F2 H2 := a.trans b fun _ z _ => M.there i z
/-- a comprehension: each turn gives one item, of which R says what is wanted; the new list is frozen at the end -/
theorem lcM (M : Mem m I) (w : Walk J n G Y) {g : TG} {tt : TT} {te : TE} {vs : List Nat} {σ : L2.St} {D : Addr} {Qd : Hp → Prop} (hf : Same F H) (i0 : I F H) (hD : H D = none) (R : Nat → Hp → V → Prop) (hR : ∀ i F F' y, Same F F' → R i F y → R i F' y)
    (hn : n ≤ 1000000) (hG : ∀ F' H', Same F F' → Same F' H' → G H')
    (hs : ∀ i x F' H' H'' (Kt : VK) (Kn : Hp → Prop), i < n → Stm m F H F' H' → I F' H' → Y i H' x H'' → (∀ y F4 H4, Stm m F' H' F4 H4 → I F4 H4 → R i F4 y → Kt y H4) →
      g x (wipe σ vs) H'' fun σ2 H2 => wipe σ2 vs = wipe σ vs ∧ tt σ2 H2 fun b H3 => if b = true then te σ2 H3 Kt else Kn H3)
    (hd : ∀ F' H' ys, Stm m F H F' H' → I F' H' → F' D = some (.lst ys) → ys.length = n → (∀ j y, ys[j]? = some y → R j F' y) → Qd H') :
    ∃ W : Nat → Nat → Hp → Prop, (∃ k, W 0 k (upd H D (.lst []))) ∧ ∀ i k H, W i k H →
      (J.stop i H ∧ Qd H) ∨ (J.go i H ∧ ∃ Nx : Hp → Prop, (∀ H', Nx H' → ∃ k', k' < k ∧ W (i + 1) k' H') ∧ ∀ x H', J.yld i H x H' → g x (wipe σ vs) H' fun σ2 H2 => wipe σ2 vs = wipe σ vs ∧ tt σ2 H2 fun b H3 =>
        if b = true then te σ2 H3 fun y H4 => ∃ acc, H4 D = some (.lst acc) ∧ acc.length < sizeLine ∧ Nx (upd H4 D (.lst (acc ++ [y]))) else Nx H3) := by
  have nm : ¬ m D := fun z => M.there i0 z hD
  have fD : F D = none := hf.free hD
  refine lc_it w (fun i H' => ∃ F' acc, Stm m F H F' H' ∧ I F' H' ∧ F' D = none ∧ H' D = some (.lst acc) ∧ acc.length = i ∧ ∀ j y, acc[j]? = some y → R j F' y) ?_ ?_ ?_ ?_
  · exact ⟨F, [], (Stm.refl hf).raw hD hD, M.put i0 nm, fD, upd_same, rfl, fun j y z => by simp at z⟩
  · rintro i H' _ ⟨F', acc, s, _⟩
    exact hG F' H' s.ff s.fh
  · rintro i x H' H'' hi ⟨F', acc, s, iv, f', h', hl, hr⟩ y
    refine hs i x F' H' H'' _ _ hi s iv y fun y F4 H4 s4 i4 r4 => ?_
    have f4 : F4 D = none := s4.nw D f' (by rw [h']; exact fun z => nomatch z)
    have h4 : H4 D = some (.lst acc) := s4.hh D _ nm h'
    refine ⟨acc, h4, by rw [sizeLine_eq]; omega, F4, acc ++ [y], (s.then M iv s4).mut f4 hD, M.put i4 nm, f4, upd_same, by rw [List.length_append, hl]; rfl, fun j z hz => ?_⟩
    rcases Nat.lt_or_ge j acc.length with hj | hj
    · rw [List.getElem?_append_left hj] at hz
      exact hR j F' F4 z s4.ff (hr j z hz)
    · rw [List.getElem?_append_right hj] at hz
      have e0 : j - acc.length = 0 := by
        rcases Nat.eq_zero_or_pos (j - acc.length) with h0 | h0
        · exact h0
        · rw [List.getElem?_eq_none (by simp; omega)] at hz; cases hz
      rw [e0] at hz
      cases hz
      have ej : j = i := by omega
      rw [ej]
      exact r4
  · rintro H' ⟨F', acc, s, iv, f', h', hl, hr⟩
    refine hd (upd F' D (.lst acc)) H' acc (s.freeze f' hD h') (M.grow iv (same_new f') fun x hx => ?_) upd_same hl fun j y hy => hR j F' _ y (same_new f') (hr j y hy)
    rw [upd_ne (fun z => nm (by rw [← z]; exact hx))]
    exact M.off iv hx
theorem lc_yes {te : TE} {σ : L2.St} {H : Hp} {Kt : VK} {Kn : Hp → Prop} (h : te σ H Kt) : tYes σ H fun b H3 => if b = true then te σ H3 Kt else Kn H3 := by
  show if true = true then te σ H Kt else Kn H
  rw [if_pos rfl]
  exact h
end
end Ew

set_option Elab.async false
set_option linter.all false
set_option maxRecDepth 100000
set_option maxHeartbeats 4000000
namespace Ew
open PySem PySem.Spec PyProof.Rows L2
/-- a tuple of ints as data -/
def intT (ds : List Int) : PyData := .tuple (ds.map .int)
theorem dpAll_ints {K : PySem.W.Frag} {H : Hp} : ∀ ds : List Int, DpAll K H (ds.map V.int) (ds.map PyData.int)
  | [] => .nil
  | d :: ds => .cons (.int d) (dpAll_ints ds)
theorem dp_ints {K : PySem.W.Frag} {H : Hp} {p : Addr} {ds : List Int} (h : SqT K H p (ds.map V.int)) : Dp K H (.ref p) (intT ds) := .tup h (dpAll_ints ds)
theorem eqvAll_ints : ∀ a b : List Int, PyData.eqvAll (a.map .int) (b.map .int) = decide (a = b)
  | [], [] => rfl
  | [], y :: b => rfl
  | x :: a, [] => rfl
  | x :: a, y :: b => by
    rw [List.map_cons, List.map_cons, PyData.eqvAll, PyData.eqv, eqvAll_ints a b]
    by_cases h : x = y
    · subst h; by_cases h2 : a = b <;> simp [h2]
    · simp [h]
theorem eqv_ints (a b : List Int) : PyData.eqv (intT a) (intT b) = decide (a = b) := by
  unfold intT
  rw [PyData.eqv, eqvAll_ints]
theorem lay_ints : ∀ ds : List Int, PyData.canLayAll0 (ds.map PyData.int) = true
  | [] => by rw [List.map_nil, PyData.canLayAll0]
  | d :: ds => by rw [List.map_cons, PyData.canLayAll0, lay_ints ds, PyData.canLay0, Bool.and_self]
theorem dep_ints : ∀ ds : List Int, PyData.depthAll (ds.map PyData.int) = 0
  | [] => by rw [List.map_nil, PyData.depthAll]
  | d :: ds => by rw [List.map_cons, PyData.depthAll, dep_ints ds, PyData.depth, Nat.max_self]
theorem shaped_ints (ds : List Int) : SeqAt.shaped (intT ds) = true := by
  unfold SeqAt.shaped intT
  rw [PyData.canLay0, lay_ints, PyData.depth, dep_ints]
  rfl
/-! ### ratios -/
/-- at v a pair of ints; a tuple of ints -/
def Rt (K : PySem.W.Frag) (F : Hp) (v : V) (r : Int × Int) : Prop := ∃ p, v = .ref p ∧ SqT K F p [.int r.1, .int r.2]
def Dm (K : PySem.W.Frag) (F : Hp) (v : V) (ds : List Int) : Prop := ∃ p, v = .ref p ∧ SqT K F p (ds.map V.int)
section
variable {K : PySem.W.Frag} {F F' : Hp} {v : V} {r : Int × Int} {ds : List Int}
theorem Rt.up (h : Rt K F v r) (e : Same F F') : Rt K F' v r := by obtain ⟨p, h1, h2⟩ := h; exact ⟨p, h1, upT e h2⟩
theorem Dm.up (h : Dm K F v ds) (e : Same F F') : Dm K F' v ds := by obtain ⟨p, h1, h2⟩ := h; exact ⟨p, h1, upT e h2⟩
theorem Rt.dp (h : Rt K F v r) : Dp K F v (intT [r.1, r.2]) := by obtain ⟨p, rfl, h2⟩ := h; exact dp_ints h2
theorem Dm.dp (h : Dm K F v ds) : Dp K F v (intT ds) := by obtain ⟨p, rfl, h2⟩ := h; exact dp_ints h2
end
/-- the common divisor, with the sign of d -/
def com (n d : Int) : Int := if d < 0 then -((Nat.gcd n.natAbs d.natAbs : Nat) : Int) else ((Nat.gcd n.natAbs d.natAbs : Nat) : Int)
/-- n / d in lowest terms -/
def rat (n d : Int) : Int × Int := (n.fdiv (com n d), d.fdiv (com n d))
/-- size: below 2 ^ b -/
def Sz (b : Nat) (n : Int) : Prop := n.natAbs < 2 ^ b
theorem Sz.mono {a b : Nat} {n : Int} (h : Sz a n) (k : a ≤ b) : Sz b n := Nat.lt_of_lt_of_le h (Nat.pow_le_pow_right (by decide) k)
theorem Sz.log {b : Nat} {n : Int} (h : Sz b n) (h0 : 0 < b) (k : b ≤ 9000) : n.natAbs.log2 < 9000 := Nat.lt_of_lt_of_le (PySem.Flt.log2_lt_of h0 h) k
theorem Sz.mul {a b : Nat} {m n : Int} (h : Sz a m) (k : Sz b n) : Sz (a + b) (m * n) := wide_lt h k
theorem Sz.add {a : Nat} {m n : Int} (h : Sz a m) (k : Sz a n) : Sz (a + 1) (m + n) := by
  unfold Sz at *
  have := Int.natAbs_add_le m n
  rw [Nat.pow_succ]
  omega
theorem Sz.sub {a : Nat} {m n : Int} (h : Sz a m) (k : Sz a n) : Sz (a + 1) (m - n) := by
  unfold Sz at *
  rw [Nat.pow_succ]
  omega
theorem Sz.neg {a : Nat} {m : Int} (h : Sz a m) : Sz a (-m) := by
  unfold Sz at *
  rwa [Int.natAbs_neg]
theorem com_ne {n d : Int} (h : d ≠ 0) : com n d ≠ 0 := by
  have g : 0 < Nat.gcd n.natAbs d.natAbs := Nat.gcd_pos_of_pos_right _ (by omega)
  unfold com
  split <;> omega
theorem com_abs (n d : Int) : (com n d).natAbs = Nat.gcd n.natAbs d.natAbs := by
  unfold com
  split <;> simp
theorem com_sz {n d : Int} {b : Nat} (h0 : d ≠ 0) (h : Sz b d) : Sz b (com n d) := by
  unfold Sz
  rw [com_abs]
  exact Nat.lt_of_le_of_lt (Nat.gcd_le_right _ (by omega)) h
theorem com_dn (n d : Int) : com n d ∣ n := by
  rw [← Int.natAbs_dvd_natAbs, com_abs]
  exact Nat.gcd_dvd_left _ _
theorem com_dd (n d : Int) : com n d ∣ d := by
  rw [← Int.natAbs_dvd_natAbs, com_abs]
  exact Nat.gcd_dvd_right _ _
theorem fdiv_abs {n c : Int} (h : c ∣ n) : (n.fdiv c).natAbs = n.natAbs / c.natAbs := by
  obtain ⟨k, rfl⟩ := h
  by_cases h0 : c = 0
  · subst h0; simp
  · rw [Int.mul_fdiv_cancel_left _ h0, Int.natAbs_mul, Nat.mul_div_cancel_left _ (by omega)]
theorem Sz.fdiv {n c : Int} {b : Nat} (h : Sz b n) (hd : c ∣ n) : Sz b (n.fdiv c) := by
  unfold Sz
  rw [fdiv_abs hd]
  exact Nat.lt_of_le_of_lt (Nat.div_le_self _ _) h
theorem rat_sz {n d : Int} {b : Nat} (h1 : Sz b n) (h2 : Sz b d) : Sz b (rat n d).1 ∧ Sz b (rat n d).2 := ⟨h1.fdiv (com_dn n d), h2.fdiv (com_dd n d)⟩
theorem rat_pos {n d : Int} (h : d ≠ 0) : 0 < (rat n d).2 := by
  show 0 < d.fdiv (com n d)
  have g : 0 < Nat.gcd n.natAbs d.natAbs := Nat.gcd_pos_of_pos_right _ (by omega)
  obtain ⟨k, hk⟩ := com_dd n d
  have hc := com_ne (n := n) h
  have e : d.fdiv (com n d) = k := by
    conv => lhs; lhs; rw [hk]
    rw [Int.mul_fdiv_cancel_left _ hc]
  rw [e]
  unfold com at hk
  split at hk
  · rename_i hd
    rcases Int.lt_trichotomy k 0 with q | q | q
    · have : 0 < -((Nat.gcd n.natAbs d.natAbs : Nat) : Int) * k := Int.mul_pos_of_neg_of_neg (by omega) q
      omega
    · subst q; simp at hk; omega
    · exact q
  · rename_i hd
    rcases Int.lt_trichotomy k 0 with q | q | q
    · have : ((Nat.gcd n.natAbs d.natAbs : Nat) : Int) * k < 0 := Int.mul_neg_of_pos_of_neg (by omega) q
      omega
    · subst q; simp at hk; omega
    · exact q
theorem rat_cop {n d : Int} (h : d ≠ 0) : Nat.gcd (rat n d).1.natAbs (rat n d).2.natAbs = 1 := by
  show Nat.gcd (n.fdiv (com n d)).natAbs (d.fdiv (com n d)).natAbs = 1
  rw [fdiv_abs (com_dn n d), fdiv_abs (com_dd n d), com_abs]
  exact Nat.gcd_div_gcd_div_gcd_of_pos_right (by omega)
end Ew

set_option Elab.async false
set_option linter.all false
set_option maxRecDepth 100000
set_option maxHeartbeats 4000000
namespace Ew
open PySem PySem.Spec PyProof.Rows L2
/-- a static method m of the class at C: what stands at p holds the def at g -/
structure StM (K : PySem.W.Frag) (C : Addr) (mc : Value) (m : Str) (p g : Addr) : Prop where
  rd : ClX.CRead K C mc
  off : PySem.W.findCls K (.ref C) mc m = some (.get (.builtin "staticmethod.__get__") (.ref p) .none (.ref C))
  rc : ∃ rest, PySem.W.recIn K p "staticmethod" = some (.ref g :: rest)
  kp : PySem.W.keepIn K (.ref g) = true
  pg : PySem.W.plainGet K C Str.empty = true
  ic : PySem.W.isClsIn K C = true
  at_ : PySem.W.findIn K (.ref C) m = some (some (.ref p))
  ty : PySem.W.typeIn K (.ref p) = some (.type "staticmethod")
  gt : PySem.W.specialIn K (.ref p) "__get__" = some (some (.builtin "staticmethod.__get__"))
  tk : PySem.W.takesIn K (.ref p) = some false
  cp : PySem.W.copiedNames.contains m = false
section
variable {X : Cx} {pins : List (Addr × Obj)} {σ : L2.St} {H : Hp} {s : Shared} {b C p g : Addr} {mc : Value} {m : Str} {A : Around} {E : Value → Shared → Prop}
theorem sm_off {pl : Sem Bool} {Q : Value × List Value → Shared → Prop} (I : Inv X pins σ H s) (k : StM X.K C mc m p g) (h : ∀ s', Inv X pins σ H s' → Q (.ref g, []) s') : wpAny (model X.prog X.w) A (getMethod (.ref C) m pl) Q E s := by
  obtain ⟨rest, hp⟩ := k.rc
  exact PySem.W.method_cls I.kIn k.rd.ga (PySem.W.cls_bind I.kIn k.rd.rd k.off (wpAny_call (PySem.W.sm_get (s := { s with toks := s.toks + 1 }) I.kIn hp (PySem.W.handed_on rfl (h _ (I.tok _))))))
theorem sm_on {pl : Sem Bool} {ox od : Obj} {Q : Value × List Value → Shared → Prop} (I : Inv X pins σ H s) (J : PySem.W.InstAt s.heap b ox C (some od)) (hl : PySem.W.lookIn m od = some none) (k : StM X.K C mc m p g)
    (h : ∀ s', Inv X pins σ H s' → Q (.ref g, []) s') : wpAny (model X.prog X.w) A (getMethod (.ref b) m pl) Q E s := by
  obtain ⟨rest, hp⟩ := k.rc
  have pg : PySem.W.plainGet X.K C m = true := k.pg
  refine PySem.W.method_usual (r := some (.ref p)) I.kIn J (PySem.W.plainGet_of pg).1 (PySem.W.plainGet_of pg).2 k.at_ ?_ (PySem.W.get_bind I.kIn J (PySem.W.plainGet_of pg).1 (ClX.find_cm k.ic k.at_ k.gt k.tk k.cp hl) (PySem.W.plainGet_of pg).2
    (wpAny_call (PySem.W.sm_get (s := { s with toks := s.toks + 1 }) I.kIn hp (PySem.W.handed_on rfl (h _ (I.tok _))))))
  rw [Option.all_some, k.ty]
  decide +kernel
variable {k j : Nat} {fd : FuncData} {ps : List Str} {sp : Sp} {e o : Expr} {es : List Expr} {t : TA} {ta : TE} {pos apos : Pos} {W : WX}
/-- C.m(e, ..), o.m(e, ..), m a static method -/
structure Sm (P : Program) (w : World) (K : PySem.W.Frag) (mg : Str → Option Value) (base : Heap) (k : Nat) (C : Addr) (m : Str) (ps : List Str) (sp : Sp) : Prop where
  ex : ∃ mc p g fd, StM K C mc m p g ∧ FnOk P w K mg base (L2.CX P w) k g fd ps sp ∧ Binds K fd ps []
def tSm (K : PySem.W.Frag) (C : Addr) (m : Str) (sp : Sp) (W : WX) (ta : TE) (t : TA) : TE := fun σ H Q => ta σ H fun x H1 => (x = .ref C ∨ ∃ b dx fs, x = .ref b ∧ H1 b = some (.ins C dx fs) ∧ fs.lookup m = none) ∧ t σ H1 fun vs H2 => sp vs H2 Q (WE W σ)
theorem pe_sm {pl : Sem Bool} (c : Sm X.prog X.w X.K X.mg X.base k C m ps sp) (tk : Takes X W) (hr : Room j X.A) (hk : k ≤ j) (he : PE X o ta) (ha : PA X (e :: es) t)
    (hst : starEach (e :: es) X.env = (false, eval e X.env) :: starEach es X.env := by rfl) (hpl : (backTo pos (starEach es X.env)).any (·.1) = false := by rfl)
    (ht : eval (.Call (.Attribute o m apos) (e :: es) [] pos) X.env = (do
      let v ← eval o X.env
      standAt apos.atName
      let (g, first) ← holding [v] (getMethod v m pl)
      callWith pos g first (backTo pos (starEach (e :: es) X.env)) (backToKw pos (keywordEach [] X.env))) := by rfl) :
    PE X (.Call (.Attribute o m apos) (e :: es) [] pos) (tSm X.K C m sp W ta t) := by
  obtain ⟨mc, p, g, fd, S, F, hb⟩ := c.ex
  refine ⟨fun pins s σ H Q I h => PySem.W.methodCall_KW (pl := pl) (thn (he.run pins s σ H _ I h) fun u s1 ⟨x, H1, I1, rx, ex, q⟩ => ?_) ht⟩
  have go : ∀ s', Inv X pins σ H1 s' → wpAny (model X.prog X.w) X.A (callWith pos (.ref g) [] (backTo pos (starEach (e :: es) X.env)) (backToKw pos (keywordEach [] X.env))) (EP X pins σ Q) X.xe s' := fun s' I' =>
    PySem.W.callWith_K (h₀ := X.base) I'.ok.mod.kin S.kp (thn (ha.run pos pins s' σ H1 _ I' q) fun us s2 ⟨vs, H2, I2, r, q2⟩ => ⟨I2.kIn, run_dv F (hr.mono hk) hb .nil tk I2 r (by rw [List.append_nil]; exact q2)⟩) hst hpl
  rcases ex with rfl | ⟨b, dx, fs, rfl, eb, l⟩
  · obtain rfl : u = Value.ref C := rx
    exact sm_off I1 S fun s' I' => go s' I'
  · obtain rfl : u = Value.ref b := rx
    obtain ⟨mA, O, rr, _, _, _⟩ := ins_get I1.hok eb
    obtain ⟨od, J, hl⟩ := O.look
    have hn : mA m = none := RelO.none_of (by rw [← l]; exact rr m)
    exact sm_on I1 J (by rw [hl m, hn]) S fun s' I' => go s' I'
end
/-! ### methods as they stand behind the top -/
structure MthAt (K : PySem.W.Frag) (C : Addr) (m q : Str) (st : Stmt) (ps : List Str) : Prop where
  ex : ∃ f fd, Meth K C m f ∧ Fun K m q st f fd ∧ Binds K fd ps []
structure OpAt (K : PySem.W.Frag) (C : Addr) (m x q : Str) (st : Stmt) (ps : List Str) : Prop where
  ex : ∃ f fd, OpM K C m f ∧ Fun K x q st f fd ∧ Binds K fd ps []
structure MkAt (K : PySem.W.Frag) (C : Addr) (q : Str) (st : Stmt) (ps : List Str) : Prop where
  ex : ∃ f fd, Mk K C f ∧ Fun K "__init__" q st f fd ∧ Binds K fd ps []
structure SmAt (K : PySem.W.Frag) (C : Addr) (m q : Str) (st : Stmt) (ps : List Str) : Prop where
  ex : ∃ mc p g fd, StM K C mc m p g ∧ Fun K m q st g fd ∧ Binds K fd ps []
/-- an own operator's method, its promise -/
structure OpC (P : Program) (w : World) (K : PySem.W.Frag) (mg : Str → Option Value) (base : Heap) (k : Nat) (C : Addr) (m : Str) (ps : List Str) (sp : Sp) : Prop where
  sf : PySem.W.selfFirst K C = true
  ex : ∃ f fd, OpM K C m f ∧ FnOk P w K mg base (L2.CX P w) k f fd ps sp ∧ Binds K fd ps []
section
variable {X : Cx} {k j : Nat} {C : Addr} {ps : List Str} {sp : Sp} {e1 e2 : Expr} {ta tb : TE} {pos : Pos} {W : WX}
theorem pe_bop {op : Operator} (c : OpC X.prog X.w X.K X.mg X.base k C (PySem.dunder op.info.2) ps sp) (tk : Takes X W) (hr : Room j X.A) (hk : k ≤ j) (h1 : PE X e1 ta) (h2 : PE X e2 tb) : PE X (.BinOp e1 op e2 pos) (tBinO C sp (WE W) ta tb) := by
  obtain ⟨f, fd, M, F, hb⟩ := c.ex
  exact pe_binO F (hr.mono hk) M c.sf hb (fun σ => passAt tk σ) h1 h2
theorem pe_nop (c : OpC X.prog X.w X.K X.mg X.base k C "__neg__" ps sp) (tk : Takes X W) (hr : Room j X.A) (hk : k ≤ j) (h1 : PE X e1 ta) : PE X (.UnaryOp .USub e1 pos) (tNegO C sp (WE W) ta) := by
  obtain ⟨f, fd, M, F, hb⟩ := c.ex
  exact pe_negO F (hr.mono hk) M hb (fun σ => passAt tk σ) h1
theorem pc_eop (c : OpC X.prog X.w X.K X.mg X.base k C "__eq__" ps sp) (tk : Takes X W) (hr : Room j X.A) (hk : k ≤ j) (ht : PySem.W.notFirst X.K C (.type "tuple") = true) (h1 : PE X e1 ta) (h2 : PE X e2 tb) : PC X .Eq e1 e2 (tEqO X.K C sp (WE W) ta tb) := by
  obtain ⟨f, fd, M, F, hb⟩ := c.ex
  exact pc_eqO F (hr.mono hk) M ht hb (fun σ => passAt tk σ) h1 h2
end
/-- what isinstance asks of an own class -/
structure KiC (K : PySem.W.Frag) (C : Addr) : Prop where
  cl : Cls K C
  ca : PySem.W.findIn K (.ref C) "__class__" = some (some (.builtin "object.__class__"))
  gg : PySem.W.specialIn K (.builtin "object.__class__") "__get__" = some (some (.builtin "getset_descriptor.__get__"))
  tk : PySem.W.takesIn K (.builtin "object.__class__") = some true
  mo : PySem.W.mroIn K C (.type "object") = some true
theorem KiC.ty {K : PySem.W.Frag} {C : Addr} (k : KiC K C) {H : Hp} {x dx : Addr} {fs : List (Str × V)} (h : H x = some (.ins C dx fs)) : TyX K H (.ref x) (.ref C) := .base (.ins h k.cl k.ca k.gg k.tk k.mo)
theorem kit_same {K : PySem.W.Frag} {t : Value} : PySem.W.kitOne K t t = some true := by
  unfold PySem.W.kitOne
  rw [if_pos (beq_self_eq_true t)]
end Ew

set_option Elab.async false
set_option linter.all false
set_option maxRecDepth 100000
set_option maxHeartbeats 4000000
namespace Ew
open PySem PySem.Spec PyProof.Rows L2
open AutoSeq1 (wpAny_loadPart')
open MeetsSeq MeetsSeq2 MeetsSeq3 SeqRoads2
theorem tup_once (l : Addr) (items : Array Value) (n : Nat) (dd : Option Addr) (sl : Array (Option Value)) (u : Tok) :
    Meets (Builtin.«tuple.__mul__» ⟨[.ref l, .int 1 u], []⟩) (fun _ R s => s.heap.get? l = some { cls := .type "tuple", dict := dd, data := .seq items n, slots := sl } ∧ R (.ok (.ret (.ref l))) s) :=
  .of_wp fun prog w A R s h => by
    obtain ⟨hp, g, d, tk, os⟩ := s
    obtain ⟨hl, h⟩ := h
    have f1 := AutoSeq1.idx_int
    wp_walk using wpAny_loadPart' hl
    exact ⟨_, rfl, h⟩
def rRep1 (K : PySem.W.Frag) : R2 := fun x y H Q => ∃ l xs, x = .ref l ∧ y = .int 1 ∧ SqT K H l xs ∧ Q (.ref l) H
theorem op_rep1 {X : Cx} : OpR X (binaryOp .Mult) (rRep1 X.K) := by
  intro pins s σ H x y v u Q I rx ry h
  obtain ⟨l, xs, rfl, rfl, hT, q⟩ := h
  cases rx
  obtain ⟨t, rfl⟩ := ry
  obtain ⟨its, r, ⟨⟨cls, dd, data, sl⟩, ho, hc, n, hd⟩, hs⟩ := I.tuple hT
  dsimp only at hc hd
  subst hc hd
  exact wpAny_binaryOp_repeat_ref (T := "tuple") (U := "int") (by decide) ⟨_, ho, rfl⟩ (fun s' => typeIs_int s' 1 t) noFill_tuple_mul F.fills_int_mul F.slot_int_rmul repeat_tuple F.slot_int_index.lookup
    (call_meets F.slot_int_rmul (typeIs_int s 1 t) F.entry_int_rmul (F.args_int_rmul_2 _ _) (int_rmul_tuple 1 t l its.toArray n dd sl)
      ⟨ho, rfl, ⟨_, ho, rfl⟩, call_meets F.slot_tuple_mul ⟨_, ho, rfl⟩ F.entry_tuple_mul (F.args_tuple_mul_2 _ _) (tup_once l its.toArray n dd sl t) ⟨ho, .ref l, H, I, rfl, q⟩⟩)
theorem op_repA {X : Cx} : OpR X (binaryOp .Mult) (fun x y H Q => rRepT X.K x y H Q ∨ rRep1 X.K x y H Q) := op_repT.or op_rep1
end Ew

set_option Elab.async false
set_option linter.all false
set_option maxRecDepth 100000
set_option maxHeartbeats 4000000
namespace Ew
open PySem PySem.Spec PyProof.Rows L2
/-- data that may be compared: n deep at most -/
structure Fl (n : Nat) (d : PyData) : Prop where
  c : d.canLay0 = true
  d : d.depth ≤ n
structure FlA (n : Nat) (ds : List PyData) : Prop where
  c : PyData.canLayAll0 ds = true
  d : PyData.depthAll ds ≤ n
theorem FlA.nil {n : Nat} : FlA n [] := ⟨by rw [PyData.canLayAll0], by rw [PyData.depthAll]; omega⟩
theorem FlA.cons {n : Nat} {d : PyData} {ds : List PyData} (h : Fl n d) (t : FlA n ds) : FlA n (d :: ds) := ⟨by rw [PyData.canLayAll0, h.c, t.c]; rfl, by rw [PyData.depthAll]; have := h.d; have := t.d; omega⟩
theorem FlA.all {n : Nat} : ∀ {ds : List PyData}, (∀ d ∈ ds, Fl n d) → FlA n ds
  | [], _ => .nil
  | d :: ds, h => .cons (h d List.mem_cons_self) (FlA.all fun x hx => h x (List.mem_cons_of_mem _ hx))
theorem Fl.tup {n : Nat} {ds : List PyData} (h : FlA n ds) : Fl (n + 1) (.tuple ds) := ⟨by rw [PyData.canLay0]; exact h.c, by rw [PyData.depth]; have := h.d; omega⟩
theorem Fl.lst {n : Nat} {ds : List PyData} (h : FlA n ds) : Fl (n + 1) (.list ds) := ⟨by rw [PyData.canLay0]; exact h.c, by rw [PyData.depth]; have := h.d; omega⟩
theorem Fl.int {n : Nat} {i : Int} : Fl n (.int i) := ⟨by rw [PyData.canLay0], by rw [PyData.depth]; omega⟩
theorem Fl.str {n : Nat} {x : Str} (h : PyData.strOk x = true) : Fl n (.str x) := ⟨by rw [PyData.canLay0]; exact h, by rw [PyData.depth]; omega⟩
theorem Fl.sh {n : Nat} {d : PyData} (h : Fl n d) (k : n ≤ 64) : SeqAt.shaped d = true := by
  unfold SeqAt.shaped
  have := h.d
  rw [h.c, decide_eq_true (by omega : d.depth ≤ 64)]
  rfl
theorem fl_ints {n : Nat} (ds : List Int) : Fl (n + 1) (intT ds) := Fl.tup ⟨lay_ints ds, by rw [dep_ints]; omega⟩
/-- a pair of a ratio and a tuple of ints -/
def rowD (s : (Int × Int) × List Int) : PyData := .tuple [intT [s.1.1, s.1.2], intT s.2]
theorem fl_row {n : Nat} (s : (Int × Int) × List Int) : Fl (n + 2) (rowD s) := Fl.tup (.cons (fl_ints _) (.cons (fl_ints _) .nil))
theorem eqv_row (s t : (Int × Int) × List Int) : PyData.eqv (rowD s) (rowD t) = decide (s = t) := by
  unfold rowD
  rw [PyData.eqv, PyData.eqvAll, PyData.eqvAll, PyData.eqvAll, eqv_ints, eqv_ints]
  obtain ⟨⟨a, b⟩, c⟩ := s
  obtain ⟨⟨a', b'⟩, c'⟩ := t
  by_cases h1 : a = a' <;> by_cases h2 : b = b' <;> by_cases h3 : c = c' <;> simp [h1, h2, h3]
def Row (K : PySem.W.Frag) (F : Hp) (v : V) (s : (Int × Int) × List Int) : Prop := ∃ p u w, v = .ref p ∧ SqT K F p [u, w] ∧ Rt K F u s.1 ∧ Dm K F w s.2
theorem Row.up {K : PySem.W.Frag} {F F' : Hp} {v : V} {s : (Int × Int) × List Int} (h : Row K F v s) (e : Same F F') : Row K F' v s := by
  obtain ⟨p, u, w, h1, h2, h3, h4⟩ := h
  exact ⟨p, u, w, h1, upT e h2, h3.up e, h4.up e⟩
theorem Row.dp {K : PySem.W.Frag} {F : Hp} {v : V} {s : (Int × Int) × List Int} (h : Row K F v s) : Dp K F v (rowD s) := by
  obtain ⟨p, u, w, rfl, h2, h3, h4⟩ := h
  exact .tup h2 (.cons h3.dp (.cons h4.dp .nil))
/-- items, each with its own word -/
def Rws (K : PySem.W.Frag) (F : Hp) (xs : List V) (ss : List ((Int × Int) × List Int)) : Prop := xs.length = ss.length ∧ ∀ (i : Nat) x, xs[i]? = some x → ∃ s, ss[i]? = some s ∧ Row K F x s
theorem Rws.up {K : PySem.W.Frag} {F F' : Hp} {xs : List V} {ss : List ((Int × Int) × List Int)} (h : Rws K F xs ss) (e : Same F F') : Rws K F' xs ss := ⟨h.1, fun i x hx => by
  obtain ⟨s, h1, h2⟩ := h.2 i x hx
  exact ⟨s, h1, h2.up e⟩⟩
theorem Rws.nil {K : PySem.W.Frag} {F : Hp} : Rws K F [] [] := ⟨rfl, fun i x h => by simp at h⟩
theorem Rws.snoc {K : PySem.W.Frag} {F : Hp} {xs : List V} {ss : List ((Int × Int) × List Int)} {x : V} {s : (Int × Int) × List Int} (h : Rws K F xs ss) (k : Row K F x s) : Rws K F (xs ++ [x]) (ss ++ [s]) := by
  refine ⟨by simp [h.1], fun i y hy => ?_⟩
  rcases Nat.lt_or_ge i xs.length with hi | hi
  · rw [List.getElem?_append_left hi] at hy
    obtain ⟨t, h1, h2⟩ := h.2 i y hy
    exact ⟨t, by rw [List.getElem?_append_left (by rw [← h.1]; exact hi)]; exact h1, h2⟩
  · rw [List.getElem?_append_right hi] at hy
    have e0 : i - xs.length = 0 := by
      rcases Nat.eq_zero_or_pos (i - xs.length) with h0 | h0
      · exact h0
      · rw [List.getElem?_eq_none (by simp; omega)] at hy; cases hy
    rw [e0] at hy
    cases hy
    refine ⟨s, ?_, k⟩
    rw [List.getElem?_append_right (by rw [← h.1]; exact hi), ← h.1, e0]
    rfl
theorem Rws.dps {K : PySem.W.Frag} {F : Hp} : ∀ {xs : List V} {ss : List ((Int × Int) × List Int)}, Rws K F xs ss → DpAll K F xs (ss.map rowD)
  | [], [], _ => .nil
  | [], s :: ss, h => absurd h.1 (by simp)
  | x :: xs, [], h => absurd h.1 (by simp)
  | x :: xs, s :: ss, h => by
    obtain ⟨t, h1, h2⟩ := h.2 0 x rfl
    cases h1
    exact .cons h2.dp (Rws.dps ⟨by simpa using h.1, fun i y hy => h.2 (i + 1) y hy⟩)
end Ew

set_option Elab.async false
set_option linter.all false
set_option maxRecDepth 100000
set_option maxHeartbeats 4000000
namespace Ew
open PySem PySem.Spec PyProof.Rows L2
open SX (S)
/-- a sign, k times -/
theorem fold_one (c : Nat) : ∀ (m : Nat) (acc : Array Nat), (List.replicate m #[c]).foldl (· ++ ·) acc = acc ++ (List.replicate m c).toArray
  | 0, acc => by simp
  | m + 1, acc => by
    rw [List.replicate_succ, List.foldl_cons, fold_one c m, List.replicate_succ]
    apply Array.ext'
    simp
def rRepC : R2 := fun x y H Q => ∃ (c : Nat) (k : Int), x = .str ⟨#[c]⟩ ∧ y = .int k ∧ 2 ≤ k ∧ k ≤ 100000 ∧ Q (.str (S (List.replicate k.toNat c))) H
theorem op_repC {X : Cx} : OpR X (binaryOp .Mult) rRepC := by
  intro pins s σ H x y v u Q I rx ry h
  obtain ⟨c, k, rfl, rfl, h1, h2, q⟩ := h
  obtain ⟨t, rfl⟩ := rx
  obtain ⟨t', rfl⟩ := ry
  have hl : (⟨#[c]⟩ : Str).length = 1 := rfl
  have e1 : (k == 1) = false := by rw [beq_eq_false_iff_ne]; omega
  refine PySem.P.mul_str ?_ (fun _ _ => ?_) (fun _ _ => ?_) ?_
  · rw [decide_eq_false (by omega), decide_eq_false (by omega)]
    rfl
  · rw [hl]
    have : (1 : Int) ≤ (2 ^ 63 - 1) / k := (Int.le_ediv_iff_mul_le (by omega)).mpr (by omega)
    show ¬ ((1 : Int) > _)
    omega
  · rw [hl]
    unfold PySem.Builtin.Str.tooLong
    rw [decide_eq_false_iff_not, sizeLine_eq]
    omega
  · rw [if_neg (by omega), e1, hl]
    have e2 : ((⟨#[c]⟩ : Str).cps) = #[c] := rfl
    rw [if_neg (by decide), e2, fold_one]
    have e3 : (#[] ++ (List.replicate k.toNat c).toArray : Array Nat) = (List.replicate k.toNat c).toArray := by simp
    rw [e3]
    refine ⟨?_, ⟨.str (S (List.replicate k.toNat c)), H, I.tok _, ⟨_, rfl⟩, q⟩⟩
    show (S (List.replicate k.toNat c)).length ≤ sizeLine
    rw [SX.S_len, List.length_replicate, sizeLine_eq]
    omega
end Ew

set_option Elab.async false
set_option linter.all false
set_option maxRecDepth 100000
set_option maxHeartbeats 4000000
namespace Ew
open PySem PySem.Spec PyProof.Rows L2
/-! ### defs that are asked only where no repr is under way -/
section
variable {P : Program} {w : World} {K : PySem.W.Frag} {mg : Str → Option Value} {base : Heap}
structure FnG (P : Program) (w : World) (K : PySem.W.Frag) (mg : Str → Option Value) (base : Heap) (k : Nat) (f : Addr) (fd : FuncData) (ps : List Str) (sp : Sp) : Prop where
  len : ∀ vs H Q E, sp vs H Q E → vs.length = ps.length
  go : ∀ (A : Around) (outer : List Env) (s : Shared) (H : Hp) (args : Args) (us : List Value) (vs : List V) (Q : VK) (E : XK), A.guards = some [] → Room k A → Env0 P w K mg base A outer s H → BindsTo s fd args (ps.zip us) → Vals vs us → sp vs H Q E →
    codeAny (model P w) A (.call (.ref f) args) (CR (L2.CX P w) outer P w H s Q E) s
def BodyG (P : Program) (w : World) (K : PySem.W.Frag) (mg : Str → Option Value) (base : Heap) (N : List Str) (qual : Str) (st : Stmt) (k : Nat) (sp : Sp) : Prop :=
  ∀ (f : Addr) (cdv : Value) (A : Around) (outer : List Env) (s : Shared) (H : Hp) (vs : List V) (Q : VK) (E : XK), (cxB P w K mg base N qual st f cdv A outer s H E).A.guards = some [] → Room k (cxB P w K mg base N qual st f cdv A outer s H E).A → sp vs H Q E →
    ∃ t, PSs (cxB P w K mg base N qual st f cdv A outer s H E) (defBody st) t ∧ t { nx := fun _ H' => Q .non H', rt := Q } (start N vs) H
theorem fun_gd {x qual : Str} {st : Stmt} {f : Addr} {fd : FuncData} {ps N : List Str} {k : Nat} {sp : Sp} (F : Fun K x qual st f fd) (S : FnScope N ps (defScope st)) (len : ∀ vs H Q E, sp vs H Q E → vs.length = ps.length) (h : BodyG P w K mg base N qual st k sp) :
    FnG P w K mg base (k + 1) f fd ps sp := by
  obtain ⟨oc, od, kV, doc, pm, an, cdv, ct, osl, rfl, lk, hcd⟩ := F.ex
  refine ⟨len, ?_⟩
  intro A outer s H args us vs Q E hg room e0 bind rel ask
  have many := len _ _ _ _ ask
  have kept : ∀ b o, base.get? b = some o → s.heap.get? b = some o := fun b o e => (e0.bs b o e).1
  have KX : K.In s.heap := e0.mod.kin.keeps kept
  have locals_ : ∀ y ∈ ps.zip us, (defScope st).names.lookup y.1 = some .local ∨ ((defScope st).names.lookup y.1 = some .cell ∧ ((cellsFrom (s.heap.objs.size + 1) (defScope st).names []).lookup y.1).isSome = true) := by
    rintro ⟨nm, v⟩ hy
    refine (S.par nm (List.of_mem_zip hy).1).imp id fun q => ⟨q, ?_⟩
    exact PySem.W.cellsFrom_some _ _ _ (.inl q)
  refine codeAny_call_function room.depth (KX _ _ lk) rfl S.co S.gen rfl (PySem.W.codeRec_of KX hcd) (bind _ _ _ _ ?_)
  refine wpAny_newFunctionEnv_cells S.kind locals_ ?_
  rintro env rfl s1 x
  refine ⟨(e0.mod.nolimit.keeps kept).keeps x.toInCall.keep, codeAny_func ?_⟩
  obtain ⟨t, ht, goal⟩ := h f cdv A outer s H vs Q E hg (room.deeper _) ask
  refine wpAny_mono (ht.run [] s1 (start N vs) H _ (inv_start S room.hd e0 many rel x) goal) ?_ (fun e s' z => z)
  intro fl s' end_
  match fl, end_ with
  | .ret u, ⟨v, σ', H', J, rv, q⟩ => exact ⟨v, H', J.os, J.bare, J.base, J.hok, rv, q⟩
  | .next, ⟨σ', H', J, q⟩ => exact ⟨.non, H', J.os, J.bare, J.base, J.hok, rfl, q⟩
  | .brk, ⟨_, _, _, q⟩ => exact q.elim
  | .cont, ⟨_, _, _, q⟩ => exact q.elim
structure ClG (P : Program) (w : World) (K : PySem.W.Frag) (mg : Str → Option Value) (base : Heap) (k : Nat) (x : Str) (ps : List Str) (sp : Sp) : Prop where
  ex : ∃ f fd, FnG P w K mg base k f fd ps sp ∧ mg x = some (.ref f) ∧ PySem.W.keepIn K (.ref f) = true ∧ Binds K fd ps []
theorem DefAt.clG {x : Str} {st : Stmt} {ps N : List Str} {k : Nat} {sp : Sp} (D : DefAt K mg x st ps) (S : FnScope N ps (defScope st)) (len : ∀ vs H Q E, sp vs H Q E → vs.length = ps.length) (h : BodyG P w K mg base N x st k sp) : ClG P w K mg base (k + 1) x ps sp := by
  obtain ⟨f, fd, F, g, b⟩ := D.ex
  exact ⟨f, fd, fun_gd F S len h, g, F.kp, b⟩
end
section
variable {X : Cx} {k j : Nat} {x : Str} {ps : List Str} {sp : Sp} {e : Expr} {es : List Expr} {t : TA} {p pos : Pos} {W : WX}
theorem pe_fG (hg0 : X.A.guards = some []) (c : ClG X.prog X.w X.K X.mg X.base k x ps sp) (tk : Takes X W) (hr : Room j X.A) (hk : k ≤ j) (hg : Gl X x) (ha : PA X (e :: es) t) (hdb : (x == ("__debug__" : Str)) = false := by decide)
    (he : starEach (e :: es) X.env = (false, eval e X.env) :: starEach es X.env := by rfl) (hpl : (backTo pos (starEach es X.env)).any (·.1) = false := by rfl) : PE X (.Call (.Name x p) (e :: es) [] pos) (tF sp [] W t) := by
  obtain ⟨f, fd, F, hm, hkp, hb⟩ := c.ex
  refine ⟨fun pins s σ H Q I h => wpAny_Call_Name_kw (ld_glob I hg hm (PySem.W.callWith_K (h₀ := X.base) I.ok.mod.kin hkp (thn (ha.run pos pins s σ H _ I h) fun us s1 ⟨vs, H1, I1, r, q⟩ => ⟨I1.kIn, ?_⟩) he hpl) hdb)⟩
  have r2 := r.append (.nil : Vals [] [])
  have hl : (us ++ []).length = ps.length := by rw [← r2.length]; exact F.len _ _ _ _ q
  refine wpAny_call (codeAny_mono (F.go X.A X.stack s1 H1 ⟨us, []⟩ (us ++ []) (vs ++ []) Q (WE W σ) hg0 (hr.mono hk) I1.env0 (hb s1 us I1.kIn hl) r2 q) fun y s' hq => ?_)
  match y, hq with
  | .error e, hq => exact passAt tk σ pins H1 s1 e s' I1 hq
  | .ok (.ret u), hq => exact I1.after hq
end
/-- a call without arguments of a def that lets nothing out -/
theorem pe_f0 {X : Cx} {k j : Nat} {x : Str} {ps : List Str} {sp : Sp} {p pos : Pos} (c : Cl X.prog X.w X.K X.mg X.base k x ps sp []) (hr : Room j X.A) (hk : k ≤ j) (hg : Gl X x) (hdb : (x == ("__debug__" : Str)) = false := by decide) : PE X (.Call (.Name x p) [] [] pos) (tCall sp [] E0 tNil) := by
  obtain ⟨f, fd, ds, F, hm, hkp, hb, hd⟩ := c.ex
  cases hd
  exact pe_call0 F (hr.mono hk) hg hm hkp hb .nil passL hdb
/-! ### repr, where none is under way -/
section
variable {X : Cx}
def rReprD (K : PySem.W.Frag) : List V → Hp → VK → Prop := fun xs H Q => (∃ (a : Addr) (d : PyData), xs = [.ref a] ∧ Dp K H (.ref a) d ∧ d.showable = true ∧ d.hasDict = false ∧ d.depth ≤ 60 ∧ d.shown.length ≤ sizeLine ∧ Q (.str d.shown) H) ∨
  (∃ i : Int, xs = [.int i] ∧ i.natAbs.log2 < 1920 ∧ Q (.str (toString i)) H) ∨ (∃ b : Bool, xs = [.bl b] ∧ Q (.str (if b then "True" else "False")) H) ∨ (xs = [.non] ∧ Q (.str "None") H) ∨
  ∃ a : Addr, xs = [.ref a] ∧ H a = some (.dK []) ∧ Q (.str (PyData.dict []).shown) H
/-- the same, closed -/
structure rRepr (K : PySem.W.Frag) (xs : List V) (H : Hp) (Q : VK) : Prop where
  is : rReprD K xs H Q
theorem call_repr (hg : X.A.guards = some []) (hu : X.A.units + 64 < cLine) : CallR X (.builtin "repr") (rRepr X.K) := by
  intro pins s σ H xs us Q I r h
  rcases h.is with ⟨a, d, rfl, hd, h1, h2, h3, h4, q⟩ | ⟨i, rfl, hz, q⟩ | ⟨b, rfl, q⟩ | ⟨rfl, q⟩ | ⟨a, rfl, hd, q⟩
  · obtain ⟨u, rfl, rx⟩ := vals1 r
    obtain ⟨as, rd⟩ := Dp.reads I d _ _ hd rx
    obtain rfl : u = Value.ref a := rx
    exact repr_of_reads' rd h1 (PyData.noDict_hsm h2) hg (by omega) (fun _ _ e => e) (fun h' u' tk hk => ⟨.str d.shown, H, I.kept hk, ⟨_, rfl⟩, q⟩) h4
  · obtain ⟨u, rfl, t, rfl⟩ := vals1 r
    exact PySem.P.repr_of_int hz ⟨.str _, H, I.tok _, ⟨_, rfl⟩, q⟩
  · obtain ⟨u, rfl, rx⟩ := vals1 r
    obtain rfl : u = Value.bool b := rx
    exact PySem.P.repr_of_bool ⟨.str _, H, I.tok _, ⟨_, rfl⟩, q⟩
  · obtain ⟨u, rfl, rx⟩ := vals1 r
    obtain rfl : u = Value.none := rx
    exact PySem.P.repr_of_none ⟨.str _, H, I.tok _, ⟨_, rfl⟩, q⟩
  · obtain ⟨u, rfl, rx⟩ := vals1 r
    obtain rfl : u = Value.ref a := rx
    obtain ⟨_, ns, vs, kv, dd⟩ := dk_of I.hok hd
    cases kv
    obtain ⟨o, n, es, ho, hc, hdat, hes⟩ : ∃ (o : Obj) (n : Nat) (es : Array DictEntry), s.heap.get? a = some o ∧ o.cls = .type "dict" ∧ o.data = .dict es n ∧ es = #[] := by
      obtain ⟨o, es, ep, ho, ex, hdat, _, pr, _⟩ := dd
      refine ⟨o, ep, es, ho, ex.1, hdat, ?_⟩
      have : es.toList = [] := by
        cases e : es.toList with
        | nil => rfl
        | cons y ys => rw [e] at pr; cases pr
      exact Array.toList_eq_nil_iff.mp this
    subst hes
    have rd : Reads s.heap (.ref a) (.dict []) (a :: [] ++ []) := .dict ho hc hdat .nil .nil
    exact repr_of_reads' rd (by decide) (fun _ hm => by simp at hm; rw [hm] at ns; simp at ns) hg (by have : (PyData.dict []).depth = 1 := rfl; omega) (fun _ _ e => e) (fun h' u' tk hk => ⟨.str _, H, I.kept hk, ⟨_, rfl⟩, q⟩) (by decide +kernel)
end
end Ew

set_option Elab.async false
set_option linter.all false
set_option maxRecDepth 100000
set_option maxHeartbeats 4000000
namespace Ew
open PySem PySem.Spec PyProof.Rows L2
/-! ### an own class that is asked by [ ], in, len -/
section
variable {X : Cx} {CX : CXT} {k : Nat} {f C : Addr} {fd : FuncData} {ps : List Str} {sp : Sp} {E : L2.St → XK} {a b : Expr} {ta tb : TE} {pos : Pos}
/-- a call one step further in -/
theorem run_fn1 {pins : List (Addr × Obj)} {σ : L2.St} {H : Hp} {s : Shared} {Q : VK} {us : List Value} {vs : List V} {E0 : XK} (F : FnOk X.prog X.w X.K X.mg X.base CX k f fd ps sp) (hr : Room (k + 1) X.A) (hb : Binds X.K fd ps []) (hx : PassesAt CX X σ E0)
    (I : Inv X pins σ H s) (r : Vals vs us) (h : sp vs H Q E0) : wpAny (model X.prog X.w) X.A.in1 (call (.ref f) us) (EP X pins σ Q) X.xe s := by
  have hl : us.length = ps.length := by rw [← r.length]; exact F.len _ _ _ _ h
  have b := hb s us I.kIn (by rw [List.append_nil]; exact hl)
  rw [List.append_nil] at b
  refine wpAny_call (codeAny_mono (F.run X.A.in1 X.stack s H ⟨us, []⟩ us vs Q E0 hr.in1 I.env0.in1 b r h) fun r s' hq => ?_)
  cases r with
  | error e => exact hx pins H s e s' I hq
  | ok fl =>
    cases fl with
    | ret u => exact I.after hq
    | next => exact False.elim hq
    | brk => exact False.elim hq
    | cont => exact False.elim hq
def tIxO (C : Addr) (sp : Sp) (E : L2.St → XK) (ta tb : TE) : TE := fun σ H Q => ta σ H fun x H1 => tb σ H1 fun y H2 => ∃ p dx fs, x = .ref p ∧ H2 p = some (.ins C dx fs) ∧ sp [x, y] H2 Q (E σ)
/-- o[k], o of an own class -/
theorem pe_ixO (F : FnOk X.prog X.w X.K X.mg X.base CX k f fd ps sp) (hr : Room (k + 1) X.A) (M : OpM X.K C "__getitem__" f) (hf : PySem.W.fnIn X.K f = true) (hb : Binds X.K fd ps []) (hx : ∀ σ, PassesAt CX X σ (E σ)) (h1 : PE X a ta) (h2 : PE X b tb)
    (hsl : ∀ x i, subscripted b true (.ref x) i = runValue (.builtin "lifetime.subscript" ⟨[.ref x, i], []⟩)) : PE X (.Subscript a b pos) (tIxO C sp E ta tb) := by
  refine ⟨fun pins s σ H Q I h => Subscript_ (bin h1 h2 I h fun v u s2 x y H2 I2 rx ry q => ?_)⟩
  obtain ⟨p, dx, fs, rfl, e1, q⟩ := q
  cases rx
  obtain ⟨o1, J1⟩ := ins_at I2 e1
  obtain ⟨m, fr⟩ := I2.fr
  exact PySem.W.sub_K fr I2.ok.mod.kin J1 M.at_ hf M.fn (run_fn1 (vs := [.ref p, y]) F hr hb (hx σ) I2 (.cons rfl (.cons ry .nil)) q) (hsl _ _)
def tInO (C : Addr) (sp : Sp) (neg : Bool) (E : L2.St → XK) (ta tb : TE) : TE := fun σ H Q => ta σ H fun x H1 => tb σ H1 fun y H2 => ∃ p dx fs, y = .ref p ∧ H2 p = some (.ins C dx fs) ∧ sp [y, x] H2 (fun z H3 => ∃ r : Bool, z = .bl r ∧ Q (.bl (if neg = true then !r else r)) H3) (E σ)
theorem pc_inO (F : FnOk X.prog X.w X.K X.mg X.base CX k f fd ps sp) (hr : Room k X.A) (M : OpM X.K C "__contains__" f) (hb : Binds X.K fd ps []) (hx : ∀ σ, PassesAt CX X σ (E σ)) (h1 : PE X a ta) (h2 : PE X b tb) : PC X .In a b (tInO C sp false E ta tb) := by
  refine ⟨fun pins s σ H Q I h => bin h1 h2 I h fun v u s2 x y H2 I2 rx ry q => ?_⟩
  obtain ⟨p, dx, fs, rfl, e1, q⟩ := q
  cases ry
  obtain ⟨o1, J1⟩ := ins_at I2 e1
  obtain ⟨m, fr⟩ := I2.fr
  refine PySem.W.in_K fr I2.ok.mod.kin J1 M.at_ M.fn (thn (run_fnS (vs := [.ref p, x]) F hr hb (hx σ) I2 (.cons rfl (.cons rx .nil)) q) fun w s3 z => ?_)
  obtain ⟨v3, H3, I3, r3, t, rfl, q3⟩ := z
  cases r3
  exact wpAny_truthy_bool ⟨.bl t, H3, I3, rfl, q3⟩
theorem pc_ninO (F : FnOk X.prog X.w X.K X.mg X.base CX k f fd ps sp) (hr : Room k X.A) (M : OpM X.K C "__contains__" f) (hb : Binds X.K fd ps []) (hx : ∀ σ, PassesAt CX X σ (E σ)) (h1 : PE X a ta) (h2 : PE X b tb) : PC X .NotIn a b (tInO C sp true E ta tb) := by
  refine ⟨fun pins s σ H Q I h => bin h1 h2 I h fun v u s2 x y H2 I2 rx ry q => ?_⟩
  obtain ⟨p, dx, fs, rfl, e1, q⟩ := q
  cases ry
  obtain ⟨o1, J1⟩ := ins_at I2 e1
  obtain ⟨m, fr⟩ := I2.fr
  refine PySem.W.notIn_K fr I2.ok.mod.kin J1 M.at_ M.fn (thn (run_fnS (vs := [.ref p, x]) F hr hb (hx σ) I2 (.cons rfl (.cons rx .nil)) q) fun w s3 z => ?_)
  obtain ⟨v3, H3, I3, r3, t, rfl, q3⟩ := z
  cases r3
  exact wpAny_truthy_bool ⟨.bl (!t), H3, I3, rfl, q3⟩
/-- len(o), o of an own class; nothing is let out -/
def rLenO (C : Addr) (sp : Sp) (E0 : XK) : List V → Hp → VK → Prop := fun xs H Q => ∃ p dx fs, xs = [.ref p] ∧ H p = some (.ins C dx fs) ∧ sp [.ref p] H (fun z H3 => ∃ n : Int, z = .int n ∧ 0 ≤ n ∧ n < 2 ^ 63 ∧ Q (.int n) H3) E0
theorem call_lenO {E0 : XK} (F : FnOk X.prog X.w X.K X.mg X.base CX k f fd ps sp) (hr : Room (k + 1) X.A) (M : OpM X.K C "__len__" f) (hb : Binds X.K fd ps []) (hx : ∀ σ, PassesAt CX X σ E0) : CallR X (.builtin "len") (rLenO C sp E0) := by
  intro pins s σ H xs us Q I r h
  obtain ⟨p, dx, fs, rfl, e1, q⟩ := h
  obtain ⟨u, rfl, rx⟩ := vals1 r
  cases rx
  obtain ⟨o1, J1⟩ := ins_at I e1
  obtain ⟨m, fr⟩ := I.fr
  refine PySem.W.len_K fr I.ok.mod.kin J1 M.at_ M.fn (thn (run_fn1 (vs := [.ref p]) F hr hb (hx σ) I (.cons rfl .nil) q) fun w s3 z => ?_)
  obtain ⟨v3, H3, I3, r3, n, rfl, n0, n1, q3⟩ := z
  obtain ⟨t, rfl⟩ := r3
  exact ⟨⟨n0, n1⟩, .int n, H3, I3.tok _, ⟨_, rfl⟩, q3⟩
end
end Ew

set_option Elab.async false
set_option linter.all false
set_option maxRecDepth 100000
set_option maxHeartbeats 4000000
namespace Ew
open PySem PySem.Spec PyProof.Rows L2
/-! ### an own == with anything at its right -/
/-- what stands to the right: another of the class, a list, a tuple, a text, a number, a truth value, None -/
def RhsAny (K : PySem.W.Frag) (C : Addr) (H : Hp) (y : V) : Prop := y = .non ∨ (∃ b, y = .bl b) ∨ (∃ i, y = .int i) ∨ (∃ z, y = .str z) ∨ ∃ q, y = .ref q ∧ ((∃ dy gs, H q = some (.ins C dy gs)) ∨ (∃ ys, SqL K H q ys) ∨ ∃ ys, SqT K H q ys)
/-- none of these kinds comes ahead of the class -/
def NoFirst (K : PySem.W.Frag) (C : Addr) : Prop := ∀ T ∈ (["NoneType", "bool", "int", "str", "list", "tuple"] : List String), PySem.W.notFirst K C (.type T) = true
section
variable {X : Cx} {CX : CXT} {k : Nat} {f C : Addr} {fd : FuncData} {ps : List Str} {sp : Sp} {E : L2.St → XK} {a b : Expr} {ta tb : TE} {pos : Pos}
def tEqA (K : PySem.W.Frag) (C : Addr) (sp : Sp) (E : L2.St → XK) (ta tb : TE) : TE := fun σ H Q => ta σ H fun x H1 => tb σ H1 fun y H2 => ∃ p dx fs, x = .ref p ∧ H2 p = some (.ins C dx fs) ∧ RhsAny K C H2 y ∧ sp [x, y] H2 Q (E σ)
theorem looks_val {M : Model} {h : Heap} {v : Value} {T : String} (ht : ∀ s : Shared, s.TypeIs v T) : PySem.W.Looks M h (typeOf v) (.type T) := fun A Q E s _ z => wpAny_typeOf (ht s) z
theorem pc_eqA (F : FnOk X.prog X.w X.K X.mg X.base CX k f fd ps sp) (hr : Room k X.A) (M : OpM X.K C "__eq__" f) (ht : NoFirst X.K C) (hb : Binds X.K fd ps []) (hx : ∀ σ, PassesAt CX X σ (E σ))
    (h1 : PE X a ta) (h2 : PE X b tb) : PC X .Eq a b (tEqA X.K C sp E ta tb) := by
  refine ⟨fun pins s σ H Q I h => bin h1 h2 I h fun v u s2 x y H2 I2 rx ry q => ?_⟩
  obtain ⟨p, dx, fs, rfl, e1, r, q⟩ := q
  cases rx
  obtain ⟨o1, J1⟩ := ins_at I2 e1
  obtain ⟨m, fr⟩ := I2.fr
  have run := thn (run_fnS (vs := [.ref p, y]) F hr hb (hx σ) I2 (.cons rfl (.cons ry .nil)) q) fun _ _ z => back_of z
  show wpAny _ _ (richCompare .Eq (.ref p) u) _ _ _
  rcases r with rfl | ⟨c, rfl⟩ | ⟨i, rfl⟩ | ⟨z, rfl⟩ | ⟨q', rfl, r⟩
  · obtain rfl : u = Value.none := ry
    exact PySem.W.cmp_K (op := .Eq) hr.units0 fr I2.ok.mod.kin J1 (looks_val fun s => rfl) (ht "NoneType" (by simp)) M.at_ M.fn run
  · obtain rfl : u = Value.bool c := ry
    exact PySem.W.cmp_K (op := .Eq) hr.units0 fr I2.ok.mod.kin J1 (looks_val fun s => rfl) (ht "bool" (by simp)) M.at_ M.fn run
  · obtain ⟨t, rfl⟩ := ry
    exact PySem.W.cmp_K (op := .Eq) hr.units0 fr I2.ok.mod.kin J1 (looks_val fun s => rfl) (ht "int" (by simp)) M.at_ M.fn run
  · obtain ⟨t, rfl⟩ := ry
    exact PySem.W.cmp_K (op := .Eq) hr.units0 fr I2.ok.mod.kin J1 (looks_val fun s => rfl) (ht "str" (by simp)) M.at_ M.fn run
  · cases ry
    rcases r with ⟨dy, gs, e2⟩ | ⟨ys, e2⟩ | ⟨ys, e2⟩
    · obtain ⟨o2, J2⟩ := ins_at I2 e2
      exact PySem.W.cmp_K (op := .Eq) hr.units0 fr I2.ok.mod.kin J1 J2.type (by simp [PySem.W.notFirst]) M.at_ M.fn run
    · obtain ⟨its, rv, ⟨o, n, ho, hc, _⟩, _⟩ := I2.list e2
      exact PySem.W.cmp_K (op := .Eq) hr.units0 fr I2.ok.mod.kin J1 (fun A' Q' E' s' kp z => wpAny_typeOf_ref (kp _ _ ho) (by rw [hc]; exact z)) (ht "list" (by simp)) M.at_ M.fn run
    · obtain ⟨its, rv, ⟨o, ho, hc, _⟩, _⟩ := I2.tuple e2
      exact PySem.W.cmp_K (op := .Eq) hr.units0 fr I2.ok.mod.kin J1 (fun A' Q' E' s' kp z => wpAny_typeOf_ref (kp _ _ ho) (by rw [hc]; exact z)) (ht "tuple" (by simp)) M.at_ M.fn run
end
/-! ### the class's own methods, by their promises -/
structure OwC (P : Program) (w : World) (K : PySem.W.Frag) (mg : Str → Option Value) (base : Heap) (k : Nat) (C : Addr) (m : Str) (ps : List Str) (sp : Sp) : Prop where
  ex : ∃ f fd, OpM K C m f ∧ PySem.W.fnIn K f = true ∧ FnOk P w K mg base (L2.CX P w) k f fd ps sp ∧ Binds K fd ps []
section
variable {X : Cx} {k j : Nat} {C : Addr} {ps : List Str} {sp : Sp} {e1 e2 : Expr} {ta tb : TE} {pos : Pos} {W : WX}
theorem pe_ixC (c : OwC X.prog X.w X.K X.mg X.base k C "__getitem__" ps sp) (tk : Takes X W) (hr : Room j X.A) (hk : k + 1 ≤ j) (h1 : PE X e1 ta) (h2 : PE X e2 tb)
    (hsl : ∀ x i, subscripted e2 true (.ref x) i = runValue (.builtin "lifetime.subscript" ⟨[.ref x, i], []⟩)) : PE X (.Subscript e1 e2 pos) (tIxO C sp (WE W) ta tb) := by
  obtain ⟨f, fd, M, hf, F, hb⟩ := c.ex
  exact pe_ixO F (hr.mono hk) M hf hb (fun σ => passAt tk σ) h1 h2 hsl
theorem pc_inC (c : OwC X.prog X.w X.K X.mg X.base k C "__contains__" ps sp) (tk : Takes X W) (hr : Room j X.A) (hk : k ≤ j) (h1 : PE X e1 ta) (h2 : PE X e2 tb) : PC X .In e1 e2 (tInO C sp false (WE W) ta tb) := by
  obtain ⟨f, fd, M, hf, F, hb⟩ := c.ex
  exact pc_inO F (hr.mono hk) M hb (fun σ => passAt tk σ) h1 h2
theorem pc_ninC (c : OwC X.prog X.w X.K X.mg X.base k C "__contains__" ps sp) (tk : Takes X W) (hr : Room j X.A) (hk : k ≤ j) (h1 : PE X e1 ta) (h2 : PE X e2 tb) : PC X .NotIn e1 e2 (tInO C sp true (WE W) ta tb) := by
  obtain ⟨f, fd, M, hf, F, hb⟩ := c.ex
  exact pc_ninO F (hr.mono hk) M hb (fun σ => passAt tk σ) h1 h2
theorem pc_eqC (c : OwC X.prog X.w X.K X.mg X.base k C "__eq__" ps sp) (ht : NoFirst X.K C) (tk : Takes X W) (hr : Room j X.A) (hk : k ≤ j) (h1 : PE X e1 ta) (h2 : PE X e2 tb) : PC X .Eq e1 e2 (tEqA X.K C sp (WE W) ta tb) := by
  obtain ⟨f, fd, M, hf, F, hb⟩ := c.ex
  exact pc_eqA F (hr.mono hk) M ht hb (fun σ => passAt tk σ) h1 h2
theorem call_lenC (c : OwC X.prog X.w X.K X.mg X.base k C "__len__" ps sp) (hr : Room j X.A) (hk : k + 1 ≤ j) : CallR X (.builtin "len") (rLenO C sp E0) := by
  obtain ⟨f, fd, M, hf, F, hb⟩ := c.ex
  exact call_lenO F (hr.mono hk) M hb fun σ pins H s e s' I h => passL pins σ H s e s' I h
end
end Ew

set_option Elab.async false
set_option linter.all false
set_option maxRecDepth 100000
set_option maxHeartbeats 4000000
namespace Ew
open PySem PySem.Spec PyProof.Rows L2
/-! ### a def that an except suite calls with the error it holds; nothing leaves it but by return -/
section
variable {P : Program} {w : World} {K : PySem.W.Frag} {mg : Str → Option Value} {base : Heap}
/-- the error at a, of the class cls, its dict d -/
abbrev SpE := Addr → Value → Option Addr → Sp
structure FnE (P : Program) (w : World) (K : PySem.W.Frag) (mg : Str → Option Value) (base : Heap) (k : Nat) (f : Addr) (fd : FuncData) (ps : List Str) (sp : SpE) : Prop where
  len : ∀ a cls d vs H Q E, sp a cls d vs H Q E → vs.length = ps.length
  go : ∀ (A : Around) (outer : List Env) (s : Shared) (H : Hp) (args : Args) (us : List Value) (vs : List V) (Q : VK) (E : XK) (a : Addr) (oe : Obj) (cls : Value) (d : Option Addr), A.guards = some [] → A.handled = some (.ref a) → Zc cls d oe → (∃ vs, oe.data = .fields vs) →
    L2H.RoomH k A → L2H.PinOk outer H s (a, oe) → Env0 P w K mg base A outer s H → BindsTo s fd args (ps.zip us) → Vals vs us → sp a cls d vs H Q E → codeAny (model P w) A (.call (.ref f) args) (CR (L2.CX P w) outer P w H s Q E) s
def BodyE (P : Program) (w : World) (K : PySem.W.Frag) (mg : Str → Option Value) (base : Heap) (N : List Str) (qual : Str) (st : Stmt) (k : Nat) (sp : SpE) : Prop :=
  ∀ (f : Addr) (cdv : Value) (A : Around) (outer : List Env) (s : Shared) (H : Hp) (vs : List V) (Q : VK) (E : XK) (a : Addr) (oe : Obj) (cls : Value) (d : Option Addr), (cxB P w K mg base N qual st f cdv A outer s H E).A.guards = some [] → Zc cls d oe → (∃ vs, oe.data = .fields vs) →
    L2H.RoomH k (cxB P w K mg base N qual st f cdv A outer s H E).A → sp a cls d vs H Q E →
    ∃ t, PSs ((cxB P w K mg base N qual st f cdv A outer s H E).suite a [(a, oe)]) (defBody st) t ∧ t { nx := fun _ H' => Q .non H', rt := Q } (start N vs) H
theorem mark_same {A : Around} {h : Option Value} (e : A.handled = h) : A.mark h = A := by
  subst e
  obtain ⟨h, d, fr, g, u⟩ := A
  cases h <;> rfl
theorem fun_hot {x qual : Str} {st : Stmt} {f : Addr} {fd : FuncData} {ps N : List Str} {k : Nat} {sp : SpE} (F : Fun K x qual st f fd) (S : FnScope N ps (defScope st)) (len : ∀ a cls d vs H Q E, sp a cls d vs H Q E → vs.length = ps.length) (h : BodyE P w K mg base N qual st k sp) :
    FnE P w K mg base (k + 1) f fd ps sp := by
  obtain ⟨oc, od, kV, doc, pm, an, cdv, ct, osl, rfl, lk, hcd⟩ := F.ex
  refine ⟨len, ?_⟩
  intro A outer s H args us vs Q E a oe cls d hg hh hz hf room pin e0 bind rel ask
  have many := len _ _ _ _ _ _ _ ask
  have kept : ∀ b o, base.get? b = some o → s.heap.get? b = some o := fun b o e => (e0.bs b o e).1
  have KX : K.In s.heap := e0.mod.kin.keeps kept
  have locals_ : ∀ y ∈ ps.zip us, (defScope st).names.lookup y.1 = some .local ∨ ((defScope st).names.lookup y.1 = some .cell ∧ ((cellsFrom (s.heap.objs.size + 1) (defScope st).names []).lookup y.1).isSome = true) := by
    rintro ⟨nm, v⟩ hy
    refine (S.par nm (List.of_mem_zip hy).1).imp id fun q => ⟨q, ?_⟩
    exact PySem.W.cellsFrom_some _ _ _ (.inl q)
  refine codeAny_call_function room.depth (KX _ _ lk) rfl S.co S.gen rfl (PySem.W.codeRec_of KX hcd) (bind _ _ _ _ ?_)
  refine wpAny_newFunctionEnv_cells S.kind locals_ ?_
  rintro env rfl s1 x
  refine ⟨(e0.mod.nolimit.keeps kept).keeps x.toInCall.keep, codeAny_func ?_⟩
  obtain ⟨t, ht, goal⟩ := h f cdv A outer s H vs Q E a oe cls d hg hz hf (room.deeper _) ask
  have J := L2H.inv_startH (CX := L2.CX P w) (E := E) (f := f) (cd := cdv) (qual := qual) S pin e0 many rel x
  have ok := J.ok
  have I : Inv ((cxB P w K mg base N qual st f cdv A outer s H E).suite a [(a, oe)]) [] (start N vs) H s1 :=
    ⟨⟨ok.mod, ok.kind, ok.glob, ok.blt, ok.above, ok.inj, ok.has, ok.cab, fun z => Bool.noConfusion (show false = true from z), ok.frames, ok.stk, ok.exf, ok.bs, ok.bsz, ok.noex, ok.exfs, ok.funs, ok.frf⟩, J.os, J.bare, J.base, J.loc, J.cell, J.free, J.freeC, J.pin, J.hok, J.len⟩
  have r := ht.run [] s1 (start N vs) H _ I goal
  have same : ((cxB P w K mg base N qual st f cdv A outer s H E).suite a [(a, oe)]).A = (cxB P w K mg base N qual st f cdv A outer s H E).A := mark_same hh
  rw [same] at r
  refine wpAny_mono r ?_ fun e s' z => z.elim
  intro fl s' end_
  match fl, end_ with
  | .ret u, ⟨v, σ', H', J, rv, q⟩ => exact ⟨v, H', J.os, J.bare, J.base, J.hok, rv, q⟩
  | .next, ⟨σ', H', J, q⟩ => exact ⟨.non, H', J.os, J.bare, J.base, J.hok, rfl, q⟩
  | .brk, ⟨_, _, _, q⟩ => exact q.elim
  | .cont, ⟨_, _, _, q⟩ => exact q.elim
structure ClE (P : Program) (w : World) (K : PySem.W.Frag) (mg : Str → Option Value) (base : Heap) (k : Nat) (x : Str) (ps : List Str) (sp : SpE) : Prop where
  ex : ∃ f fd, FnE P w K mg base k f fd ps sp ∧ mg x = some (.ref f) ∧ PySem.W.keepIn K (.ref f) = true ∧ Binds K fd ps []
theorem DefAt.clE {x : Str} {st : Stmt} {ps N : List Str} {k : Nat} {sp : SpE} (D : DefAt K mg x st ps) (S : FnScope N ps (defScope st)) (len : ∀ a cls d vs H Q E, sp a cls d vs H Q E → vs.length = ps.length) (h : BodyE P w K mg base N x st k sp) : ClE P w K mg base (k + 1) x ps sp := by
  obtain ⟨f, fd, F, g, b⟩ := D.ex
  exact ⟨f, fd, fun_hot F S len h, g, F.kp, b⟩
end
section
variable {X : Cx} {k j : Nat} {x : Str} {ps : List Str} {sp : SpE} {e : Expr} {es : List Expr} {t : TA} {p pos : Pos} {a : Addr} {oe : Obj} {cls : Value} {d : Option Addr} {pn : List (Addr × Obj)}
theorem pe_fE (hg0 : X.A.guards = some []) (c : ClE X.prog X.w X.K X.mg X.base k x ps sp) (hz : Zc cls d oe) (hf : ∃ vs, oe.data = .fields vs) (hr : Room j X.A) (hk : k ≤ j) (hg : Gl X x) (ha : PA (X.suite a ((a, oe) :: pn)) (e :: es) t) (hdb : (x == ("__debug__" : Str)) = false := by decide)
    (he : starEach (e :: es) X.env = (false, eval e X.env) :: starEach es X.env := by rfl) (hpl : (backTo pos (starEach es X.env)).any (·.1) = false := by rfl) : PE (X.suite a ((a, oe) :: pn)) (.Call (.Name x p) (e :: es) [] pos) (tCall (sp a cls d) [] E0 t) := by
  obtain ⟨f, fd, F, hm, hkp, hb⟩ := c.ex
  have hr := hr.mono hk
  refine ⟨fun pins s σ H Q I h => wpAny_Call_Name_kw (ld_glob I hg hm (PySem.W.callWith_K (h₀ := X.base) I.ok.mod.kin hkp (thn (ha.run pos pins s σ H _ I h) fun us s1 ⟨vs, H1, I1, r, q⟩ => ⟨I1.kIn, ?_⟩) he hpl) hdb)⟩
  have r2 := r.append (.nil : Vals [] [])
  have hl : (us ++ []).length = ps.length := by rw [← r2.length]; exact F.len _ _ _ _ _ _ _ q
  have P1 := I1.pin (a, oe) (List.mem_append_left _ List.mem_cons_self)
  have pin : L2H.PinOk X.stack H1 s1 (a, oe) := ⟨P1.1, P1.2.1, fun hm => (List.mem_cons.mp (I1.stkSub a hm)).elim P1.2.2.1 P1.2.2.2.1, P1.2.2.2.2⟩
  refine wpAny_call (codeAny_mono (F.go _ X.stack s1 H1 ⟨us, []⟩ (us ++ []) (vs ++ []) Q E0 a oe cls d hg0 rfl hz hf ⟨hr.dp, hr.un⟩ pin I1.env0 (hb s1 us I1.kIn hl) r2 q) fun y s' hq => ?_)
  match y, hq with
  | .error e, hq => exact passL pins σ H1 s1 e s' I1 hq
  | .ok (.ret u), hq => exact I1.after hq
end
end Ew

set_option Elab.async false
set_option linter.all false
set_option maxRecDepth 100000
set_option maxHeartbeats 4000000
namespace Ew
open PySem PySem.Spec PyProof.Rows L2
/-! ### a new instance whose __init__ may let an error out, at the slots where it is made -/
section
variable {X : Cx} {k j : Nat} {x : Str} {C : Addr} {ps : List Str} {sp : Sp} {e : Expr} {es : List Expr} {t : TA} {p pos : Pos} {W : WX}
def tMkW (C : Addr) (sp : Sp) (W : WX) (t : TA) : TE := fun σ H Q => t σ H fun vs H1 => ∀ o d, H1 o = none → H1 d = none → d ≠ o →
  sp (.ref o :: vs) (upd (upd H1 d (.own o)) o (.ins C d [])) (fun v H2 => v = .non ∧ Q (.ref o) H2) (WE W σ)
theorem pe_mkW (c : Mkr X.prog X.w X.K X.mg X.base k x C ps sp) (tk : Takes X W) (hr : Room j X.A) (hk : k + 1 ≤ j) (hg : Gl X x) (ha : PA X (e :: es) t) (hdb : (x == ("__debug__" : Str)) = false := by decide)
    (he : starEach (e :: es) X.env = (false, eval e X.env) :: starEach es X.env := by rfl) (hpl : (backTo pos (starEach es X.env)).any (·.1) = false := by rfl) : PE X (.Call (.Name x p) (e :: es) [] pos) (tMkW C sp W t) := by
  obtain ⟨f, fd, M, F, hb⟩ := c.ex
  have room : Room (k + 1) X.A := hr.mono hk
  refine ⟨fun pins s σ H Q I h => wpAny_Call_Name_kw (ld_glob I hg c.gC (PySem.W.callWith_K (h₀ := X.base) I.ok.mod.kin M.kp (thn (ha.run pos pins s σ H _ I h) fun us s1 z => ?_) he hpl) hdb)⟩
  obtain ⟨vs, H1, J, r, q⟩ := z
  refine ⟨J.kIn, ?_⟩
  have ask := q (s1.heap.objs.size + 1) s1.heap.objs.size (J.hok.fresh (Nat.le_succ _)) (J.hok.fresh (Nat.le_refl _)) (Nat.ne_of_lt (Nat.lt_succ_self _))
  have both : Vals (V.ref (s1.heap.objs.size + 1) :: vs) (Value.ref (s1.heap.objs.size + 1) :: us) := .cons rfl r
  have many : (Value.ref (s1.heap.objs.size + 1) :: us).length = ps.length := both.length ▸ F.len _ _ _ _ ask
  have J2 := Inv.made (C := C) J
  have bind := hb _ (Value.ref (s1.heap.objs.size + 1) :: us) J2.kIn (by rw [List.append_nil]; exact many)
  rw [List.append_nil] at bind
  have go := F.run _ X.stack _ _ ⟨Value.ref (s1.heap.objs.size + 1) :: us, []⟩ _ _ _ _ (room.make C us []) (J2.env0.make C us []) bind both ask
  refine wpAny_call (make_map (f := f) J.kIn M.makes M.init (beq_iff_eq.mp M.fn) (codeAny_mono go fun y s' end_ => ?_))
  match y, end_ with
  | .error e, end_ => exact passAt tk σ pins _ _ e s' J2 end_
  | .ok (.ret u), end_ =>
    obtain ⟨v, H', J3, rv, rfl, q3⟩ := J2.after end_
    exact ⟨rv, .ref _, H', J3, rfl, q3⟩
end
end Ew

set_option Elab.async false
set_option linter.all false
set_option maxRecDepth 100000
set_option maxHeartbeats 4000000
namespace Ew
open PySem PySem.Spec PyProof.Rows L2
/-! ### a walk over an own class whose __iter__ hands iter of a dict of its own -/
/-- what is known behind such a call -/
def KI (outer : List Env) (P : Program) (w : World) (H : Hp) (s : Shared) (d : Addr) (n ep : Nat) (u : Value) (s' : Shared) : Prop :=
  ∃ (it : Addr) (H' : Hp), u = .ref it ∧ H' = H ∧ s'.os = s.os ∧ AllBare s'.gens ∧ Un (frs outer) [] H H' s.heap s'.heap ∧ HOk P w H' s'.heap ∧ H' it = none ∧ s.heap.objs.size ≤ it ∧ s'.heap.IsKeyIter it d 0 n ep
def KR (outer : List Env) (P : Program) (w : World) (H : Hp) (s : Shared) (d : Addr) (n ep : Nat) (r : Result) (s' : Shared) : Prop :=
  match r with
  | .ok (.ret u) => KI outer P w H s d n ep u s'
  | .ok _ => False
  | .error e => L2.CX P w outer H s E0 e s'
section
variable {P : Program} {w : World} {K : PySem.W.Frag} {mg : Str → Option Value} {base : Heap}
structure FnI (P : Program) (w : World) (K : PySem.W.Frag) (mg : Str → Option Value) (base : Heap) (k : Nat) (f : Addr) (fd : FuncData) (C : Addr) (at_ : Str) : Prop where
  go : ∀ (A : Around) (outer : List Env) (s : Shared) (H : Hp) (args : Args) (a dx d : Addr) (fs : List (Str × V)) (o : Obj) (kvs : List (List Key × V)) (es : Array DictEntry) (ep : Nat), Room k A → Env0 P w K mg base A outer s H → BindsTo s fd args ([("self", .ref a)]) →
    H a = some (.ins C dx fs) → fs.lookup at_ = some (.ref d) → H d = some (.frz o (.dT kvs)) → o.data = .dict es ep →
    codeAny (model P w) A (.call (.ref f) args) (KR outer P w H s d kvs.length ep) s
theorem call_iter_dict {prog : Program} {A : Around} {E : Value → Shared → Prop} {s : Shared} {d : Addr} {o : Obj} {es : Array DictEntry} {ep : Nat} {Q : Value → Shared → Prop} (hd : (d == sysModules) = false) (ho : s.heap.get? d = some o) (hc : o.ExactDict) (hdat : o.data = .dict es ep)
    (hQ : Q (.ref s.heap.objs.size) { s with heap := s.heap.push { cls := .type "dict_keyiterator", data := .fields #[.ref d, .int 0 0, .int es.size 0, .int ep 0] } }) : wpAny (model prog w) A (call (.builtin "iter") [.ref d]) Q E s := by
  refine Calls.call_function_entry (by decide +kernel) (by decide +kernel) PySem.W.kdk_entry_iter (PySem.W.kdk_args_iter _) ?_
  unfold Builtin.«iter»
  refine wpAny_bind (m := someArgs "iter" 1 2 _) (wpAny_of_eq (a := [Value.ref d]) (by first | rfl | kernel_rfl!) ?_)
  show wpAny _ _ (pyIter (.ref d) >>= _) _ _ _
  refine wpAny_bind (iter_keys hd ho hc hdat ?_)
  exact wpAny_pure ⟨_, rfl, hQ⟩
theorem fun_it {q : Str} {st : Stmt} {f C : Addr} {fd : FuncData} {N : List Str} {k : Nat} {at_ : Str} {ea : Expr} {np cp rp : Pos} (F : Fun K "__iter__" q st f fd) (S : FnScope N ["self"] (defScope st)) (hb : defBody st = [.Return (some (.Call (.Name "iter" np) [ea] [] cp)) rp]) (hm : mg "iter" = none)
    (he : ∀ (cdv : Value) (A : Around) (outer : List Env) (s : Shared) (H : Hp), ∃ te : TE, PE (cxB P w K mg base N q st f cdv A outer s H E0) ea te ∧ Gl (cxB P w K mg base N q st f cdv A outer s H E0) "iter" ∧
      starEach [ea] (cxB P w K mg base N q st f cdv A outer s H E0).env = (false, eval ea (cxB P w K mg base N q st f cdv A outer s H E0).env) :: starEach [] (cxB P w K mg base N q st f cdv A outer s H E0).env ∧
      ∀ (H1 : Hp) (Q : VK) (a dx d : Addr) (fs : List (Str × V)), H1 a = some (.ins C dx fs) → fs.lookup at_ = some (.ref d) → Q (.ref d) H1 → te (start N [.ref a]) H1 Q) :
    FnI P w K mg base (k + 1) f fd C at_ := by
  obtain ⟨oc, od, kV, doc, pm, an, cdv, ct, osl, rfl, lk, hcd⟩ := F.ex
  refine ⟨?_⟩
  intro A outer s H args a dx d fs o kvs es ep room e0 bind ha hl hd hdat
  have kept : ∀ b o, base.get? b = some o → s.heap.get? b = some o := fun b o e => (e0.bs b o e).1
  have KX : K.In s.heap := e0.mod.kin.keeps kept
  have locals_ : ∀ y ∈ ([("self", Value.ref a)] : List (Str × Value)), (defScope st).names.lookup y.1 = some .local ∨ ((defScope st).names.lookup y.1 = some .cell ∧ ((cellsFrom (s.heap.objs.size + 1) (defScope st).names []).lookup y.1).isSome = true) := by
    rintro ⟨nm, v⟩ hy
    have hn : nm ∈ (["self"] : List Str) := by
      rcases List.mem_cons.mp hy with h | h
      · cases h; exact List.mem_cons_self
      · exact absurd h List.not_mem_nil
    refine (S.par nm hn).imp id fun q => ⟨q, ?_⟩
    exact PySem.W.cellsFrom_some _ _ _ (.inl q)
  refine codeAny_call_function room.depth (KX _ _ lk) rfl S.co S.gen rfl (PySem.W.codeRec_of KX hcd) (bind _ _ _ _ ?_)
  refine wpAny_newFunctionEnv_cells S.kind locals_ ?_
  rintro env rfl s1 x
  refine ⟨(e0.mod.nolimit.keeps kept).keeps x.toInCall.keep, codeAny_func ?_⟩
  obtain ⟨te, hpe, hg, hst, hte⟩ := he cdv A outer s H
  have I1 : Inv (cxB P w K mg base N q st f cdv A outer s H E0) [] (start N [.ref a]) H s1 := inv_start (us := [.ref a]) S room.hd e0 rfl (.cons rfl .nil) x
  have main : wpAny (model P w) (cxB P w K mg base N q st f cdv A outer s H E0).A (execs (defBody st) (cxB P w K mg base N q st f cdv A outer s H E0).env) (fun fl s' => ∃ it, fl = .ret (.ref it) ∧ (∃ σ', Inv (cxB P w K mg base N q st f cdv A outer s H E0) [] σ' H s') ∧ H it = none ∧ s.heap.objs.size ≤ it ∧ s'.heap.IsKeyIter it d 0 kvs.length ep) (cxB P w K mg base N q st f cdv A outer s H E0).xe s1 := by
    rw [hb]
    refine wpAny_execs_cons (thn (wpAny_Return_some (Q := fun fl s' => ∃ it, fl = .ret (.ref it) ∧ (∃ σ', Inv (cxB P w K mg base N q st f cdv A outer s H E0) [] σ' H s') ∧ H it = none ∧ s.heap.objs.size ≤ it ∧ s'.heap.IsKeyIter it d 0 kvs.length ep) (wpAny_Call_Name_kw (ld_blt I1 hg hm (by decide +kernel : bootBuiltins "iter" = some (.builtin "iter")) ?_ (by decide) (by decide)))) ?_)
    · refine PyProof.Rows.callWith_builtin1 (thn ((pa_cons hpe pa_nil (hs := hst)).run cp [] s1 (start N [.ref a]) H (fun vs H1 => vs = [.ref d] ∧ H1 = H) I1 (hte H _ a dx d fs ha hl ⟨rfl, rfl⟩)) fun us s2 z => ?_) hst (by rfl)
      obtain ⟨vs, H1, I2, r2, rfl, rfl⟩ := z
      obtain ⟨u, rfl, ru⟩ := vals1 r2
      obtain rfl : u = Value.ref d := ru
      obtain ⟨hs, hgd, hx, es', ep', hdt, hsz, ent⟩ := I2.frzT hd
      obtain ⟨rfl, rfl⟩ := dict_ep hdat hdt
      refine call_iter_dict hs hgd hx hdt ⟨_, rfl, ⟨_, I2.kept (t' := s2.toks) fun b ob e => Heap.get?_push_of_some _ e⟩, I2.hok.fresh (Nat.le_refl _), ?_, ⟨_, Heap.get?_push_size _ rfl, rfl, ?_⟩⟩
      · exact I2.sz
      · rw [hsz]
        rfl
    · rintro fl s' ⟨it, rfl, h⟩
      exact ⟨it, rfl, h⟩
  refine wpAny_mono main ?_ (fun e s' z => z)
  rintro fl s' ⟨it, rfl, ⟨σ', J⟩, h1, h2, h3⟩
  exact ⟨it, H, rfl, rfl, J.os, J.bare, J.base, J.hok, h1, h2, h3⟩
end
/-- an own class with such an __iter__, its promise -/
structure ItrC (P : Program) (w : World) (K : PySem.W.Frag) (mg : Str → Option Value) (base : Heap) (k : Nat) (C : Addr) (at_ : Str) : Prop where
  ex : ∃ f fd, OpM K C "__iter__" f ∧ FnI P w K mg base k f fd C at_ ∧ Binds K fd ["self"] []
section
variable {X : Cx} {tg e : Expr} {td : TE} {C : Addr} {at_ : Str} {k j : Nat}
def iOwn (C : Addr) (at_ : Str) (td : TE) : TI := fun σ H R => td σ H fun x H1 => ∃ a dx fs d o kvs, x = .ref a ∧ H1 a = some (.ins C dx fs) ∧ fs.lookup at_ = some (.ref d) ∧ H1 d = some (.frz o (.dT kvs)) ∧ R (Itkt d o kvs) H1
/-- for k in o, o of an own class -/
theorem pi_own (c : ItrC X.prog X.w X.K X.mg X.base k C at_) (hr : Room j X.A) (hk : k ≤ j) (he : PE X e td) : PI X tg e (iOwn C at_ td) := by
  obtain ⟨f, fd, M, FI, hb⟩ := c.ex
  refine ⟨fun pins s σ H R I h => thn (he.run pins s σ H _ I h) fun u s1 z => ?_⟩
  obtain ⟨x, H1, I1, rx, a, dx, fs, d, o, kvs, rfl, ha, hl, hd, q⟩ := z
  obtain rfl : u = Value.ref a := rx
  obtain ⟨od, J⟩ := ins_at I1 ha
  obtain ⟨m, fr⟩ := I1.fr
  obtain ⟨hs, hgd, hx, es, ep, hdt, hsz, ent⟩ := I1.frzT hd
  have b := hb s1 [.ref a] I1.kIn (by rfl)
  refine PySem.W.owit_iter fr I1.ok.mod.kin J M.at_ M.fn (wpAny_call (codeAny_mono (FI.go X.A X.stack s1 H1 ⟨[.ref a], []⟩ a dx d fs o kvs es ep (hr.mono hk) I1.env0 b ha hl hd hdt) fun r s' hq => ?_))
  match r, hq with
  | .error e, hq => exact passL pins σ H1 s1 e s' I1 hq
  | .ok (.ret u), hq =>
    obtain ⟨it, H', rfl, rfl, os, bare, un, hok, hn, hz, hit⟩ := hq
    obtain ⟨hh, g, dd, t, os'⟩ := s'
    obtain rfl : os' = s1.os := os
    have J2 := I1.call (h' := hh) (g' := g) (d' := dd) (t' := t) (ch := []) un hok bare (fun b z => absurd z (by simp))
    show PySem.W.OwitIt _ _ _ _ _ _
    unfold PySem.W.OwitIt
    refine wpAny_specialOf hit.typeIs PySem.F.slot_dict_keyiterator_next.lookup ?_
    refine ⟨it, [it], _, Itkt d o kvs, _, rfl, J2, turn_keysT it hdt, hit, fun b hb => ?_, q⟩
    have e : b = it := by simpa using hb
    subst e
    exact I1.fpOk hz hn
end
end Ew

set_option Elab.async false
set_option linter.all false
set_option maxRecDepth 100000
set_option maxHeartbeats 4000000
namespace Ew
open PySem PySem.Spec PyProof.Rows L2
/-! ### list(o), o of an own class with __len__, whose __iter__ hands iter of a dict of its own -/
section
variable {P : Program} {w : World} {A : Around} {E : Value → Shared → Prop} {s : Shared} {K : PySem.W.Frag} {a f C : Addr} {ox : Obj} {od : Option Obj}
/-- the length is asked, and some room is made where it is above 0 -/
theorem own_length {Q : Bool → Shared → Prop} (hK : K.In s.heap) (J : PySem.W.InstAt s.heap a ox C od) (M : OpM K C "__len__" f)
    (h : wpAny (model P w) A (call (.builtin "len") [.ref a]) (fun v s' => ∃ (n : Nat) (t : Tok), v = .int n t ∧ n ≤ sizeLine ∧ Q (n != 0) s') (fun _ _ => False) s) : wpAny (model P w) A (Builtin.List.listLengthHint (.ref a)) Q E s := by
  unfold Builtin.List.listLengthHint
  refine wpAny_bind (wpAny_bind (J.type.here ((PySem.W.looks_findIn hK M.at_).here ?_)))
  refine PySem.W.KFB.if_not rfl ?_
  refine wpAny_ite_split (fun _ => ?_) (fun z => absurd (show (some (Value.ref f)).isSome = true from rfl) z)
  refine wpAny_bind (wpAny_rule ?_)
  refine wpAny_bind (wpAny_attempt (wpAny_mono h (fun v s' hv => ?_) fun e s' he => ?_))
  · obtain ⟨n, t, rfl, hn, q⟩ := hv
    refine wpAny_bind (wpAny_pure ?_)
    have hl : Builtin.List.listTooLong ((n : Nat) : Int).toNat = false := by
      unfold Builtin.List.listTooLong
      simpa using hn
    show wpAny _ _ (if Builtin.List.listTooLong ((n : Nat) : Int).toNat = true then _ else pure (((n : Nat) : Int) != 0)) _ _ _
    rw [if_neg (by rw [hl]; decide)]
    refine wpAny_pure ?_
    have e : (((n : Nat) : Int) != 0) = (n != 0) := by
      rw [Bool.eq_iff_iff]
      simp
    rw [e]
    exact q
  · exact he.elim
end
section
variable {X : Cx} {pins : List (Addr × Obj)} {σ : L2.St} {H : Hp} {s : Shared} {k : Nat} {f : Addr} {fd : FuncData} {ps : List Str} {sp : Sp}
/-- somewhere below the running body -/
structure Low (X : Cx) (k : Nat) (A : Around) : Prop where
  room : Room k A
  fr : A.frames = X.A.frames
theorem Low.env0 {A : Around} (l : Low X k A) (I : Inv X pins σ H s) : Env0 X.prog X.w X.K X.mg X.base A X.stack s H := by
  have e := I.env0
  exact ⟨l.fr.trans e.frames, e.mod, e.bs, e.bsz, e.funs, e.frf, e.hok, e.bare⟩
/-- a call there of a def that lets nothing out -/
theorem run_low {A : Around} {Q : VK} {us : List Value} {vs : List V} {E : Value → Shared → Prop} (F : FnOk X.prog X.w X.K X.mg X.base (L2.CX X.prog X.w) k f fd ps sp) (l : Low X k A) (hb : Binds X.K fd ps [])
    (I : Inv X pins σ H s) (r : Vals vs us) (h : sp vs H Q E0) : wpAny (model X.prog X.w) A (call (.ref f) us) (EP X pins σ Q) E s := by
  have many : us.length = ps.length := r.length ▸ F.len _ _ _ _ h
  have bind := hb s us I.kIn (by rw [List.append_nil]; exact many)
  rw [List.append_nil] at bind
  refine wpAny_call (codeAny_mono (F.run A X.stack s H ⟨us, []⟩ us vs Q E0 l.room (l.env0 I) bind r h) fun y s' end_ => ?_)
  match y, end_ with
  | .error e, ⟨_, _, _, _, _, _, _, _, _, _, _, _, bad⟩ => exact bad.elim
  | .ok (.ret u), end_ => exact I.after end_
end
section
variable {X : Cx} {C : Addr} {at_ : Str} {k j : Nat} {sp : Sp}
/-- the keys of such a dict, off a row of addresses -/
theorem keys_row {H : Hp} : ∀ {kvs : List (List Key × V)} {vs : List Value}, vs.length = kvs.length → (∀ (i : Nat) (k : List Key) (v : V), kvs[i]? = some (k, v) → ∃ b : Addr, vs[i]? = some (Value.ref b) ∧ H b = some (.tup (k.map kV))) →
    ∃ bs, IsKeys H kvs bs ∧ vs = bs.map Value.ref ∧ Vals (bs.map V.ref) vs
  | [], [], _, _ => ⟨[], .nil, rfl, .nil⟩
  | (k, v) :: kvs, u :: vs, hl, h => by
    obtain ⟨b, e, hb⟩ := h 0 k v rfl
    obtain rfl : u = .ref b := Option.some.inj e
    obtain ⟨bs, h1, h2, h3⟩ := keys_row (by simpa using hl) fun i k v e => h (i + 1) k v e
    exact ⟨b :: bs, .cons hb h1, by rw [h2]; rfl, .cons rfl h3⟩
def rListC (C : Addr) (at_ : Str) (sp : Sp) : List V → Hp → VK → Prop := fun xs H Q => ∃ a dx fs d o kvs, xs = [.ref a] ∧ H a = some (.ins C dx fs) ∧ fs.lookup at_ = some (.ref d) ∧ H d = some (.frz o (.dT kvs)) ∧
  (∀ q, H q = none → sp [.ref a] (upd H q (.lst [])) (fun z H3 => ∃ n : Nat, z = .int n ∧ n ≤ sizeLine ∧ H3 = upd H q (.lst [])) E0) ∧ ∀ p bs, H p = none → IsKeys H kvs bs → Q (.ref p) (upd H p (.lst (bs.map V.ref)))
theorem call_listC (hc : X.calm = true) (ci : ItrC X.prog X.w X.K X.mg X.base k C at_) (cl : OwC X.prog X.w X.K X.mg X.base k C "__len__" ["self"] sp) (hr : Room j X.A) (hk : k + 3 ≤ j) : CallR X (.type "list") (rListC C at_ sp) := by
  intro pins s σ H xs us Q I r h
  obtain ⟨a, dx, fs, d, o, kvs, rfl, ha, hl, hd, hlen, q⟩ := h
  obtain ⟨u, rfl, rx⟩ := vals1 r
  obtain rfl : u = Value.ref a := rx
  obtain ⟨fi, fdi, Mi, FI, bi⟩ := ci.ex
  obtain ⟨fl, fdl, Ml, _, FL, bl⟩ := cl.ex
  refine callType_codes (Q₁ := fun obj s₁ => obj = .ref s.heap.objs.size ∧ s₁ = { s with heap := s.heap.push { cls := .type "list", data := .seq #[] } }) PySem.F.called_list (PySem.F.typeCall_list_1 _) PySem.F.entry_list_init (code_list_new _ ⟨rfl, rfl⟩) ?_
  rintro obj s1 ⟨rfl, rfl⟩
  have I1 : Inv X pins σ (upd H s.heap.objs.size (.lst [])) { s with heap := s.heap.push { cls := .type "list", data := .seq #[] } } := I.lnew (its := []) (t' := s.toks) .nil (Nat.zero_le _)
  have free := I.fresh
  have pa : a ≠ s.heap.objs.size := ne_of_none ha free
  have pd : d ≠ s.heap.objs.size := ne_of_none hd free
  obtain ⟨_, its, n, r1, l1, g1⟩ := I1.lstM upd_same
  cases r1
  refine ⟨⟨_, g1, rfl⟩, PySem.F.args_list_init_2 _ _, ?_⟩
  unfold Builtin.«list.__init__»
  refine wpAny_bind (m := Builtin.List.listItems (.ref s.heap.objs.size)) ?_
  unfold Builtin.List.listItems Builtin.List.listUpdate
  refine wpAny_bind (wpAny_seqItems g1 rfl (wpAny_pure (wpAny_bind (wpAny_updateSeq g1 rfl ?_))))
  have I2 := I1.lset (f := fun _ => #[]) (its := []) (its' := []) (ys := []) (t' := s.toks) upd_same g1 rfl .nil (Nat.zero_le _)
  rw [upd_upd] at I2
  refine wpAny_bind (wpAny_letGo ?_)
  obtain ⟨_, its2, n2, r2, l2, g2⟩ := I2.lstM upd_same
  cases r2
  have ha2 : upd H s.heap.objs.size (.lst []) a = some (.ins C dx fs) := by rw [upd_ne pa]; exact ha
  have hd2 : upd H s.heap.objs.size (.lst []) d = some (.frz o (.dT kvs)) := by rw [upd_ne pd]; exact hd
  have hl2 := hlen _ free
  have hp2 : upd H s.heap.objs.size (.lst []) s.heap.objs.size = some (.lst []) := upd_same
  obtain ⟨H2, eH⟩ : ∃ H2, H2 = upd H s.heap.objs.size (.lst []) := ⟨_, rfl⟩
  rw [← eH] at I2 ha2 hd2 hl2 hp2
  obtain ⟨p, ep⟩ : ∃ p, p = s.heap.objs.size := ⟨_, rfl⟩
  rw [← ep] at g2 hp2 pa pd eH free ⊢
  revert I2 g2
  rw [← ep]
  generalize ({ s with heap := (s.heap.push { cls := .type "list", data := .seq #[] }).update p (Obj.mapSeq fun _ => #[]) } : Shared) = s2
  intro I2 g2
  have low : Low X (k + 1) X.A.in1.in1 := ⟨((hr.mono (show k + 1 + 1 + 1 ≤ j by omega)).in1).in1, rfl⟩
  obtain ⟨oa, J⟩ := ins_at I2 ha2
  obtain ⟨m, fr⟩ := I2.fr
  obtain ⟨_, gd, hx, es, ee, hdt, hsz, ent⟩ := I2.frzT hd2
  -- what is left when the iterator is there and the room is made
  have fin : ∀ (it : Addr) (s5 : Shared) (n5 : Nat), FpOk X pins H2 it → it ≠ p → it ≠ d → Inv X pins σ H2 s5 → s5.heap.get? p = some { cls := .type "list", data := .seq #[] n5 } → s5.heap.IsKeyIter it d 0 es.size ee →
      codeAny (model X.prog X.w) X.A.in1 (.builtin "list.extend.loop" ⟨[.ref p, .ref it, .none], []⟩) (wants (fun r s₂ => r = .none ∧ EP X pins σ Q (.ref p) s₂) X.xe) s5 := by
    intro it s5 n5 hf hip hid I5 g5 hit
    obtain ⟨_, gd5, _⟩ := I5.frzT hd2
    have hz : es.size ≤ sizeLine := by
      rw [hsz]
      exact (I5.hok d _ hd2).2.1
    have off : p ∉ [it, d] := fun z => by
      rcases List.mem_cons.mp z with z | z
      · exact hip z.symm
      · exact pd (List.mem_singleton.mp z).symm
    refine codeAny_extend_loopS (walks_raw (A := X.A.in1.in1) (I.ok.hd hc) it d (Ne.symm hid) hdt).toS hz p off .none es.size 0 _ #[] n5 rfl (Nat.zero_le _) ⟨hit, gd5⟩ g5 (ItemsOf.nil _) fun s6 acc n6 mv g6 all => ?_
    obtain ⟨bs, ks, eb, rv⟩ := keys_row (H := H2) (kvs := kvs) (vs := acc.toList) (by rw [Array.length_toList, all.1, hsz]) fun i k v e => by
      obtain ⟨en, b, h1, h2, h3⟩ := ent i k v e
      have hi : i < acc.size := by
        rw [all.1]
        exact (Array.getElem?_eq_some_iff.mp h1).1
      obtain ⟨en', h4, h5⟩ := all.2 i acc[i] (Array.getElem?_eq_getElem hi)
      rw [h1] at h4
      cases h4
      exact ⟨b, by rw [Array.getElem?_toList, Array.getElem?_eq_getElem hi, h5, h2], h3⟩
    have gp := Heap.get?_update_self (fun _ => ({ cls := .type "list", data := .seq acc n6 } : Obj)) g5 rfl
    have J6 := I5.write (x := p) (e := p) (o := .lst (bs.map V.ref)) (t' := s6.toks) (h' := s5.heap.update p fun _ => { cls := .type "list", data := .seq acc n6 }) (by rw [hp2]; exact trivial) (.inl rfl) (fun b o hb e => (Heap.get?_update_other _ _ (Ne.symm hb)).trans e) ⟨_, gp⟩
      ⟨by rw [List.length_map, ← List.length_map (f := Value.ref), ← eb, Array.length_toList, all.1]; exact hz, acc.toList, n6, rv, by rw [Array.toArray_toList]; exact gp⟩
    obtain ⟨f0, f1, f2, f3, f4, f5⟩ := hf
    have J7 := J6.turned (h' := s6.heap) (t' := s6.toks) (it := it) (fun b o hb e => by
      by_cases ebp : b = p
      · subst ebp
        have e' := gp.symm.trans e
        cases e'
        exact g6
      · exact mv.heap b o (fun z => by
          rcases List.mem_cons.mp z with z | z
          · exact ebp z
          · exact hb (List.mem_singleton.mp z)) ((Heap.get?_update_other _ _ (Ne.symm ebp)).symm.trans e)) (by rw [upd_ne hip]; exact f0) f1 f3 f4 f5
    have fin : EP X pins σ Q (.ref p) s6 := by
      rw [Moved.eq_with mv]
      refine ⟨.ref p, _, J7, rfl, ?_⟩
      rw [eH, upd_upd]
      refine q p bs free (Paired.mapP ks fun x b z => ?_)
      have np : b ≠ p := fun e => by
        rw [e, hp2] at z
        cases z
      rwa [eH, upd_ne np] at z
    exact ⟨rfl, fin⟩
  show wpAny _ _ (Builtin.List.listExtendWith (.ref p) (.ref a) .none) _ _ s2
  unfold Builtin.List.listExtendWith
  have no : (Builtin.List.listSameRef (.ref p) (.ref a) || Value.ref C == .type "list" || Value.ref C == .type "tuple") = false := by
    have : Builtin.List.listSameRef (.ref p) (.ref a) = false := by simp [Builtin.List.listSameRef, Ne.symm pa]
    rw [this]
    rfl
  refine wpAny_bind (J.type.here ?_)
  rw [if_neg (by rw [no]; decide)]
  have b := bi s2 [.ref a] I2.kIn (by rfl)
  refine wpAny_bind (PySem.W.owit_iter fr I2.ok.mod.kin J Mi.at_ Mi.fn (wpAny_call (codeAny_mono (FI.go X.A.in1.in1 X.stack s2 H2 ⟨[.ref a], []⟩ a dx d fs o kvs es ee (low.room.mono (Nat.le_succ k)) (low.env0 I2) b ha2 hl hd2 hdt) fun y s3 end_ => ?_)))
  match y, end_ with
  | .error e, ⟨_, _, _, _, _, _, _, _, _, _, _, _, bad⟩ => exact bad.elim
  | .ok (.ret u), ⟨it, H', eu, eH', os, bare, un, hok, hn, hz, hit⟩ =>
    subst eu
    obtain ⟨hh, g, dd, t, os'⟩ := s3
    obtain rfl : os' = s2.os := os
    subst eH'
    have J3 := I2.call (h' := hh) (g' := g) (d' := dd) (t' := t) (ch := []) un hok bare (fun b z => absurd z (by simp))
    unfold PySem.W.OwitIt
    refine wpAny_specialOf hit.typeIs PySem.F.slot_dict_keyiterator_next.lookup ?_
    have hf := I2.fpOk hz hn
    obtain ⟨oi, gi, ci2, di⟩ := id hit
    have J4 := J3.pinned (fp := [it]) (fun b hb => by rw [List.mem_singleton.mp hb]; exact hf) (fun b hb => by rw [List.mem_singleton.mp hb]; exact ⟨oi, gi, fun v z => by rw [di] at z; cases z⟩)
    obtain ⟨ob, J5⟩ := ins_at J4 ha2
    obtain ⟨m4, fr4⟩ := J4.fr
    have ni : it ≠ p := fun z => by rw [z, hp2] at hn; cases hn
    have nd : it ≠ d := fun z => by rw [z, hd2] at hn; cases hn
    refine wpAny_bind (wpAny_holding (own_length J4.kIn J5 Ml (PySem.W.len_K fr4 J4.ok.mod.kin J5 Ml.at_ Ml.fn (thn (run_low (vs := [.ref a]) FL (⟨low.room.in1, low.fr⟩ : Low X k X.A.in1.in1.in1) bl J4 (.cons rfl .nil) hl2) fun v s4 z => ?_))))
    obtain ⟨v4, H4, J6, r4, c, rfl, hc4, eH4⟩ := z
    obtain ⟨tc, rfl⟩ := r4
    subst eH4
    refine ⟨⟨by omega, by have := sizeLine_eq; omega⟩, c, _, rfl, hc4, ?_⟩
    have J7 := J6.unpinned.tok (s4.toks + 1)
    have at_it : s4.heap.get? it = some oi := (J6.pin (it, oi) (List.mem_append_right _ (List.mem_append_right _ (mem_pinsAt List.mem_cons_self gi)))).1
    have hit4 : s4.heap.IsKeyIter it d 0 es.size ee := ⟨oi, at_it, ci2, by rw [hsz]; exact di⟩
    obtain ⟨_, its5, n5, r5, l5, g5⟩ := J7.lstM hp2
    cases r5
    refine wpAny_ite_split (fun _ => ?_) (fun _ => wpAny_pure ⟨plainId_quiet PySem.F.plain_extend_loop _, fin it _ n5 hf ni nd J7 g5 hit4⟩)
    refine wpAny_bind (wpAny_rule (wpAny_bind ?_))
    unfold Builtin.List.listTouch Builtin.List.listUpdate
    refine wpAny_bind (wpAny_updateSeq g5 rfl ?_ (by simp [sizeLine_eq]) (by simp [sizeLine_eq]))
    have J8 := J7.lset (f := (·.push Value.none)) (its' := [Value.none]) (ys := [.non]) (t' := s4.toks + 1) hp2 g5 (by simp) (.cons rfl .nil) (by simp [sizeLine_eq])
    obtain ⟨_, its8, n8, r8, l8, g8⟩ := J8.lstM upd_same
    obtain ⟨u8, rfl, ru8⟩ := r8.one
    refine wpAny_updateSeq g8 rfl ?_ (by simp [sizeLine_eq]) (by simp [sizeLine_eq])
    have J9 := J8.lset (f := (·.pop)) (its := [u8]) (its' := []) (ys := []) (t' := s4.toks + 1) upd_same g8 (by rfl) .nil (Nat.zero_le _)
    have same : upd (upd H4 p (.lst [.non])) p (.lst []) = H4 := by
      rw [upd_upd]
      funext b
      by_cases e : b = p
      · rw [e, upd_same, hp2]
      · rw [upd_ne e]
    rw [same] at J9
    obtain ⟨_, its9, n9, r9, l9, g9⟩ := J9.lstM hp2
    cases r9
    refine wpAny_pure ⟨plainId_quiet PySem.F.plain_extend_loop _, fin it _ n9 hf ni nd J9 g9 ⟨oi, ?_, ci2, by rw [hsz]; exact di⟩⟩
    exact (Heap.get?_update_other _ _ (Ne.symm ni)).trans ((Heap.get?_update_other _ _ (Ne.symm ni)).trans at_it)
end
end Ew

set_option Elab.async false
set_option linter.all false
set_option maxRecDepth 100000
set_option maxHeartbeats 4000000
namespace Ew
open PySem PySem.Spec PyProof.Rows L2
/-! ### two dicts whose keys are tuples, side by side -/
section
variable {P : Program} {w : World} {A : Around} {E : Value → Shared → Prop} {s : Shared}
abbrev Turn1 := Option Bool × PUnit
/-- places asked one after the other, nothing is changed; the first no is the answer -/
theorem ask_places {Q : Turn1 → Shared → Prop} (b : Nat → Bool) (g : Nat → Turn1 → Sem (ForInStep Turn1)) : ∀ l : List Nat,
    (∀ i ∈ l, ∀ R : ForInStep Turn1 → Shared → Prop, R (if b i = true then .yield (none, ()) else .done (some false, ())) s → wpAny (model P w) A (g i (none, ())) R E s) →
    Q (if l.all b = true then (none, ()) else (some false, ())) s → wpAny (model P w) A (forIn l ((none, ()) : Turn1) g) Q E s
  | [], _, q => by
    rw [List.forIn_nil]
    exact wpAny_pure q
  | i :: l, h, q => by
    rw [List.forIn_cons]
    refine wpAny_bind (h i List.mem_cons_self _ ?_)
    rw [List.all_cons] at q
    cases e : b i with
    | false =>
      rw [e] at q
      exact wpAny_pure q
    | true =>
      rw [e] at q
      exact ask_places b g l (fun j hj => h j (List.mem_cons_of_mem _ hj)) q
variable {K : Type} [DecidableEq K] {kd : HeapKind P w K}
/-- what the pair at a place of the one says of the other -/
def sideB (ys : List (K × Addr × Value)) (e : K → Bool) (x : K × Addr × Value) : Bool := (ys.any fun y => decide (y.1 = x.1)) && e x.1
theorem one_of {ys : List (K × Addr × Value)} (hn : (ys.map (·.1)).Nodup) {i j : Nat} {k : K} {p q : Addr × Value} (h1 : ys[i]? = some (k, p)) (h2 : ys[j]? = some (k, q)) : p = q := by
  have e1 : (ys.map (·.1))[i]? = some k := by rw [List.getElem?_map, h1]; rfl
  have e2 : (ys.map (·.1))[j]? = some k := by rw [List.getElem?_map, h2]; rfl
  obtain ⟨hi, _⟩ := List.getElem?_eq_some_iff.mp e1
  have : i = j := (List.getElem?_inj hi hn).mp (e1.trans e2.symm)
  subst this
  exact (Prod.mk.inj (Option.some.inj (h1.symm.trans h2))).2
theorem side_by_side {nm : String} {a b : Addr} {xs ys : List (K × Addr × Value)} {e : K → Bool} {Q : Bool → Shared → Prop} (hu : kd.room A) (ha : (a == sysModules) = false) (hb : (b == sysModules) = false) (da : s.heap.DictOfH kd a xs) (db : s.heap.DictOfH kd b ys)
    (he : ∀ k p q, (k, p) ∈ xs → (k, q) ∈ ys → SeqAt.EqP P w A s p.2 q.2 (e k)) (q : Q (xs.length == ys.length && xs.all (sideB ys e)) s) : wpAny (model P w) A (Builtin.Dict.samePairs nm a b) Q E s := by
  obtain ⟨oa, ea, pa, ga, _, va, la, ka, _⟩ := da
  obtain ⟨ob, eb, pb, gb, _, vb, lb, kb, nb⟩ := db
  have sa : ea.size = xs.length := by rw [← Array.length_toList, la, List.length_map]
  have sb : eb.size = ys.length := by rw [← Array.length_toList, lb, List.length_map]
  simp only [Builtin.Dict.samePairs, Builtin.Dict.showsAll, ha, hb, Bool.false_eq_true, if_false]
  refine wpAny_bind (wpAny_pure (wpAny_bind (wpAny_pure (wpAny_bind (wpAny_dictEntries ga va (wpAny_bind (wpAny_dictEntries gb vb ?_)))))))
  rw [sa, sb]
  by_cases hl : xs.length = ys.length
  · rw [if_neg (by rw [hl]; simp)]
    rw [hl, beq_self_eq_true, Bool.true_and] at q
    refine wpAny_bind (wpAny_dictEpoch ga va (wpAny_bind ?_))
    rw [Std.Legacy.Range.forIn_eq_forIn_range']
    refine ask_places (fun i => (xs[i]?.map (sideB ys e)).getD true) _ _ (fun i hi R r => ?_) ?_
    · have il : i < xs.length := by
        have := List.mem_range'.mp hi
        simp at this
        omega
      obtain ⟨k, p, hx⟩ : ∃ k p, xs[i]? = some (k, p) := ⟨_, _, List.getElem?_eq_getElem il⟩
      have hm := List.mem_of_getElem? hx
      rw [hx] at r
      refine wpAny_bind (wpAny_dictEntries ga va ?_)
      rw [entry_at la, hx]
      refine wpAny_bind (wpAny_holding (wpAny_bind (wpAny_dictFind_heap (k := k) hu (ka _ hm) gb vb lb kb nb (fun no => ?_) fun j q hj => ?_)))
      · have f : sideB ys e (k, p) = false := by
          have n : (ys.any fun y => decide (y.1 = k)) = false := by
            rw [List.any_eq_false]
            rintro ⟨k2, q2⟩ hy
            obtain ⟨j, hj⟩ := List.mem_iff_getElem?.mp hy
            intro z
            obtain rfl : k2 = k := of_decide_eq_true z
            exact no j q2 hj
          rw [sideB, n, Bool.false_and]
        simp only [Option.map_some, Option.getD_some, f, Bool.false_eq_true, if_false] at r
        exact wpAny_pure (wpAny_pure r)
      · have hy := List.mem_of_getElem? hj
        have f : sideB ys e (k, p) = e k := by
          have n : (ys.any fun y => decide (y.1 = k)) = true := List.any_eq_true.mpr ⟨_, hy, decide_eq_true rfl⟩
          rw [sideB, n, Bool.true_and]
        simp only [Option.map_some, Option.getD_some, f] at r
        refine wpAny_bind (wpAny_dictEntries gb vb ?_)
        rw [entry_at lb, hj]
        refine wpAny_holding (he k p q hm hy _ _ ?_)
        cases ek : e k with
        | false =>
          rw [ek] at r
          exact wpAny_pure r
        | true =>
          rw [ek] at r
          refine wpAny_bind (wpAny_dictEpoch ga va ?_)
          rw [if_neg (by simp)]
          exact wpAny_pure r
    · have f : ((List.range' 0 xs.length 1).all fun i => (xs[i]?.map (sideB ys e)).getD true) = xs.all (sideB ys e) := by
        rw [Bool.eq_iff_iff, List.all_eq_true, List.all_eq_true]
        constructor
        · intro h x hx
          obtain ⟨i, hi⟩ := List.mem_iff_getElem?.mp hx
          have il := (List.getElem?_eq_some_iff.mp hi).1
          have := h i (List.mem_range'.mpr ⟨i, il, by simp⟩)
          rw [hi] at this
          exact this
        · intro h i hi
          cases hx : xs[i]? with
          | none => rfl
          | some x => exact h x (List.mem_of_getElem? hx)
      have g : (Std.Legacy.Range.size { start := 0, stop := xs.length, step := 1, step_pos := Nat.one_pos }) = xs.length := by
        simp [Std.Legacy.Range.size]
      rw [g, f]
      cases r : xs.all (sideB ys e) <;> (rw [r] at q; exact wpAny_pure q)
  · rw [if_pos (by simpa using hl)]
    have hf : (xs.length == ys.length) = false := by simpa using hl
    rw [hf, Bool.false_and] at q
    exact wpAny_bind (wpAny_rule (wpAny_pure q))
/-- a == b -/
theorem dd_eq {a b : Addr} {xs ys : List (K × Addr × Value)} {e : K → Bool} {Q : Value → Shared → Prop} (hc : A.units < cLine) (hu : kd.room A.in1) (ha : (a == sysModules) = false) (hb : (b == sysModules) = false) (da : s.heap.DictOfH kd a xs) (db : s.heap.DictOfH kd b ys)
    (he : ∀ k p q, (k, p) ∈ xs → (k, q) ∈ ys → SeqAt.EqP P w A.in1 s p.2 q.2 (e k)) (q : Q (.bool (xs.length == ys.length && xs.all (sideB ys e))) s) : wpAny (model P w) A (richCompare .Eq (.ref a) (.ref b)) Q E s := by
  have ta : s.TypeIs (.ref a) "dict" := da.typeIs
  have tb : s.TypeIs (.ref b) "dict" := db.typeIs
  refine wpAny_richCompare_same_room (op := .Eq) ta tb PySem.F.slot_dict_eq ?_ hc
  refine wpAny_call_entry PySem.F.slot_dict_eq ta PySem.F.entry_dict_eq ?_ (PySem.F.args_dict_eq_2 _ _)
  refine wpAny_bind (m := Builtin.Dict.dictSlotArgs "__eq__" ⟨[.ref a, .ref b], []⟩) (wpAny_bind (wpAny_notOrdered_dict ta (wpAny_pure ?_)))
  refine wpAny_bind (wpAny_isInstance (T := "dict") (b := true) tb PySem.F.sub_dict_dict ?_)
  refine wpAny_bind (m := Builtin.Dict.addrOf (.ref a)) (wpAny_pure (wpAny_bind (m := Builtin.Dict.addrOf (.ref b)) (wpAny_pure (wpAny_bind (side_by_side hu ha hb da db he ?_)))))
  have f : Q (.bool ((xs.length == ys.length && xs.all (sideB ys e)) == true)) s := by
    rw [beq_true]
    exact q
  refine wpAny_pure ⟨_, rfl, ?_, f⟩
  rintro ⟨⟩
end
/-! ### == of two such dicts by what the reading says of them -/
def inB (kb : List (List Key × V)) (e : List Key → Bool) (p : List Key × V) : Bool := (kb.any fun q => decide (q.1 = p.1)) && e p.1
def rEqT (K : PySem.W.Frag) : R2 := fun x y H Q => ∃ a b ka kb e, x = .ref a ∧ y = .ref b ∧ Rd H a (.dT ka) ∧ Rd H b (.dT kb) ∧
  (∀ k v u, (k, v) ∈ ka → (k, u) ∈ kb → ∃ d1 d2, Dp K H v d1 ∧ Dp K H u d2 ∧ SeqAt.shaped d1 = true ∧ SeqAt.shaped d2 = true ∧ PyData.eqv d1 d2 = e k) ∧ Q (.bl (ka.length == kb.length && ka.all (inB kb e))) H
theorem kt_back {H : Hp} {ks : List (List Key × V)} {xs : List (List Key × Addr × Value)} (r : KT H ks xs) : ∀ k p, (k, p) ∈ xs → ∃ v, (k, v) ∈ ks ∧ RelV v p.2 := by
  induction r with
  | nil => exact fun k p h => nomatch h
  | cons h t ih =>
    intro k p m
    rcases List.mem_cons.mp m with z | z
    · subst z
      exact ⟨_, List.mem_cons.mpr (.inl (Prod.ext h.1.symm rfl)), h.2.2⟩
    · obtain ⟨v, hv, rv⟩ := ih k p z
      exact ⟨v, List.mem_cons_of_mem _ hv, rv⟩
theorem kt_len {H : Hp} {ks : List (List Key × V)} {xs : List (List Key × Addr × Value)} (r : KT H ks xs) : xs.length = ks.length := by
  induction r with
  | nil => rfl
  | cons h t ih => rw [List.length_cons, List.length_cons, ih]
theorem kt_any {H : Hp} {ks : List (List Key × V)} {xs : List (List Key × Addr × Value)} (r : KT H ks xs) (k : List Key) : (xs.any fun y => decide (y.1 = k)) = ks.any fun q => decide (q.1 = k) := by
  induction r with
  | nil => rfl
  | cons h t ih => rw [List.any_cons, List.any_cons, ih, h.1]
theorem kt_all {H : Hp} {ka kb : List (List Key × V)} {xs ys : List (List Key × Addr × Value)} (r : KT H ka xs) (t : KT H kb ys) (e : List Key → Bool) : xs.all (sideB ys e) = ka.all (inB kb e) := by
  induction r with
  | nil => rfl
  | cons h _ ih => rw [List.all_cons, List.all_cons, ih, sideB, inB, kt_any t, h.1]
theorem op_eqT {X : Cx} (hu : X.A.units + 65 < cLine) : OpR X (compareOp .Eq) (rEqT X.K) := by
  intro pins s σ H x y v u Q I rx ry h
  obtain ⟨a, b, ka, kb, e, rfl, rfl, ea, eb, he, q⟩ := h
  obtain rfl : v = Value.ref a := rx
  obtain rfl : u = Value.ref b := ry
  obtain ⟨_, na, xs, ra, da⟩ := dt_rd I.hok ea
  obtain ⟨_, nb, ys, rb, db⟩ := dt_rd I.hok eb
  refine dd_eq (e := e) (by omega) (show X.A.in1.units < cLine from ?_) na nb da db (fun k p z hp hz => ?_) ?_
  · show X.A.units + 1 < cLine
    omega
  · obtain ⟨v1, m1, r1⟩ := kt_back ra k p hp
    obtain ⟨v2, m2, r2⟩ := kt_back rb k z hz
    obtain ⟨d1, d2, h1, h2, s1, s2, f⟩ := he k v1 v2 m1 m2
    obtain ⟨as, w1⟩ := Dp.reads I d1 v1 _ h1 r1
    obtain ⟨bs, w2⟩ := Dp.reads I d2 v2 _ h2 r2
    rw [← f]
    exact (PySem.W.keq_at w1 w2 s1 s2 (show X.A.units + 1 + 64 < cLine by omega)).eqP
  · rw [kt_len ra, kt_len rb, kt_all ra rb]
    exact ⟨.bl _, H, I, rfl, q⟩
end Ew

set_option Elab.async false
set_option linter.all false
set_option maxRecDepth 100000
set_option maxHeartbeats 4000000
namespace Ew
open PySem PySem.Spec PyProof.Rows L2
section
variable {X : Cx} {e : Expr} {te : TE}
/-- behind an expression a thing of the def's own is not to be written any more -/
def tKeep (te : TE) : TE := fun σ H Q => te σ H fun v H' => ∃ d u, H' d = some u ∧ Mut (some u) ∧ ∀ o, Q v (upd H' d (.frz o u))
theorem pe_keep (h : PE X e te) : PE X e (tKeep te) := ⟨fun pins s σ H Q I q => thn (h.run pins s σ H _ I q) fun _ _ ⟨v, H', J, r, d, u, hd, mu, k⟩ => by
  obtain ⟨o, J2⟩ := J.lock hd mu
  exact ⟨v, _, J2, r, k o⟩⟩
/-- len of a dict whose keys are tuples, written or not -/
def rLenF : List V → Hp → VK → Prop := fun xs H Q => ∃ p kvs, xs = [.ref p] ∧ Rd H p (.dT kvs) ∧ Q (.int ((kvs.length : Nat) : Int)) H
theorem call_lenF : CallR X (.builtin "len") rLenF := by
  intro pins s σ H xs us Q I r h
  obtain ⟨p, kvs, rfl, hp, q⟩ := h
  obtain ⟨u, rfl, rx⟩ := vals1 r
  obtain rfl : u = Value.ref p := rx
  obtain ⟨z, ns, ys, kt, d⟩ := dt_rd I.hok hp
  have l : ys.length = kvs.length := kt_len kt
  refine call_len_dictH ns d (by have := sizeLine_eq; omega) ?_
  rw [l]
  exact ⟨.int _, H, (I.tok _).tok _, ⟨_, rfl⟩, q⟩
/-- room for what stands a little deeper -/
theorem units5 {k : Nat} {A : Around} (r : Room k A) : A.units + 65 < cLine := by
  have := r.un
  omega
end
end Ew

set_option Elab.async false
set_option linter.all false
set_option maxRecDepth 100000
set_option maxHeartbeats 4000000
namespace Ew
open PySem PySem.Spec PyProof.Rows L2
/-! ### enumerate(a tuple) -/
section
variable {P : Program} {w : World} {A : Around} {E : Value → Shared → Prop} {s : Shared}
theorem enum_new {v : Value} {o : Obj} {G : Heap → Prop} (B : Begins v o G) : Meets (Builtin.«enumerate.__new__» ⟨[.type "enumerate", v], []⟩) (fun _ R s => G s.heap ∧
    R (.ok (.ret (.ref (s.heap.push o).objs.size))) { s with heap := (s.heap.push o).push { cls := .type "enumerate", data := .fields #[.none, .bool false, .ref s.heap.objs.size, rawInt 0, .none, .none] } }) :=
  .of_wp fun P w A R s z => by
    obtain ⟨hp, g, d, tk, os⟩ := s
    obtain ⟨here, q⟩ := z
    have sub := sub_enumerate
    have go : ∀ {A' : Around} {E : Value → Shared → Prop} {Q : Value → Shared → Prop}, Q (.ref hp.objs.size) ⟨hp.push o, g, d, tk, os⟩ → wpAny (model P w) A' (pyIter v) Q E ⟨hp, g, d, tk, os⟩ := fun k => B.iter P w _ _ ⟨hp, g, d, tk, os⟩ _ here k
    wp_walk using go
    refine wpAny_stack_any fun st => wpAny_pure ?_
    split
    · rename_i c _ _ _ _ _
      cases (c == Value.type "enumerate") <;> (wp_walk using go; exact ⟨_, rfl, q⟩)
    · wp_walk using go
      exact ⟨_, rfl, q⟩
theorem enum_call {v : Value} {o : Obj} {G : Heap → Prop} {Q : Value → Shared → Prop} (B : Begins v o G) (here : G s.heap)
    (k : ∀ h', IsEnum h' (s.heap.objs.size + 1) s.heap.objs.size 0 .none → h'.get? s.heap.objs.size = some o → (∀ b u, s.heap.get? b = some u → h'.get? b = some u) → Q (.ref (s.heap.objs.size + 1)) { s with heap := h' }) :
    wpAny (model P w) A (call (.type "enumerate") [v]) Q E s := by
  refine callType_new F.called_enumerate (by decide) (F.typeCall_enumerate_1 _) (F.newCall_enumerate_1 _) (fun obj => F.args_object_init_2 obj _) F.entry_enumerate_new (enum_new B) ⟨here, ?_⟩
  have z : (s.heap.push o).objs.size = s.heap.objs.size + 1 := Heap.size_push ..
  have e := Heap.get?_push_size (s.heap.push o) (o := { cls := .type "enumerate", data := .fields #[.none, .bool false, .ref s.heap.objs.size, rawInt 0, .none, .none] }) rfl
  show _ ∧ _
  rw [z] at e ⊢
  exact ⟨⟨_, e, rfl⟩, k _ e (Heap.get?_push_of_some _ (Heap.get?_push_size _ B.free)) fun b u q => Heap.get?_push_of_some _ (Heap.get?_push_of_some _ q)⟩
end
/-- the tuple at a, each item in a new pair behind its place -/
def IteT (K : PySem.W.Frag) (a : Addr) : It where
  go := fun i H => ∃ (xs : List V) (x : V), SqT K H a xs ∧ xs[i]? = some x
  yld := fun i H v H' => ∃ T x, v = .ref T ∧ H T = none ∧ H' = upd H T (.tup [.int (i : Nat), x]) ∧ ∀ xs, SqT K H a xs → xs[i]? = some x
  stop := fun i H => ∃ xs : List V, SqT K H a xs ∧ i = xs.length
theorem two {c e it : Addr} (h : c ∈ [e, it]) : c = e ∨ c = it := by
  simp only [List.mem_cons, List.not_mem_nil, or_false] at h
  exact h
theorem turn_enumT {P : Program} {w : World} {K : PySem.W.Frag} {elts : List Expr} {kk : Nat} {tpos : Pos} {a e it : Addr} (ne : e ≠ it) (na : a ≠ it) (ea : e ≠ a) :
    Turn P w K (.Tuple elts kk tpos) (IteT K a) [e, it] e (fun i h => (∃ old, IsEnum h e it ((i : Nat) : Int) old) ∧ h.IsTupleIter it a i) where
  mem := List.mem_cons_self
  obj := fun i h st c hc => by
    obtain ⟨⟨_, q1⟩, ⟨o, q2, _, d2⟩⟩ := st
    rcases two hc with rfl | rfl
    · exact ⟨_, q1, fun v e => nomatch e⟩
    · exact ⟨o, q2, fun v e => by rw [d2] at e; cases e⟩
  keep := fun i h h' st k => by
    obtain ⟨⟨x, q1⟩, q2⟩ := st
    exact ⟨⟨x, k _ List.mem_cons_self _ q1⟩, q2.at fun o e => k _ (by simp) o e⟩
  item := by
    intro X hP hw hK hc i pins s σ H E I hf st go
    subst hP hw hK
    obtain ⟨⟨x0, q1⟩, q2⟩ := st
    obtain ⟨xs, x, sx, hx⟩ := go
    obtain ⟨l, r, p, _⟩ := I.tuple sx
    obtain ⟨u, hu, ru⟩ := r.get hx
    have D := Draws.tuple (prog := X.prog) (w := X.w) (A := X.A.in1) (I.ok.hd hc) it a na l.toArray
    have g : i < l.toArray.size := by
      rw [List.size_toArray]
      exact (List.getElem?_eq_some_iff.mp hu).1
    have le := Heap.lt_size q1
    have li : it < s.heap.objs.size := by obtain ⟨_, e, _⟩ := q2; exact Heap.lt_size e
    refine wpAny_pyNext_enum_itemD D q1 ⟨q2, p⟩ g ne (fun z => (List.mem_cons.mp z).elim ne fun z => ea (List.mem_singleton.mp z)) fun v h' tk e1 w1 w2 w3 w4 w5 => ?_
    rw [List.getElem?_toArray, hu] at e1
    cases e1
    refine ⟨_, rfl, wpAny_letOwnedTupleGo_enum (s := { s with heap := h', toks := tk + 1 }) w1 fun h'' w1' sb => ?_⟩
    have nw : h''.get? s.heap.objs.size = some { cls := .type "tuple", data := .seq #[.int i tk, u] } := (sb.2 _ (Nat.ne_of_gt le)).trans w3
    have ob : ObjOk X.prog X.w (upd H s.heap.objs.size (.tup [.int (i : Nat), x])) h'' s.heap.objs.size (.tup [.int (i : Nat), x]) := by
      refine ⟨?_, [.int i tk, u], .cons ⟨_, rfl⟩ (.cons ru .nil), ⟨_, nw, rfl, _, rfl⟩⟩
      show 2 ≤ sizeLine
      decide
    have off : ∀ c o, c ∉ [e, it] → s.heap.get? c = some o → h''.get? c = some o := fun c o hb q => by
      have n : c ≠ e ∧ c ≠ it := ⟨fun q => hb (by simp [q]), fun q => hb (by simp [q])⟩
      exact (sb.2 c n.1).trans (w5 c o n.1 n.2 q)
    have I1 : Inv X pins σ (upd H s.heap.objs.size (.tup [.int (i : Nat), x])) { s with heap := h'', toks := tk + 1 } := I.turnedNew off hf (Nat.le_refl _) ob
    refine ⟨.ref s.heap.objs.size, _, I1, rfl, ⟨_, x, rfl, I.hok.fresh (Nat.le_refl _), rfl, fun ys hl => ?_⟩, ⟨⟨_, w1'⟩, ?_⟩, fun c hcm => ?_⟩
    · rw [I.tuple_inj hl sx]
      exact hx
    · exact w2.1.at fun o q => (sb.2 _ ne.symm).trans q
    · have lt : c < s.heap.objs.size := by
        rcases two hcm with rfl | rfl
        · exact le
        · exact li
      rw [upd_ne (Nat.ne_of_lt lt)]
      exact (hf c hcm).1
  done := by
    intro X hP hw hK hc i pins s σ H E I hf st go
    subst hP hw hK
    obtain ⟨⟨x0, q1⟩, q2⟩ := st
    obtain ⟨xs, sx, hi⟩ := go
    obtain ⟨l, r, p, _⟩ := I.tuple sx
    have el := r.length
    have D := Draws.tuple (prog := X.prog) (w := X.w) (A := X.A.in1) (I.ok.hd hc) it a na l.toArray
    have ez : l.toArray.size = i := by
      rw [List.size_toArray, hi]
      exact el.symm
    refine wpAny_pyNext_enum_endD D q1 (by rw [ez]; exact ⟨q2, p⟩) fun h' k => ⟨rfl, ?_⟩
    exact I.turnedL (ch := [e, it]) (fun c o hb q => k c o (fun z => hb (by simp [z])) q) hf
  self := fun A i s Q E st h => wpAny_pyIter_enum st.1.choose_spec h
def iEnumT (K : PySem.W.Frag) (ta : TA) : TI := fun σ H R => ta σ H fun vs H1 => ∃ a xs, vs = [.ref a] ∧ SqT K H1 a xs ∧ R (IteT K a) H1
theorem pi_enumT {X : Cx} {e : Expr} {ta : TA} {p pos tpos : Pos} {elts : List Expr} {kk : Nat} (hg : Gl X "enumerate") (hm : X.mg "enumerate" = none) (ha : PA X [e] ta) (hs : starEach [e] X.env = [(false, eval e X.env)] := by rfl) :
    PI X (.Tuple elts kk tpos) (.Call (.Name "enumerate" p) [e] [] pos) (iEnumT X.K ta) := by
  refine ⟨fun pins s σ H R I h => Call_ (ld_blt I hg hm boot_enumerate (PyProof.Rows.callWith_type1 (thn (ha.run pos pins s σ H _ I h) fun us s1 z => ?_) hs rfl))⟩
  obtain ⟨vs, H1, I1, r1, a, xs, rfl, sx, q⟩ := z
  obtain ⟨u, rfl, ru⟩ := vals1 r1
  cases ru
  obtain ⟨l, rv, p1, _⟩ := I1.tuple sx
  have la : a < s1.heap.objs.size := by
    obtain ⟨o, e, _⟩ := id p1
    exact Heap.lt_size e
  refine enum_call (begins_tuple a l.toArray) p1 fun h' he hi k => wpAny_pyIter_enum he ?_
  have I2 : Inv X pins σ H1 { s1 with heap := h' } := I1.kept (t' := s1.toks) k
  refine ⟨s1.heap.objs.size + 1, [s1.heap.objs.size + 1, s1.heap.objs.size], _, _, H1, rfl, I2, turn_enumT (a := a) (e := s1.heap.objs.size + 1) (it := s1.heap.objs.size) (Nat.succ_ne_self _) (Nat.ne_of_lt la) (Nat.ne_of_gt (Nat.lt_succ_of_lt la)), ⟨⟨_, he⟩, ⟨_, hi, rfl, rfl⟩⟩, fun b hb => ?_, q⟩
  have le : s1.heap.objs.size ≤ b := by
    rcases two hb with rfl | rfl
    · exact Nat.le_add_right _ _
    · exact Nat.le_refl _
  exact I1.fpOk le (I1.hok.fresh le)
/-- enumerate(a list or a tuple) -/
theorem pi_enumX {X : Cx} {e : Expr} {ta : TA} {p pos tpos : Pos} {elts : List Expr} {kk : Nat} (hg : Gl X "enumerate") (hm : X.mg "enumerate" = none) (ha : PA X [e] ta) (hs : starEach [e] X.env = [(false, eval e X.env)] := by rfl) :
    PI X (.Tuple elts kk tpos) (.Call (.Name "enumerate" p) [e] [] pos) (fun σ H R => iEnum X.K ta σ H R ∨ iEnumT X.K ta σ H R) :=
  ⟨fun pins s σ H R I h => h.elim ((pi_enum hg hm ha hs).run pins s σ H R I) ((pi_enumT hg hm ha hs).run pins s σ H R I)⟩
end Ew

set_option Elab.async false
set_option linter.all false
set_option maxRecDepth 100000
set_option maxHeartbeats 4000000
namespace Ew
open PySem PySem.Spec PyProof.Rows L2
/-! ### an attribute as a target among others -/
section
variable {X : Cx} {o : Expr} {f : Str} {ta : TE} {pos : Pos}
def gFld (K : PySem.W.Frag) (ta : TE) (f : Str) : TG := fun v σ H Q => ta σ H fun x H1 => ∃ a C dx fs, x = .ref a ∧ H1 a = some (.ins C dx fs) ∧ Cls K C ∧ NoAttr K C f ∧ fs.length < 1000 ∧ Q σ (upd H1 a (.ins C dx (putF f v fs)))
theorem pg_fld (ha : PE X o ta) : PG X (.Attribute o f pos) (gFld X.K ta f) := by
  refine ⟨fun pins s σ H v u Q I r h => PySem.W.kas_attr (thn (ha.run pins s σ H _ I h) fun ov s2 ⟨x, H2, I2, rx, z⟩ => ?_)⟩
  obtain ⟨a, C, dx, fs, rfl, ea, c, n, l, q⟩ := z
  obtain rfl : ov = Value.ref a := rx
  exact setattr_ok I2 ea c n l r fun s3 I3 => ⟨σ, _, I3, q⟩
end
/-! ### an instance that is called -/
/-- its class has __call__, with a promise -/
structure ClmC (P : Program) (w : World) (K : PySem.W.Frag) (mg : Str → Option Value) (base : Heap) (k : Nat) (C : Addr) (ps : List Str) (sp : Sp) : Prop where
  ex : ∃ f fd, StX.CallO K C f ∧ FnOk P w K mg base (L2.CX P w) k f fd ps sp ∧ Binds K fd ps []
section
variable {X : Cx} {k j : Nat} {C : Addr} {ps : List Str} {sp : Sp} {e fe : Expr} {es : List Expr} {tf : TE} {t : TA} {pos : Pos} {W : WX}
def tCallI (C : Addr) (sp : Sp) (W : WX) (tf : TE) (t : TA) : TE := fun σ H Q => tf σ H fun y H1 => ∃ a, y = .ref a ∧ t σ H1 fun vs H2 => (∃ dx fs, H2 a = some (.ins C dx fs)) ∧ sp (.ref a :: vs) H2 Q (WE W σ)
theorem pe_callI (c : ClmC X.prog X.w X.K X.mg X.base k C ps sp) (tk : Takes X W) (hr : Room j X.A) (hk : k ≤ j) (hf : PE X fe tf) (ha : PA X (e :: es) t)
    (ht : eval (.Call fe (e :: es) [] pos) X.env = (do callWith pos (← eval fe X.env) [] (backTo pos (starEach (e :: es) X.env)) (backToKw pos (keywordEach [] X.env))) := by rfl)
    (he : starEach (e :: es) X.env = (false, eval e X.env) :: starEach es X.env := by rfl) (hpl : (backTo pos (starEach es X.env)).any (·.1) = false := by rfl) : PE X (.Call fe (e :: es) [] pos) (tCallI C sp W tf t) := by
  obtain ⟨f, fd, cc, F, hb⟩ := c.ex
  refine ⟨fun pins s σ H Q I h => Call_ (thn (hf.run pins s σ H _ I h) fun u s1 ⟨y, H1, I1, ry, a, ey, q⟩ => ?_) ht⟩
  subst ey
  obtain rfl : u = Value.ref a := ry
  refine StX.callO_with (thn (ha.run pos pins s1 σ H1 _ I1 q) fun us s2 ⟨vs, H2, I2, r, ⟨dx, fs, ei⟩, q2⟩ => ?_) he hpl
  obtain ⟨ox, od, J, hd⟩ := StX.insC_at I2 (.inr ⟨dx, fs, ei⟩)
  refine ⟨⟨C, ox, od, J, hd⟩, wpAny_call (PySem.W.kco_code I2.kIn J hd cc.at_ cc.fn cc.fi ?_)⟩
  have many : (Value.ref a :: us).length = ps.length := (Paired.length (show Vals (.ref a :: vs) (.ref a :: us) from .cons rfl r)) ▸ F.len _ _ _ _ q2
  have bind := hb s2 (.ref a :: us) I2.kIn (by rw [List.append_nil]; exact many)
  rw [List.append_nil] at bind
  refine codeAny_mono (F.run X.A X.stack s2 H2 ⟨.ref a :: us, []⟩ (.ref a :: us) (.ref a :: vs) Q (WE W σ) (hr.mono hk) I2.env0 bind (.cons rfl r) q2) fun y s' end_ => ?_
  match y, end_ with
  | .error e, end_ => exact passAt tk σ pins H2 s2 e s' I2 end_
  | .ok (.ret u), end_ => exact I2.after end_
end
/-! ### a new instance, some of its __init__'s values its defaults -/
structure MkrD (P : Program) (w : World) (K : PySem.W.Frag) (mg : Str → Option Value) (base : Heap) (k : Nat) (x : Str) (C : Addr) (ps : List Str) (sp : Sp) (dvs : List V) : Prop where
  gC : mg x = some (.ref C)
  ex : ∃ f fd ds, Mk K C f ∧ FnOk P w K mg base (L2.CX P w) k f fd ps sp ∧ Binds K fd ps ds ∧ Vals dvs ds
section
variable {X : Cx} {k j : Nat} {x : Str} {C : Addr} {ps : List Str} {sp : Sp} {dvs : List V} {e : Expr} {es : List Expr} {t : TA} {p pos : Pos}
theorem pe_mkD (c : MkrD X.prog X.w X.K X.mg X.base k x C ps sp dvs) (hr : Room j X.A) (hk : k + 1 ≤ j) (hg : Gl X x) (ha : PA X (e :: es) t) (hdb : (x == ("__debug__" : Str)) = false := by decide)
    (he : starEach (e :: es) X.env = (false, eval e X.env) :: starEach es X.env := by rfl) (hpl : (backTo pos (starEach es X.env)).any (·.1) = false := by rfl) : PE X (.Call (.Name x p) (e :: es) [] pos) (tMake C sp dvs E0 t) := by
  obtain ⟨f, fd, ds, M, F, hb, hd⟩ := c.ex
  exact pe_make M F (hr.mono hk) hg c.gC hb hd passL ha hdb he hpl
theorem pe_mkD0 (c : MkrD X.prog X.w X.K X.mg X.base k x C ps sp dvs) (hr : Room j X.A) (hk : k + 1 ≤ j) (hg : Gl X x) (hdb : (x == ("__debug__" : Str)) = false := by decide) : PE X (.Call (.Name x p) [] [] pos) (tMake C sp dvs E0 tNil) := by
  obtain ⟨f, fd, ds, M, F, hb, hd⟩ := c.ex
  exact pe_make0 M F (hr.mono hk) hg c.gC hb hd passL hdb
end
/-! ### a method without arguments -/
section
variable {X : Cx} {k j : Nat} {C : Addr} {m : Str} {ps : List Str} {sp : Sp} {o : Expr} {ta : TE} {apos pos : Pos}
theorem pe_mf0 {pl : Sem Bool} (c : Mt X.prog X.w X.K X.mg X.base k C m ps sp []) (hr : Room j X.A) (hk : k ≤ j) (he : PE X o ta)
    (ht : eval (.Call (.Attribute o m apos) [] [] pos) X.env = (do
      let v ← eval o X.env
      standAt apos.atName
      let (g, first) ← holding [v] (getMethod v m pl)
      callWith pos g first (backTo pos (starEach [] X.env)) (backToKw pos (keywordEach [] X.env))) := by rfl) : PE X (.Call (.Attribute o m apos) [] [] pos) (tMeth C m sp [] E0 ta tNil) := by
  obtain ⟨f, fd, ds, M, F, hb, hd⟩ := c.ex
  cases hd
  exact pe_meth0 he c.cl M F (hr.mono hk) hb .nil passL ht
end
/-! ### an own sign with something of a built-in kind at its right -/
section
variable {P : Program} {w : World} {A : Around} {E : Value → Shared → Prop} {s : Shared} {K : PySem.W.Frag} {x C L f : Addr} {hp : Heap} {mo : Str → Option Value} {ox : Obj} {od : Option Obj} {T : String} {op : Operator} {b : Value} {fo ro rc : Option Value} {Q : Value → Shared → Prop}
theorem bin_left (fr : Fr hp L s.heap mo) (kin : K.In hp) (J : PySem.W.InstAt s.heap x ox C od) (ty : PySem.W.Looks (model P w) s.heap (typeOf b) (.type T)) (sf : PySem.W.selfFirst K C = true)
    (M : OpM K C (PySem.dunder op.info.2) f) (hr : PySem.W.findIn K (.ref C) (PySem.dunderR op.info.2) = some none)
    (h1 : PySem.W.findIn K (.type T) (PySem.dunder op.info.2) = some fo) (h2 : PySem.W.findIn K (.type T) (PySem.dunderR op.info.2) = some ro) (sub : PySem.W.subIn K (.type T) (.ref C) = some false)
    (run : wpAny (model P w) A (call (.ref f) [.ref x, b]) (PySem.W.CmpBack Q) E s) : wpAny (model P w) A (binaryOp op (.ref x) b) Q E s := by
  have XX := kin.keeps fr.keep
  obtain ⟨at_, fn⟩ := M
  obtain ⟨cd, rest, own, first⟩ := PySem.W.ksp_first sf
  rcases key : op.info with ⟨sign, nm⟩
  rw [key] at at_ hr h1 h2
  dsimp only at at_ hr h1 h2
  have last := PySem.W.ksp_try XX J at_ fn run
  obtain ⟨hh, gg, dd, tt, os⟩ := s
  have y1 : PySem.W.Looks (model P w) hh (typeOf (.ref x)) (.ref C) := J.type
  have y2 : PySem.W.Looks (model P w) hh (typeOf b) (.type T) := ty
  have y3 : PySem.W.Looks (model P w) hh (fillsNumberSlot (.ref C) nm) true := PySem.W.fills_K XX own first at_
  have y4 : PySem.W.Looks (model P w) hh (fillsNumberSlot (.type T) nm) ((fo.isSome && !isSeqSlot fo) || (ro.isSome && !isSeqSlot ro)) := PySem.W.ksp_fillsT XX h1 h2
  have y5 : PySem.W.Looks (model P w) hh (isSubtype (.type T) (.ref C)) false := PySem.W.looks_subIn XX sub
  have y6 : PySem.W.Looks (model P w) hh (numberSlotInPython (.ref C) nm) true := PySem.W.ksp_inPy XX at_ hr (.inl rfl)
  have y7 : PySem.W.Looks (model P w) hh (numberSlotInPython (.type T) nm) false := PySem.W.Looks.of_pure rfl
  have y8 : PySem.W.Looks (model P w) hh (typeLookup (.type T) (PySem.dunderR nm)) ro := PySem.W.looks_findIn XX h2
  generalize ((fo.isSome && !isSeqSlot fo) || (ro.isSome && !isSeqSlot ro)) = side at y4
  have ne : (Value.ref C == Value.type T) = false := Bool.eq_false_iff.mpr fun z => nomatch beq_iff_eq.mp z
  simp only [binaryOp, key]
  refine wpAny_holding (wpAny_bind ?_)
  unfold binaryOp1
  refine wpAny_bind (y1.at (wpAny_bind (y2.at (wpAny_bind (y3.at ?_)))))
  simp only [ne, Bool.false_eq_true, if_false]
  cases side <;>
  · ksp_lk
    refine wpAny_mono last (fun r s' z => ?_) fun _ _ z => z
    obtain ⟨v, rfl, hv⟩ := z
    ksp_lk
    exact hv
end
section
variable {X : Cx} {CX : CXT} {k j : Nat} {C : Addr} {ps : List Str} {sp : Sp} {a b : Expr} {ta tb : TE} {pos : Pos} {W : WX} {op : Operator}
/-- what an own sign with a tuple at its right wants of the class -/
structure TupR (K : PySem.W.Frag) (C : Addr) (nm : String) : Prop where
  rf : PySem.W.findIn K (.ref C) (PySem.dunderR nm) = some none
  t1 : ∃ fo, PySem.W.findIn K (.type "tuple") (PySem.dunder nm) = some fo
  t2 : ∃ ro, PySem.W.findIn K (.type "tuple") (PySem.dunderR nm) = some ro
  sb : PySem.W.subIn K (.type "tuple") (.ref C) = some false
def tBinT (K : PySem.W.Frag) (C : Addr) (sp : Sp) (E : L2.St → XK) (ta tb : TE) : TE := fun σ H Q => ta σ H fun x H1 => tb σ H1 fun y H2 => ∃ p q dx fs ys, x = .ref p ∧ y = .ref q ∧ H2 p = some (.ins C dx fs) ∧ SqT K H2 q ys ∧ sp [x, y] H2 Q (E σ)
theorem pe_binT (c : OpC X.prog X.w X.K X.mg X.base k C (PySem.dunder op.info.2) ps sp) (R : TupR X.K C op.info.2) (tk : Takes X W) (hr : Room j X.A) (hk : k ≤ j) (h1 : PE X a ta) (h2 : PE X b tb) : PE X (.BinOp a op b pos) (tBinT X.K C sp (WE W) ta tb) := by
  obtain ⟨f, fd, M, F, hb⟩ := c.ex
  obtain ⟨rf, ⟨fo, t1⟩, ⟨ro, t2⟩, sb⟩ := R
  refine ⟨fun pins s σ H Q I h => wpAny_BinOp (bin h1 h2 I h fun v u s2 x y H2 I2 rx ry q => ?_)⟩
  obtain ⟨p, q', dx, fs, ys, rfl, rfl, e1, e2, q⟩ := q
  cases rx
  cases ry
  obtain ⟨o1, J1⟩ := ins_at I2 e1
  obtain ⟨m, fr⟩ := I2.fr
  obtain ⟨its, rv, ⟨o, ho, hc, _⟩, _⟩ := I2.tuple e2
  exact bin_left fr I2.ok.mod.kin J1 (fun A' Q' E' s' kp z => wpAny_typeOf_ref (kp _ _ ho) (by rw [hc]; exact z)) c.sf M rf t1 t2 sb
    (thn (run_fnS (vs := [.ref p, .ref q']) F (hr.mono hk) hb (passAt tk σ) I2 (.cons rfl (.cons rfl .nil)) q) fun _ _ z => back_of z)
end
end Ew

set_option Elab.async false
set_option linter.all false
set_option maxRecDepth 100000
set_option maxHeartbeats 4000000
/-! a try whose one clause has a name and whose suite raises anew -/
namespace Ew
open PySem PySem.Spec PyProof.Rows L2
section
variable {X : Cx} {pins : List (Addr × Obj)} {σ : L2.St} {H : Hp} {s : Shared} {i : Nat} {n : Str} {Wo : WX}
/-- the frame's own names are other ones, slot i is empty: still a state of ours -/
theorem inv_less (J : Inv X pins σ H s) (hN : X.N.Nodup) (hi : X.N[i]? = some n) {m : Str → Option Value} {v : Option Value} {g : Heap} {t : Nat} (hs : Heap.SameBut X.env.locals s.heap g) (hn : g.Ns X.env.locals fun x => if x = n then v else m x)
    (lk : ∀ (j : Nat) (x : Str) (z : V), X.N[j]? = some x → σ[j]? = some (some z) → Vis X.env.scope x → ∃ u, RelV z u ∧ Look X.env s.heap m x u) : Inv X pins (σ.set i none) H { s with heap := g, toks := t } := by
  have far : ∀ c y, X.s_0.heap.get? c = some y → c ≠ X.env.locals := fun c y e z => by
    have h1 := Heap.lt_size e
    rw [z] at h1
    exact Nat.lt_irrefl _ (Nat.lt_of_lt_of_le h1 J.ok.above)
  have U : Un X.fs X.ex X.H_0 H X.s_0.heap g := by
    have b := J.base
    refine { keep := fun c y e1 e2 e3 e4 => ?_, slot := fun c y e1 e2 e3 e4 => ?_, free := b.free, there := fun c y e1 e2 => ?_, tups := b.tups, frzs := b.frzs, tbls := b.tbls }
    · rw [hs.2 c (far c y e1)]
      exact b.keep c y e1 e2 e3 e4
    · rw [hs.2 c (far c y e1)]
      exact b.slot c y e1 e2 e3 e4
    · rw [hs.2 c (far c y e1)]
      exact b.there c y e1 e2
  have C : ∀ x c, X.env.cells.lookup x = some c → ∃ z, g.IsCell c z := fun x c e => let ⟨z, q⟩ := J.cell x c e; ⟨z, q.sameBut hs (J.cne x c e)⟩
  have P : ∀ p ∈ X.pn ++ pins, g.get? p.1 = some p.2 ∧ H p.1 = none ∧ p.1 ≠ X.env.locals ∧ p.1 ∉ X.fs ∧ ∀ z, p.2.data ≠ .cell z := fun p hp => by
    obtain ⟨e1, e2, e3, e4⟩ := J.pin p hp
    exact ⟨by rw [hs.2 _ e3]; exact e1, e2, e3, e4⟩
  have O : HOk X.prog X.w H g := fun c o e => (J.hok c o e).stay (fun d w hd q => by
    have nd : d ≠ X.env.locals := fun z => by
      subst z
      rcases hd with hd | hd
      · rw [← hd, J.free] at e
        cases e
      · rw [J.free] at hd
        cases hd
    rw [hs.2 d nd]
    exact q) (fun _ q => q) fun _ _ q => q
  have Lk : ∀ (j : Nat) (x : Str) (z : V), X.N[j]? = some x → (σ.set i none)[j]? = some (some z) → Vis X.env.scope x → ∃ u, RelV z u ∧ Look X.env g (fun x => if x = n then v else m x) x u := fun j x z e1 e2 e3 => by
    have nj : j ≠ i := fun q => by
      rw [q] at e2
      by_cases hl : i < σ.length
      · rw [List.getElem?_set_self hl] at e2
        cases e2
      · rw [List.getElem?_eq_none (by rw [List.length_set]; omega)] at e2
        cases e2
    rw [List.getElem?_set_ne (Ne.symm nj)] at e2
    obtain ⟨u, r, q⟩ := lk j x z e1 e2 e3
    refine ⟨u, r, q.elim (fun ⟨k, e⟩ => .inl ⟨k, ?_⟩) fun ⟨k, c, e, y⟩ => .inr ⟨k, c, e, y.sameBut hs (J.cne x c e)⟩⟩
    have nx : x ≠ n := fun q => nj (nodup_ix hN e1 (q ▸ hi))
    show (if x = n then v else m x) = some u
    rw [if_neg nx]
    exact e
  exact ⟨J.ok, J.os, J.bare, U, ⟨_, hn, Lk⟩, C, J.free, J.freeC, P, O, by rw [List.length_set]; exact J.len⟩
theorem traced_less {Z : Obj → Prop} {B g h : Heap} {e L : Addr} {fl : Value} {m : Str → Option Value} (x : HandSPX.TracedZ h B e Z fl) (hn : h.Ns L m) (hs : Heap.SameBut L h g) : HandSPX.TracedZ g B e Z fl := by
  obtain ⟨oe, vs, T, oT, ts, a1, a2, a3, a4, a5, a6, a7, a8, a9⟩ := x
  obtain ⟨oL, es, ep, l1, l2, _⟩ := hn
  have reco : ∀ {c : Addr} {o : Obj} {us : Array Value}, h.get? c = some o → o.data = .fields us → c ≠ L := fun {c o us} y1 y2 z => by
    rw [z, l1] at y1
    cases y1
    rw [l2] at y2
    cases y2
  exact ⟨oe, vs, T, oT, ts, by rw [hs.2 e (reco a1 a3)]; exact a1, a2, a3, a4, a5, a6, by rw [hs.2 T (reco a7 a8)]; exact a7, a8, a9⟩
/-- what stands behind a suite that let an exception out -/
abbrev outX (X : Cx) (a : Addr) (n : Str) (pos : Pos) : Value → Shared → Prop :=
  AsSuiteRaised (model X.prog X.w) (X.A.mark (some (.ref a))) X.env n pos (notedBy (model X.prog X.w) (X.A.mark (some (.ref a))) X.env (cameBackBy (model X.prog X.w) X.A X.env X.xe))
/-- where such a suite runs -/
abbrev sX (X : Cx) (a : Addr) (n : Str) (pos : Pos) (pn : List (Addr × Obj)) : Cx := { X with A := X.A.mark (some (.ref a)), calm := false, pn := pn, xe := outX X a n pos }
theorem inSX {a : Addr} {pos : Pos} {pn pn' : List (Addr × Obj)} (I : Inv (X.suite a pn) pn' σ H s) : Inv (sX X a n pos pn) pn' σ H s := Inv.unwish (X := sX X a n pos pn) (E := fun _ _ => False) I
theorem outSX {a : Addr} {pos : Pos} {q : Addr × Obj} {pn' : List (Addr × Obj)} (I : Inv (sX X a n pos (q :: (X.pn ++ pins))) pn' σ H s) (ok : X.Ok) : Inv X pins σ H s :=
  Inv.unsuite (X := X) (a := a) (q := q) (pn' := pn') (show Inv (X.suite a (q :: (X.pn ++ pins))) pn' σ H s from I.wish fun _ _ => False) ok
/-- what raises nothing in a suite, in such a suite too -/
theorem pe_sx {a : Addr} {pos : Pos} {pn : List (Addr × Obj)} {e : Expr} {te : TE} (h : PE (X.suite a pn) e te) : PE (sX X a n pos pn) e te :=
  ⟨fun pn2 s1 τ G Q I z => wpAny_mono (h.run pn2 s1 τ G Q (Inv.wish (X := sX X a n pos pn) I fun _ _ => False) z) (fun _ _ ⟨v, G', J, r, q⟩ => ⟨v, G', inSX J, r, q⟩) fun _ _ z => z.elim⟩
theorem notes {M : Model} {A : Around} {E₁ : Value → Shared → Prop} {env : Env} {outer : List Env} {L a : Addr} {Z : Obj → Prop} {B : Heap} {Q : Unit → Shared → Prop} (hZ : HandSPX.Steady Z) (hfr : A.frames = some (env :: outer)) (hf : env.frame = some L)
    (x : L2.Sky B (env :: outer) a Z L s.heap) (hQ : ∀ g, HandSPX.HeldZ B (env :: outer) a Z L g → s.heap.UpToSlots g → Q () { s with heap := g }) : wpAny M A (noteFrame (.ref a) env) Q E₁ s := by
  rcases x with ⟨b1, b2, b3, oe, vs, e1, e2, e3, e4⟩ | fl | hh
  · exact HandSPX.look_newZ hZ hfr b3 hf e1 b1 b2 e3 e4 e2 hQ
  · exact HandSPX.looks_onZ hZ hfr hf fl hQ
  · exact HandSPX.againZ hf hh.2.2.2 (hQ s.heap hh (Heap.UpToSlots.refl _))
/-- what such a suite may let out -/
theorem takesX {a : Addr} {q : Addr × Obj} {pos : Pos} (ok : X.Ok) (hst : X.stack = X.env :: X.outer) (hfr : X.env.frame = some X.env.locals) (hN : X.N.Nodup) (hi : X.N[i]? = some n) (hl : X.env.kindOf n = some .local) (tk : L2.Takes X Wo) :
    L2.Takes (sX X a n pos (q :: (X.pn ++ pins))) fun cls d σ H => Wo cls d (σ.set i none) H := fun u s1 ⟨b, B, sI, pn2, σ1, H1, cls, d, eu, I, nb, up, sky, na, os, ag, w⟩ => by
  subst eu
  have J : Inv X pins σ1 H1 sI := outSX I ok
  have hA : (X.A.mark (some (.ref a))).frames = some (X.env :: X.outer) := ok.frames.trans (congrArg some hst)
  have sky2 : L2.Sky B (X.env :: X.outer) b (Zc cls d) X.env.locals s1.heap := by rw [← hst]; exact sky
  obtain ⟨hp, gn, dr, tks, o⟩ := s1
  show AsSuiteRaised _ _ _ _ _ _ _ _
  unfold AsSuiteRaised
  refine notes Zc.steady hA hfr sky2 fun g1 held1 up1 => ?_
  have up01 : sI.heap.UpToSlots g1 := up.trans up1
  obtain ⟨m, hn, lk⟩ := id J.loc
  have hn1 : g1.Ns X.env.locals m := by
    obtain ⟨ol, es, ep, l1, l2, l3, l4⟩ := id hn
    obtain ⟨sl, l5⟩ := up01 _ _ l1 fun vs z => by rw [l2] at z; cases z
    exact ⟨_, es, ep, l5, l2, l3, l4⟩
  have hcls : (X.env.scope.kind == .class || (X.env.scope.kind == .module && X.env.locals != X.env.globals)) = false := by rw [ok.kind]; rfl
  refine wpAny_nameGoes_keeps hl hn1 hcls fun g2 v hn2 hs2 => ?_
  obtain ⟨b1, b0, f1, t1⟩ := held1
  have bL : B.get? X.env.locals = none := by
    obtain ⟨_, ⟨L', _, e1, e2, _⟩, _⟩ := id f1
    rw [hfr] at e1
    cases e1
    exact e2
  have held2 : HandSPX.HeldZ B (X.env :: X.outer) b (Zc cls d) X.env.locals g2 := by
    refine ⟨fun c y e => ?_, b0, Heap.FunFrames.sameBut hs2 hn2 f1, traced_less t1 hn1 hs2⟩
    have nc : c ≠ X.env.locals := fun z => by rw [z, bL] at e; cases e
    rw [hs2.2 c nc]
    exact b1 c y e
  obtain ⟨oe, vs, T, oT, ts, e1, e2, e3, e4, r1⟩ := id held2.2.2.2
  unfold PySem.passOn
  refine wpAny_bind (wpAny_field e1 e3 e4 ?_)
  rw [if_neg (show ¬ ((Value.ref T == Value.none) = true) from by simp)]
  rw [hfr]
  have go : wpAny (model X.prog X.w) (X.A.mark (some (.ref a))) (setFlight (.ref b) (some X.env.locals)) (fun _ s4 => wpAny (model X.prog X.w) (X.A.mark (some (.ref a))) (throw (.ref b) : Sem Flow) (fun _ _ => False)
      (notedBy (model X.prog X.w) (X.A.mark (some (.ref a))) X.env (cameBackBy (model X.prog X.w) X.A X.env X.xe)) s4) (notedBy (model X.prog X.w) (X.A.mark (some (.ref a))) X.env (cameBackBy (model X.prog X.w) X.A X.env X.xe))
      { heap := g2, gens := gn, drawn := dr, toks := tks + 1, os := o } := by
    refine HandSPX.setFlight_onZ held2 fun g3 held3 up3 => wpAny_throw ?_
    show wpAny _ _ (noteFrame (.ref b) X.env) _ _ _
    refine HandSPX.againZ hfr held3.2.2.2 ?_
    obtain ⟨oe', vs', T', oT', ts', y1, y2, y3, y4, y5⟩ := id held3.2.2.2
    unfold cameBackBy
    refine wpAny_bind (wpAny_field y1 y3 y4 ?_)
    rw [if_neg (show ¬ ((Value.ref T' == Value.none) = true) from by simp)]
    rw [hfr]
    have last : wpAny (model X.prog X.w) X.A (setFlight (.ref b) (some X.env.locals)) (fun _ s'' => X.xe (.ref b) s'') X.xe { heap := g3, gens := gn, drawn := dr, toks := tks + 1, os := o } := by
      refine HandSPX.setFlight_onZ held3 fun g4 held4 up4 => tk _ _ ?_
      obtain ⟨o2, es2, ep2, z1, z2, z3, z4⟩ := id hn2
      obtain ⟨oL, es0, ep0, l1, l2, _⟩ := id hn
      have nfree : o2.isFreed = false := by
        cases o2 with
        | mk c dd dt sl =>
          cases dt with
          | dict _ _ => rfl
          | _ => cases z2
      have gS : (sI.heap.update X.env.locals fun _ => o2).get? X.env.locals = some o2 := Heap.get?_update_self _ l1 nfree
      have gO : ∀ c, c ≠ X.env.locals → (sI.heap.update X.env.locals fun _ => o2).get? c = sI.heap.get? c := fun c nc => Heap.get?_update_other _ _ (Ne.symm nc)
      have J2 : Inv X pins (σ1.set i none) H1 { sI with heap := sI.heap.update X.env.locals fun _ => o2, toks := sI.toks } := inv_less J hN hi (Heap.SameBut.update ..) ⟨o2, es2, ep2, gS, z2, z3, z4⟩ lk
      have inF : X.env.locals ∈ frs X.stack := by
        rw [hst]
        exact List.mem_filterMap.mpr ⟨_, List.mem_cons_self, hfr⟩
      refine ⟨b, B, _, pins, _, H1, cls, d, rfl, J2, fun c y e nf => ?_, fun c y e nd => ?_, .inr (.inr (by rw [hst]; exact held4)), na, os, ag, w⟩
      · have nc : c ≠ X.env.locals := fun z => nf (z ▸ inF)
        have e' : (sI.heap.update X.env.locals fun _ => o2).get? c = some y := e
        rw [gO c nc] at e'
        exact nb c y e' nf
      · have e' : (sI.heap.update X.env.locals fun _ => o2).get? c = some y := e
        have up24 := up3.trans up4
        by_cases nc : c = X.env.locals
        · rw [nc, gS] at e'
          cases e'
          rw [nc]
          exact up24 _ _ z1 nd
        · rw [gO c nc] at e'
          obtain ⟨sl1, k1⟩ := up01 c y e' nd
          have k2 : g2.get? c = some { y with slots := sl1 } := by rw [hs2.2 c nc]; exact k1
          obtain ⟨sl2, k3⟩ := up24 c _ k2 nd
          exact ⟨sl2, k3⟩
    first
      | exact wpAny_bind (wpAny_pure last)
      | exact last
  first
    | exact wpAny_bind (wpAny_pure (wpAny_bind go))
    | exact wpAny_bind go
/-- try: body / except x as n: a suite that may raise; what the body raises has no context -/
theorem ps_tryX {x : Str} {c : Value} {body suite : List Stmt} {b₀ : Stmt} {np pos pos' : Pos} {tb : WX → TS} {ts : Addr → Value → Option Addr → TS} (hst : X.stack = X.env :: X.outer) (hfr : X.env.frame = some X.env.locals) (hN : X.N.Nodup) (hi : X.N[i]? = some n)
    (hl : X.env.kindOf n = some .local) (hc : Names X x c) (tk : L2.Takes X Wo)
    (hb : ∀ (W : WX) (pn : List (Addr × Obj)) (xe : Value → Shared → Prop), L2N.Takes (X.tr pn xe) W → PassesOwn (model X.prog X.w) X.A X.env xe → PSs (X.tr pn xe) body (tb W))
    (hsu : ∀ (a : Addr) (oe : Obj) (cls : Value) (d : Option Addr) (pn : List (Addr × Obj)), L2N.Zn cls d oe → (∃ vs, oe.data = .fields vs) → L2.Takes (sX X a n pos' ((a, oe) :: pn)) (fun cls d σ H => Wo cls d (σ.set i none) H) → L2H.HotC (sX X a n pos' ((a, oe) :: pn)) →
      PSs (sX X a n pos' ((a, oe) :: pn)) (b₀ :: suite) (ts a cls d)) :
    PS X (.Try body [.ExceptHandler (some (.Name x np)) (some n) (b₀ :: suite) pos'] [] [] pos) fun D σ H => tb (wN X.K Wo D [(c, some i, ts)]) D σ H := ⟨fun pins s σ H D I h => by
  have ok := I.ok
  let xe : Value → Shared → Prop := fun e s₁ => wpAny (model X.prog X.w) X.A (noteFrame e X.env) (fun _ s₂ => wpAny (model X.prog X.w) X.A (setFlight e none) (fun _ s₃ =>
    wpAny (model X.prog X.w) X.A (handleBy e X.env [.ExceptHandler (some (.Name x np)) (some n) (b₀ :: suite) pos']) (SP X pins D) X.xe s₃) X.xe s₂) X.xe s₁
  have tk2 : L2N.Takes (X.tr (X.pn ++ pins) xe) (wN X.K Wo D [(c, some i, ts)]) := fun u s' ⟨a, B, sI, pins', σ', H', cls, d, e, J', nb, up, sky, na, os, ag, w⟩ => by
    subst e
    have sky2 : L2.Sky B (X.env :: X.outer) a (L2N.Zn cls d) X.env.locals s'.heap := by rw [← hst]; exact sky
    obtain ⟨hp, g, dr, t, o⟩ := s'
    refine L2N.Sky.land L2N.Zn.steady (ok.frames.trans (congrArg some hst)) hfr sky2 fun h3 fl u3 => ?_
    have fz := L2H.flyingZ_imp (fun _ z => L2N.Zn.zc z) fl
    have cg : Caught X pins σ' H' a cls d ⟨h3, g, dr, t, o⟩ := ⟨ok, hst, hfr, na, B, sI, J'.ofTry ok, nb, up.trans u3, os, ag, fz⟩
    obtain ⟨b, eb, yes, no⟩ := id w
    cases b with
    | false =>
      refine wpAny_handleBy_cons (codeAny_handlers_test (cg.asks hc ((cg.judged eb).here ?_))) (fun q => nomatch q)
      exact Caught.handled (pos := pos) hN tk .nil cg (no rfl)
    | true =>
      refine wpAny_handleBy_cons (codeAny_handlers_test (cg.asks hc ((cg.judged eb).here ?_))) (fun q => nomatch q)
      refine codeAny_handlers_suite_as (HandSPX.lands_againZ fl fun h4 fl4 u4 => ?_)
      have c4 : Caught X pins σ' H' a cls d ⟨h4, g, dr, t, o⟩ := ⟨ok, hst, hfr, na, B, sI, J'.ofTry ok, nb, (up.trans u3).trans u4, os, ag, L2H.flyingZ_imp (fun _ z => L2N.Zn.zc z) fl4⟩
      obtain ⟨oe, vs, he, hz, hd⟩ := fl4.there
      have nL : a ≠ X.env.locals := fun z => c4.off (List.mem_filterMap.mpr ⟨_, List.mem_cons_self, hfr.trans (congrArg some z.symm)⟩)
      have nF : a ∉ X.fs := fun hm => by
        obtain ⟨y, hy, z⟩ := List.mem_filterMap.mp hm
        exact c4.off (List.mem_filterMap.mpr ⟨y, List.mem_cons_of_mem _ hy, z⟩)
      have S : Inv (sX X a n pos' ((a, oe) :: (X.pn ++ pins))) [] σ' H' ⟨h4, g, dr, t, o⟩ := inSX (c4.inv.suite he hd na nL nF)
      have tkS := takesX (q := (a, oe)) (a := a) (pins := pins) (pos := pos') ok hst hfr hN hi hl tk
      refine store_ok (X := sX X a n pos' ((a, oe) :: (X.pn ++ pins))) (v := .ref a) S hN hi (.inl hl) rfl (fun s5 S5 => ?_) (.inr hl)
      refine wpAny_mono ((hsu a oe cls d (X.pn ++ pins) hz ⟨_, hd⟩ tkS ⟨(a, oe), ⟨rfl, vs, hd, hz.2.2 vs hd⟩, List.mem_cons_self⟩).run [] s5 _ H' _ S5 (yes rfl a na)) (fun f s6 q => ?_) fun e6 s6 z => z
      cases f <;> first
        | (obtain ⟨σ6, H6, S6, q6⟩ := q; exact gone_ok (outSX S6 ok) hN hi hl fun s7 J7 => ⟨_, _, J7, q6⟩)
        | (obtain ⟨v6, σ6, H6, S6, r6, q6⟩ := q; exact gone_ok (outSX S6 ok) hN hi hl fun s7 J7 => ⟨_, _, _, J7, r6, q6⟩)
  refine wpAny_Try_except (wpAny_mono ((hb _ _ xe tk2 PassesOwn.looking).run [] s σ H D (I.toTry _) h) (fun f s1 q => ?_) fun _ _ z => z)
  cases f <;> first
    | (obtain ⟨σ', H', J, q⟩ := q; exact wpAny_execs_nil ⟨σ', H', J.ofTry ok, q⟩)
    | (obtain ⟨σ', H', J, q⟩ := q; exact ⟨σ', H', J.ofTry ok, q⟩)
    | (obtain ⟨v, σ', H', J, r, q⟩ := q; exact ⟨v, σ', H', J.ofTry ok, r, q⟩)⟩
end
end Ew

set_option Elab.async false
set_option linter.all false
set_option maxRecDepth 100000
set_option maxHeartbeats 4000000
/-! defs whose errors have no context (they may be caught by a suite that raises anew) -/
namespace Ew
open PySem PySem.Spec PyProof.Rows L2
section
variable {P : Program} {w : World} {K : PySem.W.Frag} {mg : Str → Option Value} {base : Heap}
structure ClN (P : Program) (w : World) (K : PySem.W.Frag) (mg : Str → Option Value) (base : Heap) (k : Nat) (x : Str) (ps : List Str) (sp : Sp) (dvs : List V) : Prop where
  ex : ∃ f fd ds, FnOk P w K mg base (L2N.CX P w) k f fd ps sp ∧ mg x = some (.ref f) ∧ PySem.W.keepIn K (.ref f) = true ∧ Binds K fd ps ds ∧ Vals dvs ds
abbrev cxN (P : Program) (w : World) (K : PySem.W.Frag) (mg : Str → Option Value) (base : Heap) (N : List Str) (qual : Str) (st : Stmt) (f : Addr) (cdv : Value) (A : Around) (outer : List Env) (s : Shared) (H : Hp) (E : XK) : Cx :=
  cxOf (L2N.CX P w) P w K mg base N qual (defScope st) f cdv A outer s H E
def BodyN (P : Program) (w : World) (K : PySem.W.Frag) (mg : Str → Option Value) (base : Heap) (N : List Str) (qual : Str) (st : Stmt) (k : Nat) (sp : Sp) : Prop :=
  ∀ (f : Addr) (cdv : Value) (A : Around) (outer : List Env) (s : Shared) (H : Hp) (vs : List V) (Q : VK) (E : XK), Room k (cxN P w K mg base N qual st f cdv A outer s H E).A → sp vs H Q E →
    ∃ t, PSs (cxN P w K mg base N qual st f cdv A outer s H E) (defBody st) t ∧ t { nx := fun _ H' => Q .non H', rt := Q } (start N vs) H
theorem okN {x qual : Str} {st : Stmt} {f : Addr} {fd : FuncData} {N ps : List Str} {k : Nat} {sp : Sp} (F : Fun K x qual st f fd) (S : FnScope N ps (defScope st)) (len : ∀ vs H Q E, sp vs H Q E → vs.length = ps.length)
    (h : BodyN P w K mg base N qual st k sp) : FnOk P w K mg base (L2N.CX P w) (k + 1) f fd ps sp := by
  obtain ⟨_, _, _, _, _, _, cdv, _, _, rfl, lk, cd⟩ := F.ex
  exact fn_of lk cd S len fun A outer s H vs Q E r q => h f cdv A outer s H vs Q E r q
/-- a def's body that runs while an exception is handled -/
abbrev cxT (P : Program) (w : World) (K : PySem.W.Frag) (mg : Str → Option Value) (base : Heap) (N : List Str) (qual : Str) (st : Stmt) (f : Addr) (cdv : Value) (A : Around) (outer : List Env) (s : Shared) (H : Hp) (E : XK) (p : Addr × Obj) : Cx :=
  L2H.cxH (L2.CX P w) P w K mg base N qual (defScope st) f cdv A outer s H E p
theorem okH {x qual : Str} {st : Stmt} {f : Addr} {fd : FuncData} {N ps : List Str} {k : Nat} {sp : Sp} (F : Fun K x qual st f fd) (S : FnScope N ps (defScope st)) (len : ∀ vs H Q E, sp vs H Q E → vs.length = ps.length)
    (h : ∀ (cdv : Value) (A : Around) (outer : List Env) (s : Shared) (H : Hp) (vs : List V) (Q : VK) (E : XK) (p : Addr × Obj), L2H.RoomH k (cxT P w K mg base N qual st f cdv A outer s H E p).A → sp vs H Q E →
      ∃ t, PSs (cxT P w K mg base N qual st f cdv A outer s H E p) (defBody st) t ∧ t { nx := fun _ H' => Q .non H', rt := Q } (L2.start N vs) H) : L2H.FnH P w K mg base (L2.CX P w) (k + 1) f fd ps sp := by
  obtain ⟨_, _, _, _, _, _, cdv, _, _, rfl, lk, cd⟩ := F.ex
  exact L2H.fn_ofH lk cd S len fun A outer s H vs Q E p _ r q => h cdv A outer s H vs Q E p r q
theorem DefAt.clN {x : Str} {st : Stmt} {ps N : List Str} {k : Nat} {sp : Sp} (D : DefAt K mg x st ps) (S : FnScope N ps (defScope st)) (len : ∀ vs H Q E, sp vs H Q E → vs.length = ps.length) (h : BodyN P w K mg base N x st k sp) : ClN P w K mg base (k + 1) x ps sp [] := by
  obtain ⟨f, fd, F, g, b⟩ := D.ex
  exact ⟨f, fd, [], okN F S len h, g, F.kp, b, .nil⟩
end
section
variable {X : Cx} {k j : Nat} {x m : Str} {ps : List Str} {sp : Sp} {dvs : List V} {e o : Expr} {es : List Expr} {t : TA} {ta : TE} {p pos apos : Pos} {W : WX} {C : Addr}
theorem run_dvN {f : Addr} {fd : FuncData} {ds : List Value} {pins : List (Addr × Obj)} {σ : L2.St} {H : Hp} {s : Shared} {Q : VK} {us : List Value} {vs : List V} (F : FnOk X.prog X.w X.K X.mg X.base (L2N.CX X.prog X.w) k f fd ps sp) (hr : Room k X.A) (hb : Binds X.K fd ps ds)
    (hd : Vals dvs ds) (tk : L2N.Takes X W) (I : Inv X pins σ H s) (r : Vals vs us) (h : sp (vs ++ dvs) H Q (WE W σ)) : wpAny (model X.prog X.w) X.A (call (.ref f) us) (EP X pins σ Q) X.xe s := by
  have r2 := r.append hd
  have hl : (us ++ ds).length = ps.length := by rw [← r2.length]; exact F.len _ _ _ _ h
  refine wpAny_call (codeAny_mono (F.run X.A X.stack s H ⟨us, []⟩ (us ++ ds) (vs ++ dvs) Q (WE W σ) hr I.env0 (hb s us I.kIn hl) r2 h) fun y s' hq => ?_)
  match y, hq with
  | .error e, hq => exact L2N.passAt tk σ pins H s e s' I hq
  | .ok (.ret u), hq => exact I.after hq
theorem pe_fN (c : ClN X.prog X.w X.K X.mg X.base k x ps sp dvs) (tk : L2N.Takes X W) (hr : Room j X.A) (hk : k ≤ j) (hg : Gl X x) (ha : PA X (e :: es) t) (hdb : (x == ("__debug__" : Str)) = false := by decide)
    (he : starEach (e :: es) X.env = (false, eval e X.env) :: starEach es X.env := by rfl) (hpl : (backTo pos (starEach es X.env)).any (·.1) = false := by rfl) : PE X (.Call (.Name x p) (e :: es) [] pos) (tF sp dvs W t) := by
  obtain ⟨f, fd, ds, F, hm, hkp, hb, hd⟩ := c.ex
  exact ⟨fun pins s σ H Q I h => wpAny_Call_Name_kw (ld_glob I hg hm (PySem.W.callWith_K (h₀ := X.base) I.ok.mod.kin hkp (thn (ha.run pos pins s σ H _ I h) fun us s1 ⟨vs, H1, I1, r, q⟩ => ⟨I1.kIn, run_dvN F (hr.mono hk) hb hd tk I1 r q⟩) he hpl) hdb)⟩
/-- an own error made: its context is None -/
theorem pmk_errN (c : Mke X.prog X.w X.K X.mg X.base k x C ps sp) (hr : Room j X.A) (hk : k + 1 ≤ j) (hg : Gl X x) (ha : PA X (e :: es) t) (hdb : (x == ("__debug__" : Str)) = false := by decide)
    (he : starEach (e :: es) X.env = (false, eval e X.env) :: starEach es X.env := by rfl) (hpl : (backTo pos (starEach es X.env)).any (·.1) = false := by rfl) : L2N.PMk X (.Call (.Name x p) (e :: es) [] pos) (tMkO C sp [] t) := by
  obtain ⟨fI, fd, iC, tI, F1, hb⟩ := c.ex
  have ox := c.ox
  obtain ⟨nm, q, N, bs, bm, sn, sub, ab, col, dd, _, _, _, _, _, hC, hbm⟩ := ox.cls
  intro pins s σ H Q I h
  refine wpAny_Call_Name_kw (ld_glob I hg c.gC ?_ hdb)
  refine PySem.W.callWith_K (h₀ := X.base) I.ok.mod.kin ox.kC (thn (ha.run pos pins s σ H _ I h) fun us s1 ⟨vs, H1, I1, r1, _, q1⟩ => ⟨I1.kIn, ?_⟩) he hpl
  show wpAny _ _ (call (.ref C) us) _ _ _
  obtain ⟨hp, g, dr, tk, os⟩ := s1
  generalize ea : hp.objs.size + 1 = z
  have le : hp.objs.size ≤ z := by omega
  have hq := q1 z (I1.hok.fresh le)
  have grow : ∀ b o, hp.get? b = some o → ((hp.push (PySem.W.kdv_tup us)).push (PySem.HandSPX.excO C hp.objs.size)).get? b = some o := fun b o y => Heap.get?_push_of_some _ (Heap.get?_push_of_some _ y)
  have mine : ((hp.push (PySem.W.kdv_tup us)).push (PySem.HandSPX.excO C hp.objs.size)).get? z = some (PySem.HandSPX.excO C hp.objs.size) := by subst ea; heap_get
  have J : Inv X pins σ (upd H1 z (exo z C none)) ⟨(hp.push (PySem.W.kdv_tup us)).push (PySem.HandSPX.excO C hp.objs.size), g, dr, tk, os⟩ :=
    I1.laid (t' := tk) (a := z) (o := exo z C none) (h' := (hp.push (PySem.W.kdv_tup us)).push (PySem.HandSPX.excO C hp.objs.size)) grow le (exo_ok mine)
  have rr : Vals (V.ref z :: (vs ++ [])) (Value.ref z :: (us ++ [])) := .cons rfl (r1.append .nil)
  have ln : (Value.ref z :: us ++ []).length = ps.length := by
    have y := rr.length
    rw [F1.len _ _ _ _ hq] at y
    exact y.symm
  have few : us.length ≤ sizeLine := by
    rw [← Paired.length r1, sizeLine_eq]
    omega
  subst ea
  have bb := hb _ (Value.ref (hp.objs.size + 1) :: us) J.kIn ln
  rw [List.cons_append] at bb
  refine wpAny_call (PySem.HandSPX.call_own F.excBase_ValueError (fun Y => PySem.HandSPX.refsVE_contains Y bm hbm) (I1.kIn _ _ hC) (PySem.W.looks_findIn I1.kIn iC) (fun self => PySem.W.bind_fn I1.kIn self tI) few
    (codeAny_mono (F1.run _ X.stack _ _ ⟨Value.ref (hp.objs.size + 1) :: us, []⟩ (Value.ref (hp.objs.size + 1) :: (us ++ [])) _ _ (fun _ _ _ => False) ((hr.mono hk).make C us []) (J.env0.make C us []) bb rr hq) fun y s' hy => ?_))
  match y, hy with
  | .error er, hy => exact (passL pins σ _ _ er s' J hy)
  | .ok (.ret u), hy =>
    obtain ⟨v, H2, os2, bare2, un2, hok2, rv, ev, d, fs, ea2, ed, hd1, q2⟩ := hy
    subst ev
    obtain ⟨h2, g2, d2, t2, os'⟩ := s'
    obtain ⟨t0, G, J2, kG, ge, hoe, na⟩ := mk_end0 (d2 := d2) (t2 := t2) I1 le grow un2 hok2 os2 bare2 ea2 ed hd1
    exact ⟨rv, hp.objs.size + 1, _, _, ⟨G, g2, d2, t2, os'⟩, _, .ref C, some d, rfl, J2, kG, ge, hoe, ⟨rfl, rfl, fun us' e' => by cases e'; rfl⟩, rfl, rfl, na, rfl, bare2, raises_own ox.exC ox.tyC, q2⟩
  | .ok .next, hy => exact False.elim hy
  | .ok .brk, hy => exact False.elim hy
  | .ok .cont, hy => exact False.elim hy
theorem ps_raise1N {f : Str} {te : TE} {pos2 : Pos} (hc : X.calm = true) (tk : L2N.Takes X W) (c : Mke X.prog X.w X.K X.mg X.base k x C ps (spI1 C f)) (hr : Room j X.A) (hk : k + 1 ≤ j) (hg : Gl X x) (he : PE X e te) (hdb : (x == ("__debug__" : Str)) = false := by decide)
    (hs : starEach [e] X.env = [(false, eval e X.env)] := by rfl) (hpl : (backTo pos (starEach ([] : List Expr) X.env)).any (·.1) = false := by rfl) : PS X (.Raise (some (.Call (.Name x p) [e] [] pos)) none pos2) (tR1 C f W te) := by
  refine ps_weak (L2N.ps_raise hc tk (pmk_errN c hr hk hg (pa_cons (pe_up he) pa_nil hs) hdb hs hpl)) fun D σ H h => ⟨_, fun v H1 z => ?_, h⟩
  refine ⟨Nat.le_of_ble_eq_true rfl, fun a ha => ⟨a, v, rfl, upd_same, fun dx n ne => ?_⟩⟩
  rw [upd_ne ne] at n
  refine ⟨rfl, dx, [(f, v)], upd_same, ?_, n, ?_⟩
  · rw [upd_ne ne, upd_same]
  · rw [back1 ha ne]
    exact z dx n
/-! ### an own error made while another one is handled, and raised from None -/
structure MkeH (P : Program) (w : World) (K : PySem.W.Frag) (mg : Str → Option Value) (base : Heap) (k : Nat) (x : Str) (C : Addr) (ps : List Str) (sp : Sp) : Prop where
  gC : mg x = some (.ref C)
  ox : OexC K C
  ex : ∃ f fd, PySem.W.findIn K (.ref C) "__init__" = some (some (.ref f)) ∧ PySem.W.typeIn K (.ref f) = some (.type "function") ∧ L2H.FnH P w K mg base (L2.CX P w) k f fd ps sp ∧ Binds K fd ps []
theorem ps_raise1H {f : Str} {te : TE} {pos2 cpos : Pos} {jj : Nat} (hc : L2H.HotC X) (tk : L2.Takes X W) (c : MkeH X.prog X.w X.K X.mg X.base k x C ps (spI1 C f)) (hr : L2H.RoomH (k + 1) X.A) (hg : Gl X x) (he : PE X e te) (hdb : (x == ("__debug__" : Str)) = false := by decide)
    (hs : starEach [e] X.env = [(false, eval e X.env)] := by rfl) (hpl : (backTo pos (starEach ([] : List Expr) X.env)).any (·.1) = false := by rfl) : PS X (.Raise (some (.Call (.Name x p) [e] [] pos)) (some (.Constant .none jj cpos)) pos2) (tR1 C f W te) := by
  obtain ⟨fI, fd, iC, tI, F1, hb⟩ := c.ex
  refine ps_weak (L2H.ps_raiseHN hc tk (L2H.pmk5_oexH c.ox iC tI F1 hr hc hb passL hg c.gC (pa_cons (pe_up he) pa_nil hs) hdb hs hpl)) fun D σ H h => ⟨_, fun v H1 z => ?_, h⟩
  refine ⟨Nat.le_of_ble_eq_true rfl, fun a ha => ⟨a, v, rfl, upd_same, fun dx n ne => ?_⟩⟩
  rw [upd_ne ne] at n
  refine ⟨rfl, dx, [(f, v)], upd_same, ?_, n, ?_⟩
  · rw [upd_ne ne, upd_same]
  · rw [back1 ha ne]
    exact z dx n
end
end Ew

set_option Elab.async false
set_option linter.all false
set_option maxRecDepth 100000
set_option maxHeartbeats 4000000
namespace Ew
open PySem PySem.Spec PyProof.Rows L2
section
variable {P : Program} {w : World} {K : PySem.W.Frag} {mg mb : Str → Option Value} {k : Nat} {fa a : Addr} {fd : FuncData} {x : Str} {sp : Sp} {st : Shared} {vs : List Value} {ns : List Int}
/-- what is needed of the heap in which the law is asked -/
structure Seed (P : Program) (w : World) (K : PySem.W.Frag) (h : Heap) (a : Addr) (ns : List Int) (H : Hp) : Prop where
  only : Only H
  sq : SqL K H a (ns.map V.int)
  ok : HOk P w H h
  lone : ∀ b, H b ≠ none → b = a
  apart : H a ≠ none → K.lookup a = none
theorem seed_of (KX : K.In st.heap) (ha : st.heap.get? a = some { cls := .type "list", data := .seq vs.toArray }) (hi : IntsAre vs ns) (hl : ns.length ≤ sizeLine) : ∃ H, Seed P w K st.heap a ns H := by
  have rv := vals_ints hi
  rcases hk : K.lookup a with _ | o
  · have off : ∀ b, ¬ b = a → (fun b => if b = a then some (HO.frz { cls := .type "list", data := .seq vs.toArray } (.lst (ns.map V.int))) else none) b = none := fun b n => if_neg n
    refine ⟨fun b => if b = a then some (.frz { cls := .type "list", data := .seq vs.toArray } (.lst (ns.map V.int))) else none, ⟨fun b => ?_, .inl (.inr ⟨_, if_pos rfl⟩), fun b u z => ?_, fun b z => ?_, fun _ => hk⟩⟩
    · rcases Classical.em (b = a) with e | e
      · exact .inr ⟨_, _, if_pos e⟩
      · exact .inl (off b e)
    · rcases Classical.em (b = a) with e | e
      · cases (if_pos e).symm.trans z
        rw [e]
        exact ⟨ha, by rw [List.length_map]; exact hl, vs, _, rv, ha⟩
      · cases (off b e).symm.trans z
    · exact Classical.byContradiction fun e => z (off b e)
  · have e := KX a o hk
    rw [ha] at e
    cases e
    refine ⟨fun _ => none, ⟨fun _ => .inl rfl, .inr ⟨_, vs.toArray, _, hk, rfl, rfl, rfl, ?_, by simpa using rv⟩, (fun b u z => nomatch z), (fun b z => absurd rfl z), fun z => absurd rfl z⟩⟩
    rw [List.size_toArray, hi.length]
    exact hl
theorem seed_env {H : Hp} (S : Seed P w K st.heap a ns H) (KX : K.In st.heap) (hns : st.heap.Ns mainGlobals mg) (hb : st.heap.Ns builtinsNs mb) (hbb : ∀ x : Str, x ≠ "__name__" → mb x = bootBuiltins x) (hlim : st.heap.NoLimit) (hg : st.gens = #[])
    (ha : st.heap.get? a = some { cls := .type "list", data := .seq vs.toArray }) : Mod K mg (hidT st.heap H) ∧ Env0 P w K mg (hidT st.heap H) callerA [] st H := by
  have free : ∀ {b : Addr}, ¬ b = a → H b = none := fun {b} n => Classical.byContradiction fun z => n (S.lone b z)
  have seen : ∀ {b : Addr} {m : Str → Option Value}, st.heap.Ns b m → (hidT st.heap H).Ns b m := by
    rintro b m ⟨o, es, ep, e, d, r⟩
    refine ⟨o, es, ep, hidT_get e (free fun q => ?_), d, r⟩
    rw [q, ha] at e
    cases e
    cases (show Data.seq vs.toArray _ = Data.dict es ep from d)
  have kin : K.In (hidT st.heap H) := fun b o e => by
    refine hidT_get (KX b o e) (Classical.byContradiction fun z => ?_)
    have q := S.lone b z
    rw [q] at z e
    rw [S.apart z] at e
    cases e
  obtain ⟨mc, l1, l2⟩ := hlim
  have md : Mod K mg (hidT st.heap H) := ⟨kin, seen hns, ⟨mb, seen hb, hbb⟩, mc, seen l1, l2⟩
  exact ⟨md, ⟨rfl, md, fun b o e => of_hidT e, Nat.le_of_eq (hidT_size _ _), trivial, fun b z => (nomatch z), S.ok, .of_eq hg⟩⟩
theorem law_callG (KX : K.In st.heap) (hns : st.heap.Ns mainGlobals mg) (hb : st.heap.Ns builtinsNs mb) (hbb : ∀ x : Str, x ≠ "__name__" → mb x = bootBuiltins x) (hlim : st.heap.NoLimit) (hg : st.gens = #[])
    (ha : st.heap.get? a = some { cls := .type "list", data := .seq vs.toArray }) (hi : IntsAre vs ns) (hl : ns.length ≤ sizeLine) (hr : Room k callerA)
    (F : ∀ base : Heap, K.In base → base.Ns mainGlobals mg → FnG P w K mg base k fa fd [x] sp) (hbind : ∀ (s : Shared) (u : Value), BindsTo s fd ⟨[u], []⟩ [(x, u)])
    (hsp : ∀ H : Hp, Only H → SqL K H a (ns.map V.int) → sp [.ref a] H (fun v _ => v = .bl true) fun _ _ _ => False) :
    codeAny (model P w) callerA (.call (.ref fa) ⟨[.ref a], []⟩) (fun r s' => r = .ok (.ret (.bool true)) ∧ OldK st.heap s'.heap ∧ s'.os = st.os ∧ AllBare s'.gens) st := by
  obtain ⟨H, S⟩ := seed_of (P := P) (w := w) KX ha hi hl
  obtain ⟨md, env⟩ := seed_env S KX hns hb hbb hlim hg ha
  refine codeAny_mono ((F _ md.kin md.glob).go callerA [] st H ⟨[.ref a], []⟩ [.ref a] [.ref a] _ _ rfl hr env (hbind st (.ref a)) (.cons rfl .nil) (hsp H S.only S.sq)) ?_
  intro r s' got
  match r, got with
  | .error e, got =>
    obtain ⟨_, _, _, _, _, _, _, _, _, _, _, _, z⟩ := got
    exact z.elim
  | .ok (.ret u), ⟨v, H', os, bare, un, hok', r', q⟩ =>
    have q : v = .bl true := q
    subst q
    have r' : u = Value.bool true := r'
    subst r'
    refine ⟨rfl, OldK.of_keep fun b o e => ?_, os, bare⟩
    rcases z : H b with _ | u
    · exact un.keep b o e z (fun y => nomatch y) (by simp)
    · rcases S.only b with y | ⟨ob, xs, y⟩
      · rw [z] at y
        cases y
      · obtain ⟨e1, _⟩ := S.ok b _ y
        obtain ⟨e2, _⟩ := hok' b _ (un.frzs b ob _ y)
        rw [e] at e1
        cases e1
        exact e2
end
theorem walk_G {l : PySem.W.OpenLaw} {n k : Nat} {q : Program} {loose : List Str} {XP : (Str → Option Value) → Heap → Prop} {YP : World → Heap → Prop} {d : DefRec} {K : Params → PySem.W.Frag} {sp : World → Sp} {x : Str}
    (hn : l.most = some n) (hn2 : n ≤ sizeLine) (hdf : d.params.defaults = []) (hr : Room k callerA) (hY : ∀ (w : World) (h : Heap), YP w h → (K w.params).In h)
    (F : ∀ (w : World) (mg : Str → Option Value) (fa : Addr) (h : Heap), (K w.params).In h → h.Ns mainGlobals mg → mg d.name = some (.ref fa) →
      ∃ fd : FuncData, (∀ (s : Shared) (u : Value), BindsTo s fd ⟨[u], []⟩ [(x, u)]) ∧ ∀ base : Heap, (K w.params).In base → base.Ns mainGlobals mg → FnG l.prog w (K w.params) mg base k fa fd [x] (sp w))
    (hsp : ∀ (w : World) (H : Hp) (a : Addr) (ns : List Int), ns.length ≤ n → Only H → SqL (K w.params) H a (ns.map V.int) → sp w [.ref a] H (fun v _ => v = .bl true) fun _ _ _ => False) :
    PySem.W.WalkO q loose XP YP l.row.toRowW d [] (fun f vs => PySem.call f vs) := by
  refine Att.attach_call hn hdf ?_
  intro w s₀ s₁ mg mb fa o pm cd doc a vs ns G Y ho hd hcd hmg hobj hints hlen hg
  obtain ⟨fd, bind, go⟩ := F w mg fa _ (hY w _ Y) G.T.g hmg
  exact law_callG (hY w _ Y) G.T.g G.T.b G.T.builtins G.T.nolimit hg hobj hints (Nat.le_trans hlen hn2) hr go bind fun H o s => hsp w H a ns hlen o s
end Ew

set_option Elab.async false
set_option linter.all false
set_option maxRecDepth 100000
set_option maxHeartbeats 4000000
namespace Ew
open PySem PySem.Spec PyProof.Rows L2
open SX (S)
/-! ### lists or tuples -/
section
variable {X : Cx} {tg l : Expr} {tl : TE}
theorem pi_seq (hl : PE X l tl) : PI X tg l (fun σ H R => iList X.K tl σ H R ∨ iTup X.K tl σ H R) :=
  ⟨fun pins s σ H R I h => h.elim ((pi_list hl).run pins s σ H R I) ((pi_tup hl).run pins s σ H R I)⟩
end
/-- a list or a tuple of xs at v -/
def Sq (K : PySem.W.Frag) (F : Hp) (v : V) (xs : List V) : Prop := ∃ p, v = .ref p ∧ (SqL K F p xs ∨ SqT K F p xs)
theorem Sq.up {K : PySem.W.Frag} {F F' : Hp} {v : V} {xs : List V} (h : Sq K F v xs) (e : Same F F') : Sq K F' v xs := by
  obtain ⟨p, h1, h2⟩ := h
  exact ⟨p, h1, h2.imp (upL e) (upT e)⟩
/-! ### a dict comprehension over anything that walks -/
theorem dc_it {J : It} {n : Nat} {G : Hp → Prop} {Y : Nat → Hp → V → Hp → Prop} (w : Walk J n G Y) {g : TG} {tt : TT} {tk tv : TE} {vs : List Nat} {σ : L2.St} {H1 : Hp} {D : Addr} {Qd : Hp → Prop} (Pv : Nat → Hp → Prop) (h0 : Pv 0 (upd H1 D (.dK []))) (hG : ∀ i H, i ≤ n → Pv i H → G H)
    (hs : ∀ i x H H', i < n → Pv i H → Y i H x H' → g x (wipe σ vs) H' fun σ2 H2 => wipe σ2 vs = wipe σ vs ∧ tt σ2 H2 fun b H3 =>
      if b = true then tk σ2 H3 fun y H4 => tv σ2 H4 fun z H5 => ∃ kvs k, y = kV k ∧ H5 D = some (.dK kvs) ∧ kvs.length < sizeLine ∧ Pv (i + 1) (upd H5 D (.dK (putK kvs k z))) else Pv (i + 1) H3) (hd : ∀ H, Pv n H → Qd H) :
    ∃ W : Nat → Nat → Hp → Prop, (∃ m, W 0 m (upd H1 D (.dK []))) ∧ ∀ i m H, W i m H →
      (J.stop i H ∧ Qd H) ∨ (J.go i H ∧ ∃ Nx : Hp → Prop, (∀ H', Nx H' → ∃ m', m' < m ∧ W (i + 1) m' H') ∧ ∀ x H', J.yld i H x H' → g x (wipe σ vs) H' fun σ2 H2 => wipe σ2 vs = wipe σ vs ∧ tt σ2 H2 fun b H3 =>
        if b = true then tk σ2 H3 fun y H4 => tv σ2 H4 fun z H5 => ∃ kvs k, y = kV k ∧ H5 D = some (.dK kvs) ∧ kvs.length < sizeLine ∧ Nx (upd H5 D (.dK (putK kvs k z))) else Nx H3) := by
  refine ⟨fun i m H => m = n - i ∧ i ≤ n ∧ Pv i H, ⟨n, by simp, Nat.zero_le _, h0⟩, ?_⟩
  rintro i m H ⟨rfl, hi, p⟩
  have q := hG i H hi p
  rcases Nat.lt_or_ge i n with lt | ge
  · exact .inr ⟨w.goes i H lt q, Pv (i + 1), fun H' p' => ⟨n - (i + 1), by omega, rfl, lt, p'⟩, fun x H' y => hs i x H H' lt p (w.yields i H x H' lt q y)⟩
  · obtain rfl : i = n := by omega
    exact .inl ⟨w.stops H q, hd H p⟩
/-! ### a text, k times -/
theorem fold_rep (a : Array Nat) : ∀ (m : Nat) (acc : Array Nat), (List.replicate m a).foldl (· ++ ·) acc = acc ++ (List.replicate m a.toList).flatten.toArray
  | 0, acc => by simp
  | m + 1, acc => by
    rw [List.replicate_succ, List.foldl_cons, fold_rep a m, List.replicate_succ]
    apply Array.ext'
    simp
def rep (k : Nat) (l : List Nat) : List Nat := (List.replicate k l).flatten
theorem rep_len (l : List Nat) : ∀ k, (rep k l).length = k * l.length
  | 0 => by simp [rep]
  | k + 1 => by
    have := rep_len l k
    unfold rep at this ⊢
    rw [List.replicate_succ, List.flatten_cons, List.length_append, this, Nat.succ_mul]
    omega
def rRepS : R2 := fun x y H Q => ∃ (l : List Nat) (k : Int), x = .str (S l) ∧ y = .int k ∧ 1 ≤ k ∧ k ≤ 100000 ∧ l ≠ [] ∧ l.length ≤ 100 ∧ Q (.str (S (rep k.toNat l))) H
theorem op_repS {X : Cx} : OpR X (binaryOp .Mult) rRepS := by
  intro pins s σ H x y v u Q I rx ry h
  obtain ⟨l, k, rfl, rfl, h1, h2, h3, h4, q⟩ := h
  obtain ⟨t, rfl⟩ := rx
  obtain ⟨t', rfl⟩ := ry
  have hl : (S l).length = l.length := SX.S_len l
  have l0 : 0 < l.length := List.length_pos_iff.mpr h3
  have kz : ((k.toNat : Nat) : Int) = k := Int.toNat_of_nonneg (by omega)
  have hb : l.length * k.toNat ≤ 100 * 100000 := Nat.mul_le_mul h4 (by omega)
  refine PySem.P.mul_str ?_ (fun _ _ => ?_) (fun _ _ => ?_) ?_
  · rw [decide_eq_false (by omega), decide_eq_false (by omega)]
    rfl
  · rw [hl]
    have : (l.length : Int) ≤ (2 ^ 63 - 1) / k := (Int.le_ediv_iff_mul_le (by omega)).mpr (by
      have : (l.length : Int) * k = ((l.length * k.toNat : Nat) : Int) := by rw [Int.natCast_mul, kz]
      rw [this]
      omega)
    omega
  · rw [hl]
    unfold PySem.Builtin.Str.tooLong
    rw [decide_eq_false_iff_not, sizeLine_eq]
    omega
  · rw [if_neg (by omega)]
    by_cases e : k = 1
    · subst e
      have er : rep (1 : Int).toNat l = l := by simp [rep]
      rw [er] at q
      rw [if_pos (by rfl)]
      exact ⟨.str (S l), H, I, ⟨_, rfl⟩, q⟩
    · have e1 : (k == 1) = false := by rw [beq_eq_false_iff_ne]; exact e
      have e0 : ((S l).length == 0) = false := by rw [hl, beq_eq_false_iff_ne]; omega
      rw [e1, e0, if_neg (by decide), fold_rep]
      have e3 : (#[] ++ (List.replicate k.toNat (S l).cps.toList).flatten.toArray : Array Nat) = (rep k.toNat l).toArray := by simp [rep]
      rw [e3]
      refine ⟨?_, ⟨.str (S (rep k.toNat l)), H, I.tok _, ⟨_, rfl⟩, q⟩⟩
      show (S (rep k.toNat l)).length ≤ sizeLine
      rw [SX.S_len, rep_len, sizeLine_eq, Nat.mul_comm]
      omega
/-! ### str of a tuple, where no repr is under way; of an int -/
def rStrD (K : PySem.W.Frag) : List V → Hp → VK → Prop := fun xs H Q => ∃ (a : Addr) (d : PyData), xs = [.ref a] ∧ Dp K H (.ref a) d ∧ d.showable = true ∧ d.hasDict = false ∧ d.depth ≤ 50 ∧ d.shown.length ≤ sizeLine ∧ Q (.str d.shown) H
theorem call_strD {X : Cx} (hg : X.A.guards = some []) (hu : X.A.units + 64 < cLine) : CallR X (.type "str") (rStrD X.K) := by
  intro pins s σ H xs us Q I r h
  obtain ⟨a, d, rfl, hd, h1, h2, h3, h4, q⟩ := h
  obtain ⟨u, rfl, rx⟩ := vals1 r
  obtain ⟨as, rd⟩ := Dp.reads I d _ _ hd rx
  obtain rfl : u = Value.ref a := rx
  exact str_of_reads rd h1 (PyData.noDict_hsm h2) hg (by omega) (fun _ _ e => e) (fun h' u' tk hk => ⟨.str d.shown, H, I.kept hk, ⟨_, rfl⟩, q⟩) h4
end Ew

set_option Elab.async false
set_option linter.all false
set_option maxRecDepth 100000
set_option maxHeartbeats 4000000
namespace K49
open PySem PySem.Spec PyProof.Rows L2 Ew
def top (i : Nat) : Stmt := PySem.Challenge.pw_ellwarden_k49_cards_judged.main.body.getD i (.Pass ⟨0, 0, 0, 0⟩)
abbrev s__wall : Stmt := (top 0)
abbrev N__wall : List Str := ["k"]
abbrev P__wall : List Str := ["k"]
theorem sc__wall : FnScope N__wall P__wall (defScope s__wall) := ⟨rfl, rfl, rfl, by decide +kernel, rfl, by decide +kernel, by decide +kernel⟩
abbrev s_is_integer : Stmt := (top 2)
abbrev N_is_integer : List Str := ["thing"]
abbrev P_is_integer : List Str := ["thing"]
theorem sc_is_integer : FnScope N_is_integer P_is_integer (defScope s_is_integer) := ⟨rfl, rfl, rfl, by decide +kernel, rfl, by decide +kernel, by decide +kernel⟩
abbrev s_is_row : Stmt := (top 3)
abbrev N_is_row : List Str := ["thing"]
abbrev P_is_row : List Str := ["thing"]
theorem sc_is_row : FnScope N_is_row P_is_row (defScope s_is_row) := ⟨rfl, rfl, rfl, by decide +kernel, rfl, by decide +kernel, by decide +kernel⟩
abbrev s_is_tuple_of : Stmt := (top 4)
abbrev N_is_tuple_of : List Str := ["thing", "many"]
abbrev P_is_tuple_of : List Str := ["thing", "many"]
theorem sc_is_tuple_of : FnScope N_is_tuple_of P_is_tuple_of (defScope s_is_tuple_of) := ⟨rfl, rfl, rfl, by decide +kernel, rfl, by decide +kernel, by decide +kernel⟩
abbrev s_BadSpotD_initD : Stmt := inClass (top 7) 0
abbrev N_BadSpotD_initD : List Str := ["self", "place"]
abbrev P_BadSpotD_initD : List Str := ["self", "place"]
theorem sc_BadSpotD_initD : FnScope N_BadSpotD_initD P_BadSpotD_initD (defScope s_BadSpotD_initD) := ⟨rfl, rfl, rfl, by decide +kernel, rfl, by decide +kernel, by decide +kernel⟩
abbrev s_NoSpotD_initD : Stmt := inClass (top 8) 0
abbrev N_NoSpotD_initD : List Str := ["self", "spot"]
abbrev P_NoSpotD_initD : List Str := ["self", "spot"]
theorem sc_NoSpotD_initD : FnScope N_NoSpotD_initD P_NoSpotD_initD (defScope s_NoSpotD_initD) := ⟨rfl, rfl, rfl, by decide +kernel, rfl, by decide +kernel, by decide +kernel⟩
abbrev s_ClashD_initD : Stmt := inClass (top 9) 0
abbrev N_ClashD_initD : List Str := ["self", "ring"]
abbrev P_ClashD_initD : List Str := ["self", "ring"]
theorem sc_ClashD_initD : FnScope N_ClashD_initD P_ClashD_initD (defScope s_ClashD_initD) := ⟨rfl, rfl, rfl, by decide +kernel, rfl, by decide +kernel, by decide +kernel⟩
abbrev s_BadCardD_initD : Stmt := inClass (top 10) 0
abbrev N_BadCardD_initD : List Str := ["self", "place"]
abbrev P_BadCardD_initD : List Str := ["self", "place"]
theorem sc_BadCardD_initD : FnScope N_BadCardD_initD P_BadCardD_initD (defScope s_BadCardD_initD) := ⟨rfl, rfl, rfl, by decide +kernel, rfl, by decide +kernel, by decide +kernel⟩
abbrev s_ways_from : Stmt := (top 12)
abbrev N_ways_from : List Str := ["many", "arrows", "ways", "number", "arrow", "_"]
abbrev P_ways_from : List Str := ["many", "arrows"]
theorem sc_ways_from : FnScope N_ways_from P_ways_from (defScope s_ways_from) := ⟨rfl, rfl, rfl, by decide +kernel, rfl, by decide +kernel, by decide +kernel⟩
abbrev s_heights_and_ring : Stmt := (top 13)
abbrev N_heights_and_ring : List Str := ["arrows", "ways", "known", "last", "heights", "active", "lowered", "place", "number", "goal", "height", "ring"]
abbrev P_heights_and_ring : List Str := ["arrows", "ways", "known"]
theorem sc_heights_and_ring : FnScope N_heights_and_ring P_heights_and_ring (defScope s_heights_and_ring) := ⟨rfl, rfl, rfl, by decide +kernel, rfl, by decide +kernel, by decide +kernel⟩
abbrev s__ring_of : Stmt := (top 14)
abbrev N__ring_of : List Str := ["arrows", "last", "walks", "walk", "at"]
abbrev P__ring_of : List Str := ["arrows", "last"]
theorem sc__ring_of : FnScope N__ring_of P__ring_of (defScope s__ring_of) := ⟨rfl, rfl, rfl, by decide +kernel, rfl, by decide +kernel, by decide +kernel⟩
abbrev s__followed_back : Stmt := (top 15)
abbrev N__followed_back : List Str := ["arrows", "last", "start", "goal", "row", "at"]
abbrev P__followed_back : List Str := ["arrows", "last", "start", "goal"]
theorem sc__followed_back : FnScope N__followed_back P__followed_back (defScope s__followed_back) := ⟨rfl, rfl, rfl, by decide +kernel, rfl, by decide +kernel, by decide +kernel⟩
abbrev s_is_spot : Stmt := (top 18)
abbrev N_is_spot : List Str := ["thing", "name", "stretch", "day"]
abbrev P_is_spot : List Str := ["thing"]
theorem sc_is_spot : FnScope N_is_spot P_is_spot (defScope s_is_spot) := ⟨rfl, rfl, rfl, by decide +kernel, rfl, by decide +kernel, by decide +kernel⟩
abbrev s_arrows_of : Stmt := (top 20)
abbrev N_arrows_of : List Str := ["links", "places", "a", "b", "bound", "_"]
abbrev P_arrows_of : List Str := ["links", "places"]
theorem sc_arrows_of : FnScope N_arrows_of P_arrows_of (defScope s_arrows_of) := ⟨rfl, rfl, rfl, by decide +kernel, rfl, by decide +kernel, by decide +kernel⟩
abbrev s_places_of : Stmt := (top 21)
abbrev N_places_of : List Str := ["spots", "places", "place", "spot"]
abbrev P_places_of : List Str := ["spots"]
theorem sc_places_of : FnScope N_places_of P_places_of (defScope s_places_of) := ⟨rfl, rfl, rfl, by decide +kernel, rfl, by decide +kernel, by decide +kernel⟩
abbrev s_is_closed : Stmt := (top 23)
abbrev N_is_closed : List Str := ["table", "row", "bound", "further", "far", "near"]
abbrev P_is_closed : List Str := ["table"]
theorem sc_is_closed : FnScope N_is_closed P_is_closed (defScope s_is_closed) := ⟨rfl, rfl, rfl, by decide +kernel, rfl, by decide +kernel, by decide +kernel⟩
abbrev s_joined_tables : Stmt := (top 24)
abbrev N_joined_tables : List Str := ["first", "second", "places", "table", "middle", "further", "row", "place"]
abbrev P_joined_tables : List Str := ["first", "second", "places"]
theorem sc_joined_tables : FnScope N_joined_tables P_joined_tables (defScope s_joined_tables) := ⟨rfl, rfl, rfl, by decide +kernel, rfl, by decide +kernel, by decide +kernel⟩
abbrev s__by_way : Stmt := (top 25)
abbrev N__by_way : List Str := ["row", "step", "further", "bound", "far"]
abbrev P__by_way : List Str := ["row", "step", "further"]
theorem sc__by_way : FnScope N__by_way P__by_way (defScope s__by_way) := ⟨rfl, rfl, rfl, by decide +kernel, rfl, by decide +kernel, by decide +kernel⟩
abbrev s__side_by_side : Stmt := (top 26)
abbrev N__side_by_side : List Str := ["first", "second", "places", "many", "new", "away", "back", "table", "start", "row", "at", "place", "step", "far"]
abbrev P__side_by_side : List Str := ["first", "second", "places"]
theorem sc__side_by_side : FnScope N__side_by_side P__side_by_side (defScope s__side_by_side) := ⟨rfl, rfl, rfl, by decide +kernel, rfl, by decide +kernel, by decide +kernel⟩
abbrev s__with_least : Stmt := (top 27)
abbrev N__with_least : List Str := ["row", "bounds", "places", "found", "place", "bound"]
abbrev P__with_least : List Str := ["row", "bounds", "places"]
theorem sc__with_least : FnScope N__with_least P__with_least (defScope s__with_least) := ⟨rfl, rfl, rfl, by decide +kernel, rfl, by decide +kernel, by decide +kernel⟩
abbrev s__joints : Stmt := (top 28)
abbrev N__joints : List Str := ["first", "second", "places", "both", "ends", "start", "row", "goal", "bound", "place"]
abbrev P__joints : List Str := ["first", "second", "places"]
theorem sc__joints : FnScope N__joints P__joints (defScope s__joints) := ⟨rfl, rfl, rfl, by decide +kernel, rfl, by decide +kernel, by decide +kernel⟩
abbrev s_CardD_initD : Stmt := inClass (top 31) 0
abbrev N_CardD_initD : List Str := ["self", "spots", "rows", "bad", "row"]
abbrev P_CardD_initD : List Str := ["self", "spots", "rows"]
theorem sc_CardD_initD : FnScope N_CardD_initD P_CardD_initD (defScope s_CardD_initD) := ⟨rfl, rfl, rfl, by decide +kernel, rfl, by decide +kernel, by decide +kernel⟩
abbrev s_CardD_getitemD : Stmt := inClass (top 31) 1
abbrev N_CardD_getitemD : List Str := ["self", "at", "a", "b"]
abbrev P_CardD_getitemD : List Str := ["self", "at"]
theorem sc_CardD_getitemD : FnScope N_CardD_getitemD P_CardD_getitemD (defScope s_CardD_getitemD) := ⟨rfl, rfl, rfl, by decide +kernel, rfl, by decide +kernel, by decide +kernel⟩
abbrev s_CardD_lenD : Stmt := inClass (top 31) 2
abbrev N_CardD_lenD : List Str := ["self"]
abbrev P_CardD_lenD : List Str := ["self"]
theorem sc_CardD_lenD : FnScope N_CardD_lenD P_CardD_lenD (defScope s_CardD_lenD) := ⟨rfl, rfl, rfl, by decide +kernel, rfl, by decide +kernel, by decide +kernel⟩
abbrev s_CardD_iterD : Stmt := inClass (top 31) 3
abbrev N_CardD_iterD : List Str := ["self"]
abbrev P_CardD_iterD : List Str := ["self"]
theorem sc_CardD_iterD : FnScope N_CardD_iterD P_CardD_iterD (defScope s_CardD_iterD) := ⟨rfl, rfl, rfl, by decide +kernel, rfl, by decide +kernel, by decide +kernel⟩
abbrev s_CardD_containsD : Stmt := inClass (top 31) 4
abbrev N_CardD_containsD : List Str := ["self", "x"]
abbrev P_CardD_containsD : List Str := ["self", "x"]
theorem sc_CardD_containsD : FnScope N_CardD_containsD P_CardD_containsD (defScope s_CardD_containsD) := ⟨rfl, rfl, rfl, by decide +kernel, rfl, by decide +kernel, by decide +kernel⟩
abbrev s_CardD_eqD : Stmt := inClass (top 31) 5
abbrev N_CardD_eqD : List Str := ["self", "other"]
abbrev P_CardD_eqD : List Str := ["self", "other"]
theorem sc_CardD_eqD : FnScope N_CardD_eqD P_CardD_eqD (defScope s_CardD_eqD) := ⟨rfl, rfl, rfl, by decide +kernel, rfl, by decide +kernel, by decide +kernel⟩
abbrev s_CardD_andD : Stmt := inClass (top 31) 6
abbrev N_CardD_andD : List Str := ["self", "other", "spots", "places", "rows", "spot"]
abbrev P_CardD_andD : List Str := ["self", "other"]
theorem sc_CardD_andD : FnScope N_CardD_andD P_CardD_andD (defScope s_CardD_andD) := ⟨rfl, rfl, rfl, by decide +kernel, rfl, by decide +kernel, by decide +kernel⟩
abbrev s_Card_cut : Stmt := inClass (top 31) 7
abbrev N_Card_cut : List Str := ["self", "spots", "named", "places", "spot", "a", "b"]
abbrev P_Card_cut : List Str := ["self", "spots"]
theorem sc_Card_cut : FnScope N_Card_cut P_Card_cut (defScope s_Card_cut) := ⟨rfl, rfl, rfl, by decide +kernel, rfl, by decide +kernel, by decide +kernel⟩
abbrev s_Card_entered : Stmt := inClass (top 31) 8
abbrev N_Card_entered : List Str := ["self", "a", "b", "bound"]
abbrev P_Card_entered : List Str := ["self", "a", "b", "bound"]
theorem sc_Card_entered : FnScope N_Card_entered P_Card_entered (defScope s_Card_entered) := ⟨rfl, rfl, rfl, by decide +kernel, rfl, by decide +kernel, by decide +kernel⟩
abbrev s_Card_as_web : Stmt := inClass (top 31) 9
abbrev N_Card_as_web : List Str := ["self"]
abbrev P_Card_as_web : List Str := ["self"]
theorem sc_Card_as_web : FnScope N_Card_as_web P_Card_as_web (defScope s_Card_as_web) := ⟨rfl, rfl, rfl, by decide +kernel, rfl, by decide +kernel, by decide +kernel⟩
abbrev s_Card__place : Stmt := inClass (top 31) 10
abbrev N_Card__place : List Str := ["self", "spot"]
abbrev P_Card__place : List Str := ["self", "spot"]
theorem sc_Card__place : FnScope N_Card__place P_Card__place (defScope s_Card__place) := ⟨rfl, rfl, rfl, by decide +kernel, rfl, by decide +kernel, by decide +kernel⟩
abbrev s_card_links : Stmt := (top 32)
abbrev N_card_links : List Str := ["card", "why", "links", "a", "row", "b", "bound"]
abbrev P_card_links : List Str := ["card", "why"]
theorem sc_card_links : FnScope N_card_links P_card_links (defScope s_card_links) := ⟨rfl, rfl, rfl, by decide +kernel, rfl, by decide +kernel, by decide +kernel⟩
abbrev s__named_once : Stmt := (top 33)
abbrev N__named_once : List Str := ["spots", "known", "named", "spot"]
abbrev P__named_once : List Str := ["spots", "known"]
theorem sc__named_once : FnScope N__named_once P__named_once (defScope s__named_once) := ⟨rfl, rfl, rfl, by decide +kernel, rfl, by decide +kernel, by decide +kernel⟩
abbrev s__trusted : Stmt := (top 34)
abbrev N__trusted : List Str := ["spots", "rows", "made", "row"]
abbrev P__trusted : List Str := ["spots", "rows"]
theorem sc__trusted : FnScope N__trusted P__trusted (defScope s__trusted) := ⟨rfl, rfl, rfl, by decide +kernel, rfl, by decide +kernel, by decide +kernel⟩
abbrev s__judge_rows : Stmt := (top 35)
abbrev N__judge_rows : List Str := ["rows", "many", "told", "place", "row", "bound"]
abbrev P__judge_rows : List Str := ["rows", "many"]
theorem sc__judge_rows : FnScope N__judge_rows P__judge_rows (defScope s__judge_rows) := ⟨rfl, rfl, rfl, by decide +kernel, rfl, by decide +kernel, by decide +kernel⟩
abbrev s__clash_ring : Stmt := (top 36)
abbrev N__clash_ring : List Str := ["links", "places", "arrows", "_", "numbers", "number"]
abbrev P__clash_ring : List Str := ["links", "places"]
theorem sc__clash_ring : FnScope N__clash_ring P__clash_ring (defScope s__clash_ring) := ⟨rfl, rfl, rfl, by decide +kernel, rfl, by decide +kernel, by decide +kernel⟩
abbrev s__law_bag_of : Stmt := (top 38)
abbrev N__law_bag_of : List Str := ["_law_script", "_law_mixed", "_law_cell"]
abbrev P__law_bag_of : List Str := ["_law_script"]
theorem sc__law_bag_of : FnScope N__law_bag_of P__law_bag_of (defScope s__law_bag_of) := ⟨rfl, rfl, rfl, by decide +kernel, rfl, by decide +kernel, by decide +kernel⟩
abbrev s__law_pick : Stmt := (top 39)
abbrev N__law_pick : List Str := ["_law_bag", "_law_many", "_law_number", "_law_cell"]
abbrev P__law_pick : List Str := ["_law_bag", "_law_many"]
theorem sc__law_pick : FnScope N__law_pick P__law_pick (defScope s__law_pick) := ⟨rfl, rfl, rfl, by decide +kernel, rfl, by decide +kernel, by decide +kernel⟩
abbrev s__law_choice : Stmt := (top 40)
abbrev N__law_choice : List Str := ["_law_bag", "_law_things"]
abbrev P__law_choice : List Str := ["_law_bag", "_law_things"]
theorem sc__law_choice : FnScope N__law_choice P__law_choice (defScope s__law_choice) := ⟨rfl, rfl, rfl, by decide +kernel, rfl, by decide +kernel, by decide +kernel⟩
abbrev s__law_one_in : Stmt := (top 41)
abbrev N__law_one_in : List Str := ["_law_bag", "_law_many"]
abbrev P__law_one_in : List Str := ["_law_bag", "_law_many"]
theorem sc__law_one_in : FnScope N__law_one_in P__law_one_in (defScope s__law_one_in) := ⟨rfl, rfl, rfl, by decide +kernel, rfl, by decide +kernel, by decide +kernel⟩
abbrev s__law_integer : Stmt := (top 42)
abbrev N__law_integer : List Str := ["_law_thing"]
abbrev P__law_integer : List Str := ["_law_thing"]
theorem sc__law_integer : FnScope N__law_integer P__law_integer (defScope s__law_integer) := ⟨rfl, rfl, rfl, by decide +kernel, rfl, by decide +kernel, by decide +kernel⟩
abbrev s__law_letters_of : Stmt := (top 43)
abbrev N__law_letters_of : List Str := ["_law_bag", "_law_many", "_law_k"]
abbrev P__law_letters_of : List Str := ["_law_bag", "_law_many"]
theorem sc__law_letters_of : FnScope N__law_letters_of P__law_letters_of (defScope s__law_letters_of) := ⟨rfl, rfl, rfl, by decide +kernel, rfl, by decide +kernel, by decide +kernel⟩
abbrev s__law_words : Stmt := (top 44)
abbrev N__law_words : List Str := ["_law_told"]
abbrev P__law_words : List Str := []
theorem sc__law_words : FnScope N__law_words P__law_words (defScope s__law_words) := ⟨rfl, rfl, rfl, by decide +kernel, rfl, by decide +kernel, by decide +kernel⟩
abbrev s__law_names_of : Stmt := (top 45)
abbrev N__law_names_of : List Str := ["_law_bag", "_law_many", "_law_taken", "_law_letters", "_law_k", "_law_drawn", "_law_name", "_law_step"]
abbrev P__law_names_of : List Str := ["_law_bag", "_law_many"]
theorem sc__law_names_of : FnScope N__law_names_of P__law_names_of (defScope s__law_names_of) := ⟨rfl, rfl, rfl, by decide +kernel, rfl, by decide +kernel, by decide +kernel⟩
abbrev s__law_ground : Stmt := (top 46)
abbrev N__law_ground : List Str := []
abbrev P__law_ground : List Str := []
theorem sc__law_ground : FnScope N__law_ground P__law_ground (defScope s__law_ground) := ⟨rfl, rfl, rfl, by decide +kernel, rfl, by decide +kernel, by decide +kernel⟩
abbrev s__law_few_spots : Stmt := (top 47)
abbrev N__law_few_spots : List Str := ["_law_bag", "_law_many", "_law_names", "_law_odd", "_law_spots", "_law_k", "_law_name", "_law_spot"]
abbrev P__law_few_spots : List Str := ["_law_bag", "_law_many"]
theorem sc__law_few_spots : FnScope N__law_few_spots P__law_few_spots (defScope s__law_few_spots) := ⟨rfl, rfl, rfl, by decide +kernel, rfl, by decide +kernel, by decide +kernel⟩
abbrev s__law_closing : Stmt := (top 48)
abbrev N__law_closing : List Str := ["_law_rows", "_law_table", "_law_middle", "_law_through", "_law_a", "_law_row", "_law_step", "_law_b"]
abbrev P__law_closing : List Str := ["_law_rows"]
theorem sc__law_closing : FnScope N__law_closing P__law_closing (defScope s__law_closing) := ⟨rfl, rfl, rfl, by decide +kernel, rfl, by decide +kernel, by decide +kernel⟩
abbrev s__law_drawn_rows : Stmt := (top 49)
abbrev N__law_drawn_rows : List Str := ["_law_bag", "_law_many", "_law_scale", "_law_spread", "_law_values", "_law_rows", "_law_a", "_law_row", "_law_k", "_law_b"]
abbrev P__law_drawn_rows : List Str := ["_law_bag", "_law_many"]
theorem sc__law_drawn_rows : FnScope N__law_drawn_rows P__law_drawn_rows (defScope s__law_drawn_rows) := ⟨rfl, rfl, rfl, by decide +kernel, rfl, by decide +kernel, by decide +kernel⟩
abbrev s__law_right_card : Stmt := (top 50)
abbrev N__law_right_card : List Str := ["_law_card", "_law_spots", "_law_rows", "_law_a", "_law_told_row", "_law_b", "_law_told_bound", "_law_one"]
abbrev P__law_right_card : List Str := ["_law_card", "_law_spots", "_law_rows"]
theorem sc__law_right_card : FnScope N__law_right_card P__law_right_card (defScope s__law_right_card) := ⟨rfl, rfl, rfl, by decide +kernel, rfl, by decide +kernel, by decide +kernel⟩
abbrev s__law_at_of : Stmt := (top 51)
abbrev N__law_at_of : List Str := ["_law_card", "_law_a", "_law_b", "_law_told_bound", "e"]
abbrev P__law_at_of : List Str := ["_law_card", "_law_a", "_law_b"]
theorem sc__law_at_of : FnScope N__law_at_of P__law_at_of (defScope s__law_at_of) := ⟨rfl, rfl, rfl, by decide +kernel, rfl, by decide +kernel, by decide +kernel⟩
abbrev s__law_cut : Stmt := (top 52)
abbrev N__law_cut : List Str := ["_law_card", "_law_few", "_law_part", "e"]
abbrev P__law_cut : List Str := ["_law_card", "_law_few"]
theorem sc__law_cut : FnScope N__law_cut P__law_cut (defScope s__law_cut) := ⟨rfl, rfl, rfl, by decide +kernel, rfl, by decide +kernel, by decide +kernel⟩
abbrev s__law_made : Stmt := (top 53)
abbrev N__law_made : List Str := ["_law_spots", "_law_rows", "_law_card", "e"]
abbrev P__law_made : List Str := ["_law_spots", "_law_rows"]
theorem sc__law_made : FnScope N__law_made P__law_made (defScope s__law_made) := ⟨rfl, rfl, rfl, by decide +kernel, rfl, by decide +kernel, by decide +kernel⟩
abbrev s__law_is_spot : Stmt := (top 54)
abbrev N__law_is_spot : List Str := ["_law_thing"]
abbrev P__law_is_spot : List Str := ["_law_thing"]
theorem sc__law_is_spot : FnScope N__law_is_spot P__law_is_spot (defScope s__law_is_spot) := ⟨rfl, rfl, rfl, by decide +kernel, rfl, by decide +kernel, by decide +kernel⟩
abbrev s__law_is_closed : Stmt := (top 55)
abbrev N__law_is_closed : List Str := ["_law_rows", "_law_a", "_law_b", "_law_c"]
abbrev P__law_is_closed : List Str := ["_law_rows"]
theorem sc__law_is_closed : FnScope N__law_is_closed P__law_is_closed (defScope s__law_is_closed) := ⟨rfl, rfl, rfl, by decide +kernel, rfl, by decide +kernel, by decide +kernel⟩
abbrev s__law_due_of : Stmt := (top 56)
abbrev N__law_due_of : List Str := ["_law_spots", "_law_rows", "_law_place", "_law_spot", "_law_row", "_law_one"]
abbrev P__law_due_of : List Str := ["_law_spots", "_law_rows"]
theorem sc__law_due_of : FnScope N__law_due_of P__law_due_of (defScope s__law_due_of) := ⟨rfl, rfl, rfl, by decide +kernel, rfl, by decide +kernel, by decide +kernel⟩
abbrev s__law_edge : Stmt := (top 57)
abbrev N__law_edge : List Str := ["_law_bag", "_law_rows", "_law_many", "_law_a", "_law_c", "_law_sums", "_law_b"]
abbrev P__law_edge : List Str := ["_law_bag", "_law_rows"]
theorem sc__law_edge : FnScope N__law_edge P__law_edge (defScope s__law_edge) := ⟨rfl, rfl, rfl, by decide +kernel, rfl, by decide +kernel, by decide +kernel⟩
abbrev s__law_spoil_spots : Stmt := (top 58)
abbrev N__law_spoil_spots : List Str := ["_law_bag", "_law_spots", "_law_odd", "_law_way", "_law_at", "_law_other", "_law_kept"]
abbrev P__law_spoil_spots : List Str := ["_law_bag", "_law_spots"]
theorem sc__law_spoil_spots : FnScope N__law_spoil_spots P__law_spoil_spots (defScope s__law_spoil_spots) := ⟨rfl, rfl, rfl, by decide +kernel, rfl, by decide +kernel, by decide +kernel⟩
abbrev s__law_spoil_rows : Stmt := (top 59)
abbrev N__law_spoil_rows : List Str := ["_law_bag", "_law_rows", "_law_odd", "_law_way", "_law_at", "_law_row", "_law_spoilt"]
abbrev P__law_spoil_rows : List Str := ["_law_bag", "_law_rows"]
theorem sc__law_spoil_rows : FnScope N__law_spoil_rows P__law_spoil_rows (defScope s__law_spoil_rows) := ⟨rfl, rfl, rfl, by decide +kernel, rfl, by decide +kernel, by decide +kernel⟩
abbrev s__law_good_cards : Stmt := (top 60)
abbrev N__law_good_cards : List Str := ["_law_bag", "_law_spots", "_law_spare", "_law_rows", "_law_handed", "_law_inner", "_law_card", "_law_twin", "_law_lowered", "_law_a", "_law_b", "_law_other", "_law_here", "_law_second", "_law_odd", "_law_row"]
abbrev P__law_good_cards : List Str := ["_law_bag", "_law_spots", "_law_spare", "_law_rows"]
theorem sc__law_good_cards : FnScope N__law_good_cards P__law_good_cards (defScope s__law_good_cards) := ⟨rfl, rfl, rfl, by decide +kernel, rfl, by decide +kernel, by decide +kernel⟩
abbrev s__law_turned_about : Stmt := (top 61)
abbrev N__law_turned_about : List Str := ["_law_spots", "_law_spare", "_law_rows", "_law_card", "_law_last", "_law_order", "_law_turned", "_law_k", "_law_j"]
abbrev P__law_turned_about : List Str := ["_law_spots", "_law_spare", "_law_rows"]
theorem sc__law_turned_about : FnScope N__law_turned_about P__law_turned_about (defScope s__law_turned_about) := ⟨rfl, rfl, rfl, by decide +kernel, rfl, by decide +kernel, by decide +kernel⟩
abbrev s__law_cuts : Stmt := (top 62)
abbrev N__law_cuts : List Str := ["_law_bag", "_law_spots", "_law_spare", "_law_rows", "_law_card", "_law_few", "_law_kept", "_law_spot", "_law_places", "_law_due", "_law_handed", "_law_answer", "_law_at", "_law_foreign", "_law_again", "_law_k", "_law_a", "_law_b"]
abbrev P__law_cuts : List Str := ["_law_bag", "_law_spots", "_law_spare", "_law_rows"]
theorem sc__law_cuts : FnScope N__law_cuts P__law_cuts (defScope s__law_cuts) := ⟨rfl, rfl, rfl, by decide +kernel, rfl, by decide +kernel, by decide +kernel⟩
abbrev s__law_judged : Stmt := (top 63)
abbrev N__law_judged : List Str := ["_law_bag", "_law_spots", "_law_rows", "_law_bad_spots", "_law_bad_rows", "_law_k", "_law_due", "_law_handed", "_law_inner", "_law_answer", "_law_first", "_law_row"]
abbrev P__law_judged : List Str := ["_law_bag", "_law_spots", "_law_rows"]
theorem sc__law_judged : FnScope N__law_judged P__law_judged (defScope s__law_judged) := ⟨rfl, rfl, rfl, by decide +kernel, rfl, by decide +kernel, by decide +kernel⟩
abbrev s_law : Stmt := (top 64)
abbrev N_law : List Str := ["_law_script", "_law_bag", "_law_many", "_law_spots", "_law_spare", "_law_rows", "_law_turn"]
abbrev P_law : List Str := ["_law_script"]
theorem sc_law : FnScope N_law P_law (defScope s_law) := ⟨rfl, rfl, rfl, by decide +kernel, rfl, by decide +kernel, by decide +kernel⟩
structure Ad where
  Card : Addr
  BadSpot : Addr
  NoSpot : Addr
  BadCard : Addr
  EllError : Addr
  aG : Addr
  aW : Addr
/-- an error's own __init__ -/
structure IniAt (K : PySem.W.Frag) (C : Addr) (q : Str) (st : Stmt) (ps : List Str) : Prop where
  ex : ∃ f fd, PySem.W.findIn K (.ref C) "__init__" = some (some (.ref f)) ∧ PySem.W.typeIn K (.ref f) = some (.type "function") ∧ Fun K "__init__" q st f fd ∧ Binds K fd ps []
/-- a method that stands for a sign -/
structure OwAt (K : PySem.W.Frag) (C : Addr) (m q : Str) (st : Stmt) (ps : List Str) : Prop where
  ex : ∃ f fd, OpM K C m f ∧ PySem.W.fnIn K f = true ∧ Fun K m q st f fd ∧ Binds K fd ps []
/-- what the top has written -/
structure Txt (K : PySem.W.Frag) (mg : Str → Option Value) (a : Ad) : Prop where
  n_isinstance : mg "isinstance" = none
  n_int : mg "int" = none
  n_bool : mg "bool" = none
  n_tuple : mg "tuple" = none
  n_str : mg "str" = none
  n_list : mg "list" = none
  n_len : mg "len" = none
  n_any : mg "any" = none
  n_all : mg "all" = none
  n_range : mg "range" = none
  n_enumerate : mg "enumerate" = none
  n_zip : mg "zip" = none
  n_min : mg "min" = none
  n_max : mg "max" = none
  n_iter : mg "iter" = none
  n_ValueError : mg "ValueError" = none
  k_GROUND : mg "GROUND" = some (.ref a.aG)
  t_GROUND : ∀ H, SqT K H a.aG [.str "ground", .int 0, .int 0]
  k_WHY : mg "WHY" = some (.ref a.aW)
  t_WHY : ∀ H, SqT K H a.aW [.str "card"]
  ox_BadSpot : OexC K a.BadSpot
  g_BadSpot : mg "BadSpot" = some (.ref a.BadSpot)
  no_BadSpot_place : PySem.W.findIn K (.ref a.BadSpot) "place" = some none
  i_BadSpot : IniAt K a.BadSpot "BadSpot.__init__" s_BadSpotD_initD P_BadSpotD_initD
  e_BadSpot : ErrC K a.BadSpot
  xf_BadSpot : XfC K a.BadSpot
  ox_NoSpot : OexC K a.NoSpot
  g_NoSpot : mg "NoSpot" = some (.ref a.NoSpot)
  no_NoSpot_spot : PySem.W.findIn K (.ref a.NoSpot) "spot" = some none
  i_NoSpot : IniAt K a.NoSpot "NoSpot.__init__" s_NoSpotD_initD P_NoSpotD_initD
  e_NoSpot : ErrC K a.NoSpot
  xf_NoSpot : XfC K a.NoSpot
  ox_BadCard : OexC K a.BadCard
  g_BadCard : mg "BadCard" = some (.ref a.BadCard)
  no_BadCard_place : PySem.W.findIn K (.ref a.BadCard) "place" = some none
  i_BadCard : IniAt K a.BadCard "BadCard.__init__" s_BadCardD_initD P_BadCardD_initD
  e_BadCard : ErrC K a.BadCard
  xf_BadCard : XfC K a.BadCard
  kv_BadCard : PySem.W.kitOne K (.ref a.BadCard) (.type "ValueError") = some true
  ke_BadCard : PySem.W.kitOne K (.ref a.BadCard) (.ref a.EllError) = some true
  kb_BadCard : PySem.W.kitOne K (.ref a.BadCard) (.ref a.BadSpot) = some false
  em_NoSpot : PySem.W.exmOne K (.ref a.NoSpot) (.ref a.NoSpot) = some true
  em_BadSpot : PySem.W.exmOne K (.ref a.BadSpot) (.ref a.BadSpot) = some true
  em_BadCard : PySem.W.exmOne K (.ref a.BadCard) (.ref a.BadCard) = some true
  g_EllError : mg "EllError" = some (.ref a.EllError)
  g_Card : mg "Card" = some (.ref a.Card)
  ki : KiC K a.Card
  nS : NoAttr K a.Card "spots"
  nP : NoAttr K a.Card "_places"
  nR : NoAttr K a.Card "rows"
  sf : PySem.W.selfFirst K a.Card = true
  nf : NoFirst K a.Card
  no : ∀ T ∈ (["NoneType", "bool", "int", "str", "list", "tuple"] : List String), PySem.W.kitOne K (.type T) (.ref a.Card) = some false
  i_Card : MkAt K a.Card "Card.__init__" s_CardD_initD P_CardD_initD
  o_getitem : OwAt K a.Card "__getitem__" "Card.__getitem__" s_CardD_getitemD P_CardD_getitemD
  o_len : OwAt K a.Card "__len__" "Card.__len__" s_CardD_lenD P_CardD_lenD
  o_contains : OwAt K a.Card "__contains__" "Card.__contains__" s_CardD_containsD P_CardD_containsD
  o_eq : OwAt K a.Card "__eq__" "Card.__eq__" s_CardD_eqD P_CardD_eqD
  o_iter : OwAt K a.Card "__iter__" "Card.__iter__" s_CardD_iterD P_CardD_iterD
  m_cut : MthAt K a.Card "cut" "Card.cut" s_Card_cut P_Card_cut
  m__place : MthAt K a.Card "_place" "Card._place" s_Card__place P_Card__place
  d__wall : DefAt K mg "_wall" s__wall P__wall
  d_is_integer : DefAt K mg "is_integer" s_is_integer P_is_integer
  d_is_row : DefAt K mg "is_row" s_is_row P_is_row
  d_is_tuple_of : DefAt K mg "is_tuple_of" s_is_tuple_of P_is_tuple_of
  d_ways_from : DefAt K mg "ways_from" s_ways_from P_ways_from
  d__ring_of : DefAt K mg "_ring_of" s__ring_of P__ring_of
  d__followed_back : DefAt K mg "_followed_back" s__followed_back P__followed_back
  d_is_spot : DefAt K mg "is_spot" s_is_spot P_is_spot
  d_arrows_of : DefAt K mg "arrows_of" s_arrows_of P_arrows_of
  d_places_of : DefAt K mg "places_of" s_places_of P_places_of
  d_is_closed : DefAt K mg "is_closed" s_is_closed P_is_closed
  d_joined_tables : DefAt K mg "joined_tables" s_joined_tables P_joined_tables
  d__by_way : DefAt K mg "_by_way" s__by_way P__by_way
  d__side_by_side : DefAt K mg "_side_by_side" s__side_by_side P__side_by_side
  d__with_least : DefAt K mg "_with_least" s__with_least P__with_least
  d__joints : DefAt K mg "_joints" s__joints P__joints
  d_card_links : DefAt K mg "card_links" s_card_links P_card_links
  d__named_once : DefAt K mg "_named_once" s__named_once P__named_once
  d__trusted : DefAt K mg "_trusted" s__trusted P__trusted
  d__judge_rows : DefAt K mg "_judge_rows" s__judge_rows P__judge_rows
  d__clash_ring : DefAt K mg "_clash_ring" s__clash_ring P__clash_ring
  d__law_bag_of : DefAt K mg "_law_bag_of" s__law_bag_of P__law_bag_of
  d__law_pick : DefAt K mg "_law_pick" s__law_pick P__law_pick
  d__law_choice : DefAt K mg "_law_choice" s__law_choice P__law_choice
  d__law_one_in : DefAt K mg "_law_one_in" s__law_one_in P__law_one_in
  d__law_integer : DefAt K mg "_law_integer" s__law_integer P__law_integer
  d__law_letters_of : DefAt K mg "_law_letters_of" s__law_letters_of P__law_letters_of
  d__law_words : DefAt K mg "_law_words" s__law_words P__law_words
  d__law_names_of : DefAt K mg "_law_names_of" s__law_names_of P__law_names_of
  d__law_ground : DefAt K mg "_law_ground" s__law_ground P__law_ground
  d__law_few_spots : DefAt K mg "_law_few_spots" s__law_few_spots P__law_few_spots
  d__law_closing : DefAt K mg "_law_closing" s__law_closing P__law_closing
  d__law_drawn_rows : DefAt K mg "_law_drawn_rows" s__law_drawn_rows P__law_drawn_rows
  d__law_right_card : DefAt K mg "_law_right_card" s__law_right_card P__law_right_card
  d__law_at_of : DefAt K mg "_law_at_of" s__law_at_of P__law_at_of
  d__law_cut : DefAt K mg "_law_cut" s__law_cut P__law_cut
  d__law_made : DefAt K mg "_law_made" s__law_made P__law_made
  d__law_is_spot : DefAt K mg "_law_is_spot" s__law_is_spot P__law_is_spot
  d__law_is_closed : DefAt K mg "_law_is_closed" s__law_is_closed P__law_is_closed
  d__law_due_of : DefAt K mg "_law_due_of" s__law_due_of P__law_due_of
  d__law_edge : DefAt K mg "_law_edge" s__law_edge P__law_edge
  d__law_spoil_spots : DefAt K mg "_law_spoil_spots" s__law_spoil_spots P__law_spoil_spots
  d__law_spoil_rows : DefAt K mg "_law_spoil_rows" s__law_spoil_rows P__law_spoil_rows
  d__law_good_cards : DefAt K mg "_law_good_cards" s__law_good_cards P__law_good_cards
  d__law_turned_about : DefAt K mg "_law_turned_about" s__law_turned_about P__law_turned_about
  d__law_cuts : DefAt K mg "_law_cuts" s__law_cuts P__law_cuts
  d__law_judged : DefAt K mg "_law_judged" s__law_judged P__law_judged
  d_law : DefAt K mg "law" s_law P_law
section
variable {P : Program} {w : World} {K : PySem.W.Frag} {mg : Str → Option Value} {base : Heap} {a : Ad}
/-! ### checks -/
/-- not an integer: a bool, or a thing of a type that is none of int's -/
def NoI (K : PySem.W.Frag) (H : Hp) (v : V) : Prop := (∃ b, v = .bl b) ∨ ∃ t, TyX K H v t ∧ PySem.W.kitOne K t (.type "int") = some false
def sp_is_integer (K : PySem.W.Frag) : Sp := fun vs H Q _ => ∃ v, vs = [v] ∧ ((∃ i, v = .int i ∧ Q (.bl true) H) ∨ (NoI K H v ∧ Q (.bl false) H))
theorem c_is_integer (T : Txt K mg a) : Cl P w K mg base 1 "is_integer" P_is_integer (sp_is_integer K) [] :=
  T.d_is_integer.cl sc_is_integer (fun vs H Q E h => by obtain ⟨i, rfl, _⟩ := h; rfl) fun f cdv A outer s H vs Q E hr h => by
    obtain ⟨v, rfl, h⟩ := h
    refine ⟨_, ((pss_one (ps_ret (pe_and (pe_callB call_isi (by rfl) T.n_isinstance (by decide +kernel) (pa_cons (pv 0) (pa_cons (pe_bltn (v := .ty "int") (by rfl) T.n_int (by decide +kernel) rfl) pa_nil))) (pe_one (pe_not (pe_callB call_isi (by rfl) T.n_isinstance (by decide +kernel) (pa_cons (pv 0) (pa_cons (pe_bltn (v := .ty "bool") (by rfl) T.n_bool (by decide +kernel) rfl) pa_nil))))))))), ?_⟩
    rcases h with ⟨i, rfl, k⟩ | ⟨⟨b, rfl⟩ | ⟨t, ht, hk⟩, k⟩
    · refine ⟨_, rfl, _, _, _, _, true, rfl, .ty _, .base (.int _), kit_ty (by decide +kernel), true, rfl, iteT ?_⟩
      exact ⟨_, rfl, _, _, _, _, false, rfl, .ty _, .base (.int _), kit_ty (by decide +kernel), false, rfl, k⟩
    · refine ⟨_, rfl, _, _, _, _, true, rfl, .ty _, .base (.bl _), kit_ty (by decide +kernel), true, rfl, iteT ?_⟩
      exact ⟨_, rfl, _, _, _, _, true, rfl, .ty _, .base (.bl _), kit_ty (by decide +kernel), true, rfl, k⟩
    · exact ⟨_, rfl, _, _, _, _, false, rfl, .ty _, ht, hk, false, rfl, iteF k⟩
def sp_is_tuple_of (K : PySem.W.Frag) : Sp := fun vs H Q _ => ∃ (v : V) (m : Int), vs = [v, .int m] ∧
  ((∃ p xs, v = .ref p ∧ SqT K H p xs ∧ Q (.bl (decide (V.int xs.length = V.int m))) H) ∨ ∃ t, TyX K H v t ∧ PySem.W.kitOne K t (.type "tuple") = some false ∧ Q (.bl false) H)
theorem c_is_tuple_of (T : Txt K mg a) : Cl P w K mg base 1 "is_tuple_of" P_is_tuple_of (sp_is_tuple_of K) [] :=
  T.d_is_tuple_of.cl sc_is_tuple_of (fun vs H Q E h => by obtain ⟨i, lo, rfl, _⟩ := h; rfl) fun f cdv A outer s H vs Q E hr h => by
    obtain ⟨v, m, rfl, h⟩ := h
    refine ⟨_, ((pss_one (ps_ret (pe_and (pe_callB call_isi (by rfl) T.n_isinstance (by decide +kernel) (pa_cons (pv 0) (pa_cons (pe_bltn (v := .ty "tuple") (by rfl) T.n_tuple (by decide +kernel) rfl) pa_nil))) (pe_one (pe_cmpR op_eq (pe_callB call_len_seq (by rfl) T.n_len (by decide +kernel) (pa_cons (pv 0) pa_nil)) (pv 1) (nomark _))))))), ?_⟩
    rcases h with ⟨p, xs, rfl, hx, k⟩ | ⟨t, ht, hk, k⟩
    · refine ⟨_, rfl, _, _, _, _, true, rfl, .ty _, ty_sqT hx, kit_ty (by decide +kernel), true, rfl, iteT ?_⟩
      exact ⟨_, rfl, _, _, rfl, .inr hx, _, rfl, rfl, k⟩
    · exact ⟨_, rfl, _, _, _, _, false, rfl, .ty _, ht, hk, false, rfl, iteF k⟩
def sp_is_row (K : PySem.W.Frag) : Sp := fun vs H Q _ => ∃ (F : Hp) (p : Addr) (xs : List V), vs = [.ref p] ∧ (SqL K F p xs ∨ SqT K F p xs) ∧ Pu F H Q fun _ v => v = .bl true
theorem c_is_row (T : Txt K mg a) : Cl P w K mg base 1 "is_row" P_is_row (sp_is_row K) [] :=
  T.d_is_row.cl sc_is_row (fun vs H Q E h => by obtain ⟨F, p, xs, rfl, _⟩ := h; rfl) fun f cdv A outer s H vs Q E hr h => by
    obtain ⟨F, p, xs, rfl, hx, hf, k⟩ := h
    refine ⟨_, ((pss_one (ps_ret (pe_callB call_isiT (by rfl) T.n_isinstance (by decide +kernel) (pa_cons (pv 0) (pa_cons (pe_tup (pa_cons (pe_bltn (v := .ty "list") (by rfl) T.n_list (by decide +kernel) rfl) (pa_cons (pe_bltn (v := .ty "tuple") (by rfl) T.n_tuple (by decide +kernel) rfl) pa_nil))) pa_nil)))))), ?_⟩
    refine ⟨_, rfl, by show 2 ≤ sizeLine; decide, fun q hq => ?_⟩
    have fin : ∀ t, TyX K (upd H q (.tup [.ty "list", .ty "tuple"])) (.ref p) t → PySem.W.kitAny K t [.type "list", .type "tuple"] = some true → rIsiT K [.ref p, .ref q] (upd H q (.tup [.ty "list", .ty "tuple"])) Q := fun t ty hk =>
      ⟨_, q, _, t, _, true, rfl, upd_same, .cons (.ty _) (.cons (.ty _) .nil), ty, hk, k _ _ _ (stp_new hf hq) rfl⟩
    rcases hx with hx | hx
    · exact fin _ (ty_sqL (upL (same_new hq) (upL hf hx))) (kitAny_cons (b := true) (kit_ty (by decide +kernel)) (fun z => nomatch z) fun _ => rfl)
    · exact fin _ (ty_sqT (upT (same_new hq) (upT hf hx))) (kitAny_cons (b := false) (kit_ty (by decide +kernel)) (fun _ => kitAny_cons (b := true) (kit_ty (by decide +kernel)) (fun z => nomatch z) fun _ => rfl) fun z => nomatch z)
theorem map_of {α : Type} {xs : List α} {f : α → V} : ∀ {ys : List V}, ys.length = xs.length → (∀ (j : Nat) y, ys[j]? = some y → ∃ x, xs[j]? = some x ∧ y = f x) → ys = xs.map f := by
  induction xs with
  | nil => intro ys h _; simpa using h
  | cons x xs ih =>
    intro ys h q
    cases ys with
    | nil => simp at h
    | cons y ys =>
      obtain ⟨x', hx, hy⟩ := q 0 y rfl
      cases hx
      rw [hy, List.map_cons, ih (by simpa using h) fun j z hz => q (j + 1) z hz]
theorem x_BadSpot (T : Txt K mg a) : Mke P w K mg base 1 "BadSpot" a.BadSpot P_BadSpotD_initD (spI1 a.BadSpot "place") := by
  obtain ⟨f, fd, hi, ht, F, b⟩ := T.i_BadSpot.ex
  refine ⟨T.g_BadSpot, T.ox_BadSpot, f, fd, hi, ht, fun_ok F sc_BadSpotD_initD (fun vs H Q E h => by obtain ⟨x, v, rfl, _⟩ := h; rfl) fun f cdv A outer s H vs Q E hr h => ?_, b⟩
  obtain ⟨x, v, rfl, hx, k⟩ := h
  exact ⟨_, ((pss_one (ps_ost (pv 0) (pv 1)))), _, rfl, _, rfl, x, a.BadSpot, rfl, T.ox_BadSpot, T.no_BadSpot_place, .inl ⟨hx, fun dx n ne => k dx n ne⟩⟩
theorem x_NoSpot (T : Txt K mg a) : Mke P w K mg base 1 "NoSpot" a.NoSpot P_NoSpotD_initD (spI1 a.NoSpot "spot") := by
  obtain ⟨f, fd, hi, ht, F, b⟩ := T.i_NoSpot.ex
  refine ⟨T.g_NoSpot, T.ox_NoSpot, f, fd, hi, ht, fun_ok F sc_NoSpotD_initD (fun vs H Q E h => by obtain ⟨x, v, rfl, _⟩ := h; rfl) fun f cdv A outer s H vs Q E hr h => ?_, b⟩
  obtain ⟨x, v, rfl, hx, k⟩ := h
  exact ⟨_, ((pss_one (ps_ost (pv 0) (pv 1)))), _, rfl, _, rfl, x, a.NoSpot, rfl, T.ox_NoSpot, T.no_NoSpot_spot, .inl ⟨hx, fun dx n ne => k dx n ne⟩⟩
theorem x_BadCard (T : Txt K mg a) : Mke P w K mg base 1 "BadCard" a.BadCard P_BadCardD_initD (spI1 a.BadCard "place") := by
  obtain ⟨f, fd, hi, ht, F, b⟩ := T.i_BadCard.ex
  refine ⟨T.g_BadCard, T.ox_BadCard, f, fd, hi, ht, fun_ok F sc_BadCardD_initD (fun vs H Q E h => by obtain ⟨x, v, rfl, _⟩ := h; rfl) fun f cdv A outer s H vs Q E hr h => ?_, b⟩
  obtain ⟨x, v, rfl, hx, k⟩ := h
  exact ⟨_, ((pss_one (ps_ost (pv 0) (pv 1)))), _, rfl, _, rfl, x, a.BadCard, rfl, T.ox_BadCard, T.no_BadCard_place, .inl ⟨hx, fun dx n ne => k dx n ne⟩⟩
/-- BadCard made while another error is handled -/
theorem h_BadCard (T : Txt K mg a) : MkeH P w K mg base 1 "BadCard" a.BadCard P_BadCardD_initD (spI1 a.BadCard "place") := by
  obtain ⟨f, fd, hi, ht, F, b⟩ := T.i_BadCard.ex
  refine ⟨T.g_BadCard, T.ox_BadCard, f, fd, hi, ht, okH F sc_BadCardD_initD (fun vs H Q E h => by obtain ⟨x, v, rfl, _⟩ := h; rfl) fun cdv A outer s H vs Q E p hr h => ?_, b⟩
  obtain ⟨x, v, rfl, hx, k⟩ := h
  exact ⟨_, ((pss_one (ps_ost (pv 0) (pv 1)))), _, rfl, _, rfl, x, a.BadCard, rfl, T.ox_BadCard, T.no_BadCard_place, .inl ⟨hx, fun dx n ne => k dx n ne⟩⟩
end
end K49

set_option Elab.async false
set_option linter.all false
set_option maxRecDepth 100000
set_option maxHeartbeats 4000000
namespace K49
open PySem PySem.Spec PyProof.Rows L2 Ew
/-! ### the law's bag -/
theorem _root_.Ew.Stm.touch {m : Addr → Prop} {F H F' H' : Hp} {p : Addr} {o : HO} (a : Stm m F H F' H') (hm : m p) (hf : F' p = none) : Stm m F H F' (upd H' p o) :=
  ⟨a.ff, fun b u e => by rw [upd_ne (ne_of_none e hf)]; exact a.fh b u e, fun x u n e => by rw [upd_ne (fun z => n (by rw [z]; exact hm))]; exact a.hh x u n e, a.nw⟩
def bk (la : Addr) (at_ rest mixed count : Int) : List (Key × V) := [(.inr "cells", .ref la), (.inr "at", .int at_), (.inr "rest", .int rest), (.inr "mixed", .int mixed), (.inr "count", .int count)]
def Bag (K : PySem.W.Frag) (b : Addr) (F H : Hp) : Prop := F b = none ∧ ∃ (la : Addr) (ns : List Int) (at_ rest mixed count : Int), 0 ≤ at_ ∧ ns.length ≤ 1000 ∧ SqL K F la (ns.map V.int) ∧ H b = some (.dK (bk la at_ rest mixed count))
theorem memB (K : PySem.W.Frag) (b : Addr) : Mem (fun x => x = b) (Bag K b) where
  there := fun ⟨_, _, _, _, _, _, _, _, _, _, h⟩ z => by rw [z, h]; exact fun q => nomatch q
  off := fun ⟨h, _⟩ z => by rw [z]; exact h
  put := fun ⟨h, la, ns, at_, rest, mixed, count, h1, h2, h3, h4⟩ n => ⟨h, la, ns, at_, rest, mixed, count, h1, h2, h3, by rw [upd_ne (fun z => n z.symm)]; exact h4⟩
  grow := fun ⟨h, la, ns, at_, rest, mixed, count, h1, h2, h3, h4⟩ e k => ⟨k _ rfl, la, ns, at_, rest, mixed, count, h1, h2, upL e h3, h4⟩
section
variable {H : Hp} {b la : Addr} {at_ rest mixed count n : Int}
theorem dg_c (h : H b = some (.dK (bk la at_ rest mixed count))) : DGet H b (.str "cells") (some (.ref la)) := .inl ⟨_, .inr "cells", .inl h, rfl, rfl⟩
theorem dg_a (h : H b = some (.dK (bk la at_ rest mixed count))) : DGet H b (.str "at") (some (.int at_)) := .inl ⟨_, .inr "at", .inl h, rfl, rfl⟩
theorem dg_r (h : H b = some (.dK (bk la at_ rest mixed count))) : DGet H b (.str "rest") (some (.int rest)) := .inl ⟨_, .inr "rest", .inl h, rfl, rfl⟩
theorem dg_m (h : H b = some (.dK (bk la at_ rest mixed count))) : DGet H b (.str "mixed") (some (.int mixed)) := .inl ⟨_, .inr "mixed", .inl h, rfl, rfl⟩
theorem dg_n (h : H b = some (.dK (bk la at_ rest mixed count))) : DGet H b (.str "count") (some (.int count)) := .inl ⟨_, .inr "count", .inl h, rfl, rfl⟩
theorem dp_a (h : H b = some (.dK (bk la at_ rest mixed count))) : DPut H b (.str "at") (.int n) (upd H b (.dK (bk la n rest mixed count))) := .inl ⟨_, .inr "at", h, rfl, Nat.lt_of_le_of_lt (by decide : 5 ≤ 1000) (by decide), rfl⟩
theorem dp_r (h : H b = some (.dK (bk la at_ rest mixed count))) : DPut H b (.str "rest") (.int n) (upd H b (.dK (bk la at_ n mixed count))) := .inl ⟨_, .inr "rest", h, rfl, Nat.lt_of_le_of_lt (by decide : 5 ≤ 1000) (by decide), rfl⟩
theorem dp_m (h : H b = some (.dK (bk la at_ rest mixed count))) : DPut H b (.str "mixed") (.int n) (upd H b (.dK (bk la at_ rest n count))) := .inl ⟨_, .inr "mixed", h, rfl, Nat.lt_of_le_of_lt (by decide : 5 ≤ 1000) (by decide), rfl⟩
theorem dp_n (h : H b = some (.dK (bk la at_ rest mixed count))) : DPut H b (.str "count") (.int n) (upd H b (.dK (bk la at_ rest mixed n))) := .inl ⟨_, .inr "count", h, rfl, Nat.lt_of_le_of_lt (by decide : 5 ≤ 1000) (by decide), rfl⟩
end
section
variable {P : Program} {w : World} {K : PySem.W.Frag} {mg : Str → Option Value} {base : Heap} {a : Ad}
theorem log_sz {j : Int} (h : Sz 8000 j) : j.natAbs.log2 < 9000 := h.log (by decide) (by decide)
theorem atI_int {α : Type} {xs : List α} {i : Int} {x : α} (h0 : 0 ≤ i) (h1 : i < xs.length) (h : xs[i.toNat]? = some x) : atI xs i = some x := by
  unfold atI
  unfold ixN
  rw [if_pos h0, if_pos h1]
  exact h
theorem seq_with {t u : TS} {D : Ends} {σ : L2.St} {H : Hp} (Pv : L2.St → Hp → Prop) (h1 : ∀ u', (∀ σ H, Pv σ H → u' D σ H) → tSeq t u' D σ H) (h2 : ∀ σ H, Pv σ H → u D σ H) : tSeq t u D σ H := h1 u h2
def sp__law_pick (K : PySem.W.Frag) : Sp := fun vs H Q _ => ∃ (F : Hp) (b : Addr) (many : Int), vs = [.ref b, .int many] ∧ Bag K b F H ∧ Same F H ∧ 0 < many ∧ Sz 8000 many ∧
  ∀ H' (i : Int), Stm (fun x => x = b) F H F H' → Bag K b F H' → 0 ≤ i → i < many → Q (.int i) H'
theorem c__law_pick (T : Txt K mg a) : Cl P w K mg base 1 "_law_pick" P__law_pick (sp__law_pick K) [] :=
  T.d__law_pick.cl sc__law_pick (fun vs H Q E h => by obtain ⟨F, b, many, rfl, _⟩ := h; rfl) fun f cdv A outer s H vs Q E hr h => by
    obtain ⟨F, b, many, rfl, ⟨fb, la, ns, at_, rest, mixed, count, h0, hn, hl, hb⟩, hf, hm, hz, k⟩ := h
    have hz := log_sz hz
    have ok : ∀ (x : Int), 0 ≤ x % many ∧ x % many < many := fun x => ⟨Int.emod_nonneg _ (by omega), Int.emod_lt_of_pos _ hm⟩
    refine ⟨_, ((pss_cons (ps_dput (hu_of hr) (pv 0) pe_str (pe_op op_add (pe_dget (hu_of hr) (pv 0) pe_str (fun _ _ => rfl)) pe_int) rfl)
 (pss_cons (ps_if (pt_cmpR op_gt (pe_dget (hu_of hr) (pv 0) pe_str (fun _ _ => rfl)) pe_int (nomark _))
 (pss_cons (ps_set (i := 2) sc__law_pick.nd rfl (Or.inl rfl) (pe_dget (hu_of hr) (pv 0) pe_str (fun _ _ => rfl)))
 (pss_cons (ps_dput (hu_of hr) (pv 0) pe_str (pe_op op_fdivW (pv 2) (pv 1)) rfl)
 (pss_one (ps_ret (pe_op op_mod (pe_callTy call_int1 (by rfl) T.n_int (by decide +kernel) (pa_cons (pv 2) pa_nil)) (pv 1))))))
 pss_nil)
 (pss_cons (ps_set (i := 3) sc__law_pick.nd rfl (Or.inl rfl) pe_int)
 (pss_cons (ps_if (pt_cmpR op_lt (pe_dget (hu_of hr) (pv 0) pe_str (fun _ _ => rfl)) (pe_callB call_len_seq (by rfl) T.n_len (by decide +kernel) (pa_cons (pe_dget (hu_of hr) (pv 0) pe_str (fun _ _ => rfl)) pa_nil)) (nomark _))
 (pss_cons (ps_set (i := 3) sc__law_pick.nd rfl (Or.inl rfl) (pe_ix ix_list (pe_dget (hu_of hr) (pv 0) pe_str (fun _ _ => rfl)) (pe_dget (hu_of hr) (pv 0) pe_str (fun _ _ => rfl)) (fun _ _ => rfl)))
 (pss_cons (ps_dput (hu_of hr) (pv 0) pe_str (pe_op op_add (pe_dget (hu_of hr) (pv 0) pe_str (fun _ _ => rfl)) pe_int) rfl)
 (pss_one (ps_if (pt_cmpR op_ge (pv 3) (pe_op op_pow pe_int pe_int) (nomark _))
 (pss_cons (ps_dput (hu_of hr) (pv 0) pe_str (pe_op op_fdivW (pv 3) (pv 1)) rfl)
 (pss_one (ps_ret (pe_op op_mod (pe_callTy call_int1 (by rfl) T.n_int (by decide +kernel) (pa_cons (pv 3) pa_nil)) (pv 1)))))
 pss_nil))))
 pss_nil)
 (pss_cons (ps_set (i := 2) sc__law_pick.nd rfl (Or.inl rfl) (pe_op op_mod (pe_callTy call_int1 (by rfl) T.n_int (by decide +kernel) (pa_cons (pe_op op_add (pe_op op_add (pe_op op_mul (pv 3) pe_int) (pe_op op_mul (pe_dget (hu_of hr) (pv 0) pe_str (fun _ _ => rfl)) pe_int)) (pe_op op_mul (pe_dget (hu_of hr) (pv 0) pe_str (fun _ _ => rfl)) pe_int)) pa_nil)) pe_int))
 (pss_cons (ps_set (i := 2) sc__law_pick.nd rfl (Or.inl rfl) (pe_op op_mod (pe_callTy call_int1 (by rfl) T.n_int (by decide +kernel) (pa_cons (pe_op op_add (pe_op op_mul (pv 2) pe_int) pe_int) pa_nil)) pe_int))
 (pss_cons (ps_dput (hu_of hr) (pv 0) pe_str (pe_op op_mod (pe_callTy call_int1 (by rfl) T.n_int (by decide +kernel) (pa_cons (pv 2) pa_nil)) pe_int) rfl)
 (pss_one (ps_ret (pe_op op_mod (pe_callTy call_int1 (by rfl) T.n_int (by decide +kernel) (pa_cons (pe_op op_fdiv (pv 2) pe_int) pa_nil)) (pv 1)))))))))))), ?_⟩
    refine ⟨_, rfl, b, _, rfl, dg_n hb, _, _, rfl, rfl, _, rfl, b, _, rfl, dp_n hb, ?_⟩
    have s1 : Stm (fun x => x = b) F H F (upd H b (.dK (bk la at_ rest mixed (count + 1)))) := Stm.touch (Stm.refl hf) rfl fb
    generalize hH1 : upd H b (.dK (bk la at_ rest mixed (count + 1))) = H1 at s1
    have hb1 : H1 b = some (.dK (bk la at_ rest mixed (count + 1))) := by rw [← hH1]; exact upd_same
    refine ⟨_, rfl, b, _, rfl, dg_r hb1, _, _, rfl, rfl, _, rfl, ?_⟩
    refine ite2 (fun e => ?_) (fun e => ?_)
    · refine ⟨_, rfl, b, _, rfl, dg_r hb1, ?_⟩
      refine ⟨_, rfl, _, rfl, _, _, rfl, rfl, ⟨hm, hz⟩, _, rfl, b, _, rfl, dp_r hb1, ?_⟩
      refine ⟨_, rfl, .inl ⟨_, rfl, _, rfl, _, _, rfl, rfl, hm, ?_⟩⟩
      exact k _ _ (s1.touch rfl fb) ⟨fb, la, ns, at_, _, mixed, _, h0, hn, hl, upd_same⟩ (ok _).1 (ok _).2
    · refine seq_with (fun σ2 H2 => σ2 = L2.start N__law_pick [.ref b, .int many] ∧ H1 = H2) (fun u hu => hu _ _ ⟨rfl, rfl⟩) ?_
      rintro _ _ ⟨rfl, rfl⟩
      refine seq_with (fun σ2 H2 => σ2 = [some (.ref b), some (.int many), none, some (.int 0)] ∧ H1 = H2) (fun u hu => hu _ _ ⟨rfl, rfl⟩) ?_
      rintro _ _ ⟨rfl, rfl⟩
      refine seq_with (fun σ2 H2 => ∃ cell at2, σ2 = [some (.ref b), some (.int many), none, some (.int cell)] ∧ Stm (fun x => x = b) F H F H2 ∧ 0 ≤ at2 ∧ H2 b = some (.dK (bk la at2 rest mixed (count + 1)))) (fun u hu => ?_) ?_
      · refine ⟨_, rfl, b, _, rfl, dg_a hb1, _, rfl, b, _, rfl, dg_c hb1, la, _, rfl, .inl (upL s1.fh hl), _, _, rfl, rfl, _, rfl, ?_⟩
        refine ite2 (fun e2 => ?_) (fun e2 => ?_)
        · have lt : at_.toNat < ns.length := by
            have := of_decide_eq_true e2
            rw [List.length_map] at this
            omega
          refine ⟨_, rfl, b, _, rfl, dg_c hb1, _, rfl, b, _, rfl, dg_a hb1, la, _, _, .int ns[at_.toNat], rfl, rfl, upL s1.fh hl, ?_, ?_⟩
          · exact atI_int h0 (by rw [List.length_map]; omega) (by rw [List.getElem?_map, List.getElem?_eq_getElem lt]; rfl)
          refine ⟨_, rfl, b, _, rfl, dg_a hb1, _, _, rfl, rfl, _, rfl, b, _, rfl, dp_a hb1, ?_⟩
          have s2 := s1.touch (p := b) (o := .dK (bk la (at_ + 1) rest mixed (count + 1))) rfl fb
          generalize hH2 : upd _ b (.dK (bk la (at_ + 1) rest mixed (count + 1))) = H2 at s2
          have hb2 : H2 b = some (.dK (bk la (at_ + 1) rest mixed (count + 1))) := by rw [← hH2]; exact upd_same
          refine ⟨_, rfl, _, _, rfl, rfl, ⟨by decide, by decide, by decide⟩, _, _, rfl, rfl, _, rfl, ?_⟩
          refine ite2 (fun e => ?_) (fun e => ?_)
          · refine ⟨_, rfl, _, rfl, _, _, rfl, rfl, ⟨hm, hz⟩, _, rfl, b, _, rfl, dp_r hb2, ?_⟩
            refine ⟨_, rfl, .inl ⟨_, rfl, _, rfl, _, _, rfl, rfl, hm, ?_⟩⟩
            exact k _ _ (s2.touch rfl fb) ⟨fb, la, ns, _, _, mixed, _, by omega, hn, hl, upd_same⟩ (ok _).1 (ok _).2
          · exact hu _ _ ⟨_, _, rfl, s2, by omega, hb2⟩
        · exact hu _ _ ⟨_, _, rfl, s1, h0, hb1⟩
      · rintro _ H2 ⟨cell, at2, rfl, s2, h2, hb2⟩
        have cm : ∀ i j : Int, -(2 ^ 64) < j → j < 2 ^ 64 → CMul i j := fun i j h1 h2 => .inr ⟨h1, h2⟩
        refine ⟨_, rfl, _, _, rfl, rfl, cm _ _ (by decide) (by decide), _, rfl, b, _, rfl, dg_m hb2, _, _, rfl, rfl, cm _ _ (by decide) (by decide), _, _, rfl, rfl, _, rfl, b, _, rfl, dg_n hb2, _, _, rfl, rfl, cm _ _ (by decide) (by decide), _, _, rfl, rfl, .inl ⟨_, rfl, _, _, rfl, rfl, (by decide : (0 : Int) < 2147483647), ?_⟩⟩
        refine ⟨_, rfl, _, _, rfl, rfl, cm _ _ (by decide) (by decide), _, _, rfl, rfl, .inl ⟨_, rfl, _, _, rfl, rfl, (by decide : (0 : Int) < 2147483647), ?_⟩⟩
        refine ⟨_, rfl, .inl ⟨_, rfl, _, _, rfl, rfl, (by decide : (0 : Int) < 1000003), _, rfl, b, _, rfl, dp_m hb2, ?_⟩⟩
        refine ⟨_, rfl, _, _, rfl, rfl, ⟨by decide, by decide⟩, .inl ⟨_, rfl, _, rfl, _, _, rfl, rfl, hm, ?_⟩⟩
        exact k _ _ (s2.touch rfl fb) ⟨fb, la, ns, _, _, _, _, h2, hn, hl, upd_same⟩ (ok _).1 (ok _).2
end
end K49

set_option Elab.async false
set_option linter.all false
set_option maxRecDepth 100000
set_option maxHeartbeats 4000000
namespace K49
open PySem PySem.Spec PyProof.Rows L2 Ew
abbrev Sb (b : Addr) := Stm (fun x => x = b)
section
variable {P : Program} {w : World} {K : PySem.W.Frag} {mg : Str → Option Value} {base : Heap} {a : Ad}
/-- what a choice is made of -/
def Things (K : PySem.W.Frag) (F H : Hp) (b : Addr) (u : V) (xs : List V) : Prop := (∃ p, u = .ref p ∧ SqL K F p xs) ∨ (∃ p, u = .ref p ∧ p ≠ b ∧ H p = some (.lst xs)) ∨ (∃ z : Str, u = .str z ∧ z.length ≤ sizeLine ∧ xs = z.cps.toList.map fun c => V.str ⟨#[c]⟩) ∨ ∃ p, u = .ref p ∧ ∀ F' H', Sb b F H F' H' → SqT K H' p xs
theorem sz_len {n : Nat} (h : n ≤ 1000) : Sz 8000 (n : Int) := by
  unfold Sz
  have : (2 : Nat) ^ 10 ≤ 2 ^ 8000 := Nat.pow_le_pow_right (by decide) (by decide)
  have e : (2 : Nat) ^ 10 = 1024 := by decide
  omega
def sp__law_choice (K : PySem.W.Frag) : Sp := fun vs H Q _ => ∃ (F : Hp) (b : Addr) (u : V) (xs : List V), vs = [.ref b, u] ∧ Things K F H b u xs ∧ xs ≠ [] ∧ xs.length ≤ 1000 ∧ Bag K b F H ∧ Same F H ∧
  ∀ H' x (i : Nat), Sb b F H F H' → Bag K b F H' → xs[i]? = some x → Q x H'
theorem c__law_choice (T : Txt K mg a) : Cl P w K mg base 2 "_law_choice" P__law_choice (sp__law_choice K) [] :=
  T.d__law_choice.cl sc__law_choice (fun vs H Q E h => by obtain ⟨F, b, u, xs, rfl, _⟩ := h; rfl) fun f cdv A outer s H vs Q E hr h => by
    obtain ⟨F, b, u, xs, rfl, ht, h0, hl, hB, hf, k⟩ := h
    refine ⟨_, ((pss_one (ps_ret (pe_ix ix_seq (pv 1) (pe_f (c__law_pick T) (takes_of rfl rfl rfl rfl) hr (by decide) rfl (pa_cons (pv 0) (pa_cons (pe_callB (call_len_seq.or call_len_str) (by rfl) T.n_len (by decide +kernel) (pa_cons (pv 1) pa_nil)) pa_nil))) (fun _ _ => rfl))))), ?_⟩
    have l0 : 0 < xs.length := List.length_pos_iff.mpr h0
    have get : ∀ (i : Int) (h1 : 0 ≤ i) (h2 : i < (xs.length : Int)), atI xs i = some (xs[i.toNat]'((Int.toNat_lt h1).mpr h2)) := fun i h1 h2 => atI_int h1 h2 (List.getElem?_eq_getElem _)
    have fin : ∀ H' (i : Int) (h1 : 0 ≤ i) (h2 : i < (xs.length : Int)), Sb b F H F H' → Bag K b F H' → Q (xs[i.toNat]'((Int.toNat_lt h1).mpr h2)) H' := fun H' i h1 h2 s1 B1 => k H' _ i.toNat s1 B1 (List.getElem?_eq_getElem _)
    rcases ht with ⟨p, rfl, hp⟩ | ⟨p, rfl, nb, hp⟩ | ⟨z, rfl, hz, rfl⟩ | ⟨p, rfl, hp⟩
    · refine ⟨_, rfl, _, rfl, _, rfl, .inl ⟨p, xs, rfl, .inl (upL hf hp), F, b, _, rfl, hB, hf, by omega, sz_len hl, fun H' i s1 B1 h1 h2 => ?_⟩⟩
      exact .inl ⟨p, xs, i, _, rfl, rfl, upL s1.fh hp, get i h1 h2, fin H' i h1 h2 s1 B1⟩
    · refine ⟨_, rfl, _, rfl, _, rfl, .inl ⟨p, xs, rfl, .inl (SqL.of hp), F, b, _, rfl, hB, hf, by omega, sz_len hl, fun H' i s1 B1 h1 h2 => ?_⟩⟩
      exact .inl ⟨p, xs, i, _, rfl, rfl, SqL.of (s1.hh p _ nb hp), get i h1 h2, fin H' i h1 h2 s1 B1⟩
    · have zl : z.length = z.cps.size := rfl
      have xl : (z.cps.toList.map fun c => V.str ⟨#[c]⟩).length = z.cps.size := by rw [List.length_map, Array.length_toList]
      rw [xl] at l0 hl
      refine ⟨_, rfl, _, rfl, _, rfl, .inr ⟨z, rfl, hz, F, b, _, rfl, hB, hf, by rw [zl]; omega, sz_len (by rw [zl]; exact hl), fun H' i s1 B1 h1 h2 => ?_⟩⟩
      rw [zl] at h2
      have lt : i.toNat < z.cps.toList.length := by rw [Array.length_toList]; omega
      refine .inr (.inr ⟨z, i, z.cps.toList[i.toNat]'lt, rfl, rfl, hz, atI_int h1 (by rw [Array.length_toList]; exact h2) (List.getElem?_eq_getElem _), ?_⟩)
      have := fin H' i h1 (by rw [xl]; exact h2) s1 B1
      rw [List.getElem_map] at this
      exact this
    · refine ⟨_, rfl, _, rfl, _, rfl, .inl ⟨p, xs, rfl, .inr (hp F H (Stm.refl hf)), F, b, _, rfl, hB, hf, by omega, sz_len hl, fun H' i s1 B1 h1 h2 => ?_⟩⟩
      exact .inr (.inl ⟨p, xs, i, _, rfl, rfl, hp F H' s1, get i h1 h2, fin H' i h1 h2 s1 B1⟩)
theorem c__law_integer (T : Txt K mg a) : Cl P w K mg base 1 "_law_integer" P__law_integer (sp_is_integer K) [] :=
  T.d__law_integer.cl sc__law_integer (fun vs H Q E h => by obtain ⟨i, rfl, _⟩ := h; rfl) fun f cdv A outer s H vs Q E hr h => by
    obtain ⟨v, rfl, h⟩ := h
    refine ⟨_, ((pss_one (ps_ret (pe_and (pe_callB call_isi (by rfl) T.n_isinstance (by decide +kernel) (pa_cons (pv 0) (pa_cons (pe_bltn (v := .ty "int") (by rfl) T.n_int (by decide +kernel) rfl) pa_nil))) (pe_one (pe_not (pe_callB call_isi (by rfl) T.n_isinstance (by decide +kernel) (pa_cons (pv 0) (pa_cons (pe_bltn (v := .ty "bool") (by rfl) T.n_bool (by decide +kernel) rfl) pa_nil))))))))), ?_⟩
    rcases h with ⟨i, rfl, k⟩ | ⟨⟨b, rfl⟩ | ⟨t, ht, hk⟩, k⟩
    · refine ⟨_, rfl, _, _, _, _, true, rfl, .ty _, .base (.int _), kit_ty (by decide +kernel), true, rfl, iteT ?_⟩
      exact ⟨_, rfl, _, _, _, _, false, rfl, .ty _, .base (.int _), kit_ty (by decide +kernel), false, rfl, k⟩
    · refine ⟨_, rfl, _, _, _, _, true, rfl, .ty _, .base (.bl _), kit_ty (by decide +kernel), true, rfl, iteT ?_⟩
      exact ⟨_, rfl, _, _, _, _, true, rfl, .ty _, .base (.bl _), kit_ty (by decide +kernel), true, rfl, k⟩
    · exact ⟨_, rfl, _, _, _, _, false, rfl, .ty _, ht, hk, false, rfl, iteF k⟩
end
section
variable {K : PySem.W.Frag} {b p : Addr} {F H F' H' F2 H2 : Hp} {o : HO}
theorem newB (s : Sb b F H F' H') (B : Bag K b F' H') (hp : H' p = none) : Sb b F H (upd F' p o) (upd H' p o) ∧ Bag K b (upd F' p o) (upd H' p o) := by
  have nb : ¬ p = b := fun z => (memB K b).there B z hp
  have h0 : H p = none := s.fresh (fun x z => (memB K b).there B z) hp
  refine ⟨s.new hp h0, (memB K b).grow ((memB K b).put B nb) (same_new (s.fh.free hp)) fun x z => ?_⟩
  rw [upd_ne (fun q => nb (by rw [← q]; exact z))]
  exact (memB K b).off B z
theorem seqB (s : Sb b F H F' H') (B : Bag K b F' H') (s2 : Sb b F' H' F2 H2) : Sb b F H F2 H2 := s.then (memB K b) B s2
theorem pureB (s : Sb b F H F' H') (B : Bag K b F' H') (s2 : Stp F' H' F2 H2) : Sb b F H F2 H2 ∧ Bag K b F2 H2 := by
  refine ⟨seqB s B s2.any, ?_⟩
  obtain ⟨h, la, ns, at_, rest, mixed, count, h1, h2, h3, h4⟩ := B
  exact ⟨s2.nw b h (by rw [h4]; exact fun q => nomatch q), la, ns, at_, rest, mixed, count, h1, h2, upL s2.ff h3, s2.same b _ h4⟩
end
theorem sz_of {b : Nat} {n : Int} (k : Nat) (h : n.natAbs < 2 ^ k) (hk : k ≤ b) : Sz b n := Nat.lt_of_lt_of_le h (Nat.pow_le_pow_right (by decide) hk)
end K49

set_option Elab.async false
set_option linter.all false
set_option maxRecDepth 100000
set_option maxHeartbeats 4000000
namespace K49
open PySem PySem.Spec PyProof.Rows L2 Ew
theorem seq_in {t u : TS} {D : Ends} {σ : L2.St} {H : Hp} (h : t { D with nx := u D } σ H) : tSeq t u D σ H := h
theorem same_mut {H H' : Hp} {d : Addr} {u : HO} (e : Same H H') (h : H d = none) : Same H (upd H' d u) := fun x o z => by
  rw [upd_ne (fun q => by rw [q, h] at z; cases z)]
  exact e x o z
/-! ### spots -/
abbrev Spot := Str × Int × Int
def spV (p : Spot) : List V := [.str p.1, .int p.2.1, .int p.2.2]
def spK (p : Spot) : List Key := [.inr p.1, .inl p.2.1, .inl p.2.2]
theorem spKV (p : Spot) : (spK p).map kV = spV p := rfl
theorem spK_inj {p q : Spot} (h : spK p = spK q) : p = q := by
  obtain ⟨a, b, c⟩ := p
  obtain ⟨a', b', c'⟩ := q
  simp only [spK, List.cons.injEq, Sum.inr.injEq, Sum.inl.injEq, and_true] at h
  obtain ⟨h1, h2, h3⟩ := h
  subst h1 h2 h3
  rfl
/-- a spot stands at v, a tuple of the def's or the law's own -/
def Spt (K : PySem.W.Frag) (F : Hp) (v : V) (p : Spot) : Prop := ∃ q, v = .ref q ∧ SqT K F q (spV p)
theorem Spt.up {K : PySem.W.Frag} {F F' : Hp} {v : V} {p : Spot} (h : Spt K F v p) (e : Same F F') : Spt K F' v p := by obtain ⟨q, h1, h2⟩ := h; exact ⟨q, h1, upT e h2⟩
def spD (p : Spot) : PyData := .tuple [.str p.1, .int p.2.1, .int p.2.2]
theorem dp_sp {K : PySem.W.Frag} {H : Hp} {q : Addr} {p : Spot} (h : SqT K H q (spV p)) : Dp K H (.ref q) (spD p) := .tup h (.cons (.str _) (.cons (.int _) (.cons (.int _) .nil)))
theorem Spt.dp {K : PySem.W.Frag} {F : Hp} {v : V} {p : Spot} (h : Spt K F v p) : Dp K F v (spD p) := by obtain ⟨q, rfl, h2⟩ := h; exact dp_sp h2
theorem eqv_sp (p q : Spot) : PyData.eqv (spD p) (spD q) = decide (p = q) := by
  obtain ⟨a, b, c⟩ := p
  obtain ⟨a', b', c'⟩ := q
  simp only [spD, PyData.eqv, PyData.eqvAll]
  by_cases h1 : a = a' <;> by_cases h2 : b = b' <;> by_cases h3 : c = c' <;> simp [h1, h2, h3]
theorem fl_sp {p : Spot} (h : PyData.strOk p.1 = true) : Fl 1 (spD p) := Fl.tup (.cons (.str h) (.cons .int (.cons .int .nil)))
/-- what kind a thing is of, as far as it is looked at -/
inductive Kd (K : PySem.W.Frag) (F : Hp) : V → String → Prop
  | non : Kd K F .non "NoneType"
  | bl (b : Bool) : Kd K F (.bl b) "bool"
  | int (i : Int) : Kd K F (.int i) "int"
  | str (z : Str) : Kd K F (.str z) "str"
  | lst {p : Addr} {xs : List V} (h : SqL K F p xs) : Kd K F (.ref p) "list"
  | tup {p : Addr} {xs : List V} (h : SqT K F p xs) : Kd K F (.ref p) "tuple"
section
variable {K : PySem.W.Frag} {F F' : Hp} {v : V} {T : String}
theorem Kd.up (h : Kd K F v T) (e : Same F F') : Kd K F' v T := by
  cases h with
  | non => exact .non
  | bl b => exact .bl b
  | int i => exact .int i
  | str z => exact .str z
  | lst h => exact .lst (upL e h)
  | tup h => exact .tup (upT e h)
theorem Kd.ty (h : Kd K F v T) : TyX K F v (.type T) := by
  cases h with
  | non => exact .base .non
  | bl b => exact .base (.bl b)
  | int i => exact .base (.int i)
  | str z => exact .base (.str z)
  | lst h => exact ty_sqL h
  | tup h => exact ty_sqT h
theorem Kd.kit {U : String} (h : Kd K F v T) (hU : U = "str" ∨ U = "tuple") (n : T ≠ U) : PySem.W.kitOne K (.type T) (.type U) = some false := by
  rcases hU with rfl | rfl <;> cases h <;> first
    | exact absurd rfl n
    | exact kit_ty (by decide +kernel)
theorem Kd.noI (h : Kd K F v T) (n : T ≠ "int") : NoI K F v := by
  cases h with
  | bl b => exact .inl ⟨b, rfl⟩
  | int i => exact absurd rfl n
  | non => exact .inr ⟨_, .base .non, kit_ty (by decide +kernel)⟩
  | str z => exact .inr ⟨_, .base (.str z), kit_ty (by decide +kernel)⟩
  | lst h => exact .inr ⟨_, ty_sqL h, kit_ty (by decide +kernel)⟩
  | tup h => exact .inr ⟨_, ty_sqT h, kit_ty (by decide +kernel)⟩
end
/-- a thing that is no spot -/
inductive NotSp (K : PySem.W.Frag) (H : Hp) : V → Prop
  | nt {v : V} {T : String} (k : Kd K H v T) (n : T ≠ "tuple") : NotSp K H v
  | len {p : Addr} {xs : List V} (h : SqT K H p xs) (l : xs.length ≠ 3) : NotSp K H (.ref p)
  | name {p : Addr} {x y z : V} {T : String} (h : SqT K H p [x, y, z]) (k : Kd K H x T) (n : T ≠ "str") : NotSp K H (.ref p)
  | st {p : Addr} {n : Str} {y z : V} {T : String} (h : SqT K H p [.str n, y, z]) (k : Kd K H y T) (n : T ≠ "int") : NotSp K H (.ref p)
  | day {p : Addr} {n : Str} {s : Int} {z : V} {T : String} (h : SqT K H p [.str n, .int s, z]) (k : Kd K H z T) (n : T ≠ "int") : NotSp K H (.ref p)
theorem NotSp.up {K : PySem.W.Frag} {F F' : Hp} {v : V} (h : NotSp K F v) (e : Same F F') : NotSp K F' v := by
  cases h with
  | nt k n => exact .nt (k.up e) n
  | len h l => exact .len (upT e h) l
  | name h k n => exact .name (upT e h) (k.up e) n
  | st h k n => exact .st (upT e h) (k.up e) n
  | day h k n => exact .day (upT e h) (k.up e) n
section
variable {P : Program} {w : World} {K : PySem.W.Frag} {mg : Str → Option Value} {base : Heap} {a : Ad}
def sp_is_spot (K : PySem.W.Frag) : Sp := fun vs H Q _ => ∃ v, vs = [v] ∧ ((∃ q p, v = .ref q ∧ SqT K H q (spV p) ∧ Q (.bl true) H) ∨ (NotSp K H v ∧ Q (.bl false) H))
theorem c_is_spot (T : Txt K mg a) : Cl P w K mg base 2 "is_spot" P_is_spot (sp_is_spot K) [] :=
  T.d_is_spot.cl sc_is_spot (fun vs H Q E h => by obtain ⟨v, rfl, _⟩ := h; rfl) fun f cdv A outer s H vs Q E hr h => by
    obtain ⟨v, rfl, h⟩ := h
    refine ⟨_, ((pss_cons (ps_if (pt_not (pt_val (pe_f (c_is_tuple_of T) (takes_of rfl rfl rfl rfl) hr (by decide) rfl (pa_cons (pv 0) (pa_cons pe_int pa_nil)))))
 (pss_one (ps_ret pe_bl))
 pss_nil)
 (pss_cons (ps_asg (pv 0) (pg_tup rfl (pgs_cons (pg_name (i := 1) sc_is_spot.nd rfl (Or.inl rfl)) (pgs_cons (pg_name (i := 2) sc_is_spot.nd rfl (Or.inl rfl)) (pgs_cons (pg_name (i := 3) sc_is_spot.nd rfl (Or.inl rfl)) pgs_nil)))))
 (pss_one (ps_ret (pe_and (pe_callB call_isi (by rfl) T.n_isinstance (by decide +kernel) (pa_cons (pv 1) (pa_cons (pe_bltn (v := .ty "str") (by rfl) T.n_str (by decide +kernel) rfl) pa_nil))) (pe_and (pe_f (c_is_integer T) (takes_of rfl rfl rfl rfl) hr (by decide) rfl (pa_cons (pv 2) pa_nil)) (pe_one (pe_f (c_is_integer T) (takes_of rfl rfl rfl rfl) hr (by decide) rfl (pa_cons (pv 3) pa_nil)))))))))), ?_⟩
    rcases h with ⟨q, p, rfl, hp, k⟩ | ⟨n, k⟩
    · refine ⟨_, rfl, _, _, rfl, .inl ⟨q, _, rfl, hp, true, rfl, iteF ?_⟩⟩
      refine ⟨_, rfl, q, _, rfl, hp, rfl, _, _, rfl, _, _, rfl, _, _, rfl, rfl, ?_⟩
      refine ⟨_, rfl, _, _, _, _, true, rfl, .ty _, .base (.str _), kit_ty (by decide +kernel), true, rfl, iteT ?_⟩
      exact ⟨_, rfl, _, rfl, .inl ⟨_, rfl, _, rfl, iteT ⟨_, rfl, _, rfl, .inl ⟨_, rfl, k⟩⟩⟩⟩
    cases n with
    | nt kd n => exact ⟨_, rfl, _, _, rfl, .inr ⟨_, kd.ty, kd.kit (.inr rfl) n, _, rfl, iteT k⟩⟩
    | @len p xs hp l =>
      refine ⟨_, rfl, _, _, rfl, .inl ⟨p, xs, rfl, hp, _, rfl, ?_⟩⟩
      rw [decide_eq_false (fun z => l (by have := V.int.inj z; omega))]
      exact iteT k
    | @name p x y z T hp kd n =>
      refine ⟨_, rfl, _, _, rfl, .inl ⟨p, _, rfl, hp, true, rfl, iteF ?_⟩⟩
      refine ⟨_, rfl, p, _, rfl, hp, rfl, _, _, rfl, _, _, rfl, _, _, rfl, rfl, ?_⟩
      exact ⟨_, rfl, _, _, _, _, false, rfl, .ty _, kd.ty, kd.kit (.inl rfl) n, false, rfl, iteF k⟩
    | @st p n y z T hp kd ne =>
      refine ⟨_, rfl, _, _, rfl, .inl ⟨p, _, rfl, hp, true, rfl, iteF ?_⟩⟩
      refine ⟨_, rfl, p, _, rfl, hp, rfl, _, _, rfl, _, _, rfl, _, _, rfl, rfl, ?_⟩
      refine ⟨_, rfl, _, _, _, _, true, rfl, .ty _, .base (.str _), kit_ty (by decide +kernel), true, rfl, iteT ?_⟩
      exact ⟨_, rfl, _, rfl, .inr ⟨kd.noI ne, _, rfl, iteF k⟩⟩
    | @day p n s' z T hp kd ne =>
      refine ⟨_, rfl, _, _, rfl, .inl ⟨p, _, rfl, hp, true, rfl, iteF ?_⟩⟩
      refine ⟨_, rfl, p, _, rfl, hp, rfl, _, _, rfl, _, _, rfl, _, _, rfl, rfl, ?_⟩
      refine ⟨_, rfl, _, _, _, _, true, rfl, .ty _, .base (.str _), kit_ty (by decide +kernel), true, rfl, iteT ?_⟩
      exact ⟨_, rfl, _, rfl, .inl ⟨_, rfl, _, rfl, iteT ⟨_, rfl, _, rfl, .inr ⟨kd.noI ne, k⟩⟩⟩⟩
end
end K49

set_option Elab.async false
set_option linter.all false
set_option maxRecDepth 100000
set_option maxHeartbeats 4000000
namespace Ew
open PySem PySem.Spec PyProof.Rows L2
/-! ### zip(a list, a tuple) -/
def ItzM (K : PySem.W.Frag) (a b : Addr) : It where
  go := fun i H => ∃ (xs ys : List V) (x y : V), SqL K H a xs ∧ SqT K H b ys ∧ xs[i]? = some x ∧ ys[i]? = some y
  yld := fun i H v H' => ∃ T x y, v = .ref T ∧ H T = none ∧ H' = upd H T (.tup [x, y]) ∧ (∀ xs, SqL K H a xs → xs[i]? = some x) ∧ ∀ ys, SqT K H b ys → ys[i]? = some y
  stop := fun i H => ∃ xs ys : List V, SqL K H a xs ∧ SqT K H b ys ∧ i ≤ xs.length ∧ i ≤ ys.length ∧ (i = xs.length ∨ i = ys.length)
def TnM (z TI TO i1 i2 a b : Addr) (i : Nat) (h : Heap) : Prop := IsZip h z TI TO .none ∧ IsTupOf2 h TI (.ref i1) (.ref i2) ∧ (∃ x y, IsTupOf2 h TO x y) ∧ h.IsListIter i1 a i ∧ h.IsTupleIter i2 b i
theorem five {c z TI TO i1 i2 : Addr} (h : c ∈ [z, TI, TO, i1, i2]) : c = z ∨ c = TI ∨ c = TO ∨ c = i1 ∨ c = i2 := by
  simp only [List.mem_cons, List.not_mem_nil, or_false] at h
  exact h
theorem turn_zipM {P : Program} {w : World} {K : PySem.W.Frag} {elts : List Expr} {kk : Nat} {tpos : Pos} {a b z TI TO i1 i2 : Addr} (S : ZipSep2 z TI TO i1 i2 [i1, a] [i2, b]) (na : a ≠ i1) (nb : b ≠ i2) :
    Turn P w K (.Tuple elts kk tpos) (ItzM K a b) [z, TI, TO, i1, i2] z (TnM z TI TO i1 i2 a b) where
  mem := List.mem_cons_self
  obj := fun i h st c hc => by
    obtain ⟨q1, q2, ⟨_, _, q3⟩, ⟨o4, q4, _, d4⟩, ⟨o5, q5, _, d5⟩⟩ := st
    rcases five hc with rfl | rfl | rfl | rfl | rfl
    · exact ⟨_, q1, fun v e => nomatch e⟩
    · exact ⟨_, q2, fun v e => nomatch e⟩
    · exact ⟨_, q3, fun v e => nomatch e⟩
    · exact ⟨o4, q4, fun v e => by rw [d4] at e; cases e⟩
    · exact ⟨o5, q5, fun v e => by rw [d5] at e; cases e⟩
  keep := fun i h h' st k => by
    obtain ⟨q1, q2, ⟨x, y, q3⟩, q4, q5⟩ := st
    refine ⟨k _ List.mem_cons_self _ q1, k _ (by simp) _ q2, ⟨x, y, k _ (by simp) _ q3⟩, q4.at fun o e => ?_, q5.at fun o e => ?_⟩
    · exact k _ (by simp) o e
    · exact k _ (by simp) o e
  item := by
    intro X hP hw hK hc i pins s σ H E I hf st go
    subst hP hw hK
    obtain ⟨q1, q2, ⟨x0, y0, q3⟩, q4, q5⟩ := st
    obtain ⟨xs, ys, x, y, sx, sy, hx, hy⟩ := go
    obtain ⟨l1, r1, p1, _⟩ := I.list sx
    obtain ⟨l2, r2, p2, _⟩ := I.tuple sy
    obtain ⟨u1, hu1, ru1⟩ := r1.get hx
    obtain ⟨u2, hu2, ru2⟩ := r2.get hy
    have hh := I.ok.hd hc
    have D1 := Draws.list (prog := X.prog) (w := X.w) (A := X.A.in1) hh i1 a na l1.toArray
    have D2 := Draws.tuple (prog := X.prog) (w := X.w) (A := X.A.in1) hh i2 b nb l2.toArray
    have g1 : i < l1.toArray.size := by
      rw [List.size_toArray]
      exact (List.getElem?_eq_some_iff.mp hu1).1
    have g2 : i < l2.toArray.size := by
      rw [List.size_toArray]
      exact (List.getElem?_eq_some_iff.mp hu2).1
    have zl := Heap.lt_size q1
    refine wpAny_pyNext_zipD2_item S D1 D2 q1 q2 q3 ⟨q4, p1.isList⟩ ⟨q5, p2⟩ g1 g2 fun v1 v2 h' tk e1 e2 w1 w2 w3 w4 w5 w6 w7 => ?_
    rw [List.getElem?_toArray, hu1] at e1
    rw [List.getElem?_toArray, hu2] at e2
    cases e1
    cases e2
    refine ⟨_, rfl, wpAny_letOwnedTupleGo_zip (s := { s with heap := h', toks := tk }) w1 fun h'' w1' sb => ?_⟩
    have nw : h''.get? s.heap.objs.size = some { cls := .type "tuple", data := .seq #[u1, u2] } := (sb.2 _ (Nat.ne_of_gt zl)).trans w5
    have ob : ObjOk X.prog X.w (upd H s.heap.objs.size (.tup [x, y])) h'' s.heap.objs.size (.tup [x, y]) := by
      refine ⟨?_, [u1, u2], .cons ru1 (.cons ru2 .nil), ⟨_, nw, rfl, _, rfl⟩⟩
      show 2 ≤ sizeLine
      decide
    have off : ∀ c o, c ∉ [z, TI, TO, i1, i2] → s.heap.get? c = some o → h''.get? c = some o := fun c o hb e => by
      have n : c ≠ z ∧ c ≠ TO ∧ c ≠ i1 ∧ c ≠ i2 := ⟨fun q => hb (by simp [q]), fun q => hb (by simp [q]), fun q => hb (by simp [q]), fun q => hb (by simp [q])⟩
      exact (sb.2 c n.1).trans (w7 c o n.1 n.2.1 n.2.2.1 n.2.2.2 e)
    have I1 : Inv X pins σ (upd H s.heap.objs.size (.tup [x, y])) { s with heap := h'', toks := tk } := I.turnedNew off hf (Nat.le_refl _) ob
    refine ⟨.ref s.heap.objs.size, _, I1, rfl, ⟨_, x, y, rfl, I.hok.fresh (Nat.le_refl _), rfl, fun l hl => ?_, fun l hl => ?_⟩, ⟨w1', ?_, ⟨u1, u2, ?_⟩, ?_, ?_⟩, fun c hcm => ?_⟩
    · rw [I.list_inj hl sx]; exact hx
    · rw [I.tuple_inj hl sy]; exact hy
    · exact (sb.2 _ S.TIz).trans (w7 _ _ S.TIz S.TITO S.TIi1 S.TIi2 q2)
    · exact (sb.2 _ S.TOz).trans w2
    · exact w3.1.at fun o e => (sb.2 _ S.zi1.symm).trans e
    · exact w4.1.at fun o e => (sb.2 _ S.zi2.symm).trans e
    · have lt : c < s.heap.objs.size := by
        rcases five hcm with rfl | rfl | rfl | rfl | rfl
        · exact zl
        · exact Heap.lt_size q2
        · exact Heap.lt_size q3
        · obtain ⟨_, e, _⟩ := q4; exact Heap.lt_size e
        · obtain ⟨_, e, _⟩ := q5; exact Heap.lt_size e
      rw [upd_ne (Nat.ne_of_lt lt)]
      exact (hf c hcm).1
  done := by
    intro X hP hw hK hc i pins s σ H E I hf st go
    subst hP hw hK
    obtain ⟨q1, q2, ⟨x0, y0, q3⟩, q4, q5⟩ := st
    obtain ⟨xs, ys, sx, sy, h1, h2, h3⟩ := go
    obtain ⟨l1, r1, p1, _⟩ := I.list sx
    obtain ⟨l2, r2, p2, _⟩ := I.tuple sy
    have e1 := r1.length
    have e2 := r2.length
    have hh := I.ok.hd hc
    have D1 := Draws.list (prog := X.prog) (w := X.w) (A := X.A.in1) hh i1 a na l1.toArray
    have D2 := Draws.tuple (prog := X.prog) (w := X.w) (A := X.A.in1) hh i2 b nb l2.toArray
    refine wpAny_pyNext_zipD2_end S D1 D2 q1 q2 q3 ⟨q4, p1.isList⟩ ⟨q5, p2⟩ (by rw [List.size_toArray]; omega) (by rw [List.size_toArray]; omega) (by rw [List.size_toArray, List.size_toArray]; omega) fun h' tk k => ⟨rfl, ?_⟩
    exact I.turnedL (ch := [z, TI, TO, i1, i2]) (fun c o hb e => k c o (fun q => hb (by simp [q])) (fun q => hb (by simp [q])) (fun q => hb (by simp [q])) (fun q => hb (by simp [q])) e) hf
  self := fun A i s Q E st h => wpAny_pyIter_zip st.1 h
/-- zip(a list or a tuple, a tuple) -/
def iZipS (K : PySem.W.Frag) (ta : TA) : TI := fun σ H R => ta σ H fun vs H1 => ∃ a b xs ys, vs = [.ref a, .ref b] ∧ SqL K H1 a xs ∧ SqT K H1 b ys ∧ R (ItzM K a b) H1
theorem pi_zipM {X : Cx} {e e2 : Expr} {ta : TA} {p pos tpos : Pos} {elts : List Expr} {kk : Nat} (hg : Gl X "zip") (hm : X.mg "zip" = none) (ha : PA X [e, e2] ta)
    (hs : starEach [e, e2] X.env = (false, eval e X.env) :: starEach [e2] X.env := by rfl) (hpl : (backTo pos (starEach [e2] X.env)).any (·.1) = false := by rfl) :
    PI X (.Tuple elts kk tpos) (.Call (.Name "zip" p) [e, e2] [] pos) (iZipS X.K ta) := by
  refine ⟨fun pins s σ H R I h => Call_ (ld_blt I hg hm PyProof.Rows.boot_zip (PyProof.Rows.callWith_type1 (thn (ha.run pos pins s σ H _ I h) fun us s1 ⟨vs, H1, I1, r1, q⟩ => ?_) hs hpl))⟩
  obtain ⟨a, b, xs, ys, rfl, sx, sy, q⟩ := q
  obtain ⟨u, v, rfl, ru, rv⟩ := vals2 r1
  cases ru
  cases rv
  obtain ⟨l1, r1, p1, _⟩ := I1.list sx
  obtain ⟨l2, r2, p2, _⟩ := I1.tuple sy
  have la : a < s1.heap.objs.size := p1.lt
  have lb : b < s1.heap.objs.size := by
    obtain ⟨o, e, _⟩ := id p2
    exact Heap.lt_size e
  have S := zip_sep2 (N := s1.heap.objs.size) (fp1 := [a]) (fp2 := [b]) (fun c hc => by simp at hc; rw [hc]; exact la) (fun c hc => by simp at hc; rw [hc]; exact lb)
  refine zip_begins2 (begins_list a l1.toArray) (begins_tuple b l2.toArray) p1.isList p2 fun h' w1 w2 w3 w4 w5 w6 k => wpAny_pyIter_zip w1 ?_
  have I2 : Inv X pins σ H1 { s1 with heap := h' } := I1.kept k
  refine ⟨s1.heap.objs.size + 4, [s1.heap.objs.size + 4, s1.heap.objs.size + 2, s1.heap.objs.size + 3, s1.heap.objs.size, s1.heap.objs.size + 1], _, _, H1, rfl, I2, turn_zipM S (Nat.ne_of_lt la) (Nat.ne_of_lt (Nat.lt_succ_of_lt lb)), ⟨w1, w2, ⟨_, _, w3⟩, ⟨_, w4, rfl, rfl⟩, ⟨_, w5, rfl, rfl⟩⟩, fun c hcm => ?_, q⟩
  have le : s1.heap.objs.size ≤ c := by
    rcases five hcm with rfl | rfl | rfl | rfl | rfl
    · exact Nat.le_add_right _ _
    · exact Nat.le_add_right _ _
    · exact Nat.le_add_right _ _
    · exact Nat.le_refl _
    · exact Nat.le_add_right _ _
  exact I1.fpOk le (I1.hok.fresh le)
theorem pi_zipX {X : Cx} {e e2 : Expr} {ta : TA} {p pos tpos : Pos} {elts : List Expr} {kk : Nat} (hg : Gl X "zip") (hm : X.mg "zip" = none) (ha : PA X [e, e2] ta)
    (hs : starEach [e, e2] X.env = (false, eval e X.env) :: starEach [e2] X.env := by rfl) (hpl : (backTo pos (starEach [e2] X.env)).any (·.1) = false := by rfl) :
    PI X (.Tuple elts kk tpos) (.Call (.Name "zip" p) [e, e2] [] pos) (fun σ H R => iZipS X.K ta σ H R ∨ RZ.iZipA X.K ta σ H R) :=
  ⟨fun pins s σ H R I h => h.elim ((pi_zipM hg hm ha hs hpl).run pins s σ H R I) ((RZ.pi_zipA hg hm ha hs hpl).run pins s σ H R I)⟩
/-- two tuples, in pairs -/
theorem walk_zipTT {K : PySem.W.Frag} {b c : Addr} {xs ys : List V} (h : xs.length = ys.length) : Walk (RZ.ItzT K b c) xs.length (fun H => SqT K H b xs ∧ SqT K H c ys) (YPair (fun i => xs[i]?) (fun i => ys[i]?)) := by
  refine ⟨fun i _ hi q => ⟨xs, ys, xs[i], ys[i]'(h ▸ hi), q.1, q.2, by simp [hi], by simp [h ▸ hi]⟩, fun _ q => ⟨xs, ys, q.1, q.2, .inl (Nat.le_refl _)⟩, fun i H v H' _ q y => ?_⟩
  obtain ⟨t, x, z, h1, h2, h3, h4, h5⟩ := y
  exact ⟨t, x, z, h1, h2, h3, h4 xs q.1, h5 ys q.2⟩
theorem walk_zipM {K : PySem.W.Frag} {a b : Addr} {xs ys : List V} (h : xs.length = ys.length) : Walk (ItzM K a b) xs.length (fun H => SqL K H a xs ∧ SqT K H b ys) (YPair (fun i => xs[i]?) (fun i => ys[i]?)) := by
  refine ⟨fun i _ hi q => ⟨xs, ys, xs[i], ys[i]'(h ▸ hi), q.1, q.2, by simp [hi], by simp [h ▸ hi]⟩, fun _ q => ⟨xs, ys, q.1, q.2, Nat.le_refl _, by omega, .inl rfl⟩, fun i H v H' _ q y => ?_⟩
  obtain ⟨t, x, z, h1, h2, h3, h4, h5⟩ := y
  exact ⟨t, x, z, h1, h2, h3, h4 xs q.1, h5 ys q.2⟩
end Ew

set_option Elab.async false
set_option linter.all false
set_option maxRecDepth 100000
set_option maxHeartbeats 4000000
namespace Ew
open PySem PySem.Spec PyProof.Rows L2
/-! ### zip(a tuple, a list) -/
def ItzN (K : PySem.W.Frag) (a b : Addr) : It where
  go := fun i H => ∃ (xs ys : List V) (x y : V), SqT K H a xs ∧ SqL K H b ys ∧ xs[i]? = some x ∧ ys[i]? = some y
  yld := fun i H v H' => ∃ T x y, v = .ref T ∧ H T = none ∧ H' = upd H T (.tup [x, y]) ∧ (∀ xs, SqT K H a xs → xs[i]? = some x) ∧ ∀ ys, SqL K H b ys → ys[i]? = some y
  stop := fun i H => ∃ xs ys : List V, SqT K H a xs ∧ SqL K H b ys ∧ i ≤ xs.length ∧ i ≤ ys.length ∧ (i = xs.length ∨ i = ys.length)
def TnN (z TI TO i1 i2 a b : Addr) (i : Nat) (h : Heap) : Prop := IsZip h z TI TO .none ∧ IsTupOf2 h TI (.ref i1) (.ref i2) ∧ (∃ x y, IsTupOf2 h TO x y) ∧ h.IsTupleIter i1 a i ∧ h.IsListIter i2 b i
theorem turn_zipN {P : Program} {w : World} {K : PySem.W.Frag} {elts : List Expr} {kk : Nat} {tpos : Pos} {a b z TI TO i1 i2 : Addr} (S : ZipSep2 z TI TO i1 i2 [i1, a] [i2, b]) (na : a ≠ i1) (nb : b ≠ i2) :
    Turn P w K (.Tuple elts kk tpos) (ItzN K a b) [z, TI, TO, i1, i2] z (TnN z TI TO i1 i2 a b) where
  mem := List.mem_cons_self
  obj := fun i h st c hc => by
    obtain ⟨q1, q2, ⟨_, _, q3⟩, ⟨o4, q4, _, d4⟩, ⟨o5, q5, _, d5⟩⟩ := st
    rcases five hc with rfl | rfl | rfl | rfl | rfl
    · exact ⟨_, q1, fun v e => nomatch e⟩
    · exact ⟨_, q2, fun v e => nomatch e⟩
    · exact ⟨_, q3, fun v e => nomatch e⟩
    · exact ⟨o4, q4, fun v e => by rw [d4] at e; cases e⟩
    · exact ⟨o5, q5, fun v e => by rw [d5] at e; cases e⟩
  keep := fun i h h' st k => by
    obtain ⟨q1, q2, ⟨x, y, q3⟩, q4, q5⟩ := st
    refine ⟨k _ List.mem_cons_self _ q1, k _ (by simp) _ q2, ⟨x, y, k _ (by simp) _ q3⟩, q4.at fun o e => ?_, q5.at fun o e => ?_⟩
    · exact k _ (by simp) o e
    · exact k _ (by simp) o e
  item := by
    intro X hP hw hK hc i pins s σ H E I hf st go
    subst hP hw hK
    obtain ⟨q1, q2, ⟨x0, y0, q3⟩, q4, q5⟩ := st
    obtain ⟨xs, ys, x, y, sx, sy, hx, hy⟩ := go
    obtain ⟨l1, r1, p1, _⟩ := I.tuple sx
    obtain ⟨l2, r2, p2, _⟩ := I.list sy
    obtain ⟨u1, hu1, ru1⟩ := r1.get hx
    obtain ⟨u2, hu2, ru2⟩ := r2.get hy
    have hh := I.ok.hd hc
    have D1 := Draws.tuple (prog := X.prog) (w := X.w) (A := X.A.in1) hh i1 a na l1.toArray
    have D2 := Draws.list (prog := X.prog) (w := X.w) (A := X.A.in1) hh i2 b nb l2.toArray
    have g1 : i < l1.toArray.size := by
      rw [List.size_toArray]
      exact (List.getElem?_eq_some_iff.mp hu1).1
    have g2 : i < l2.toArray.size := by
      rw [List.size_toArray]
      exact (List.getElem?_eq_some_iff.mp hu2).1
    have zl := Heap.lt_size q1
    refine wpAny_pyNext_zipD2_item S D1 D2 q1 q2 q3 ⟨q4, p1⟩ ⟨q5, p2.isList⟩ g1 g2 fun v1 v2 h' tk e1 e2 w1 w2 w3 w4 w5 w6 w7 => ?_
    rw [List.getElem?_toArray, hu1] at e1
    rw [List.getElem?_toArray, hu2] at e2
    cases e1
    cases e2
    refine ⟨_, rfl, wpAny_letOwnedTupleGo_zip (s := { s with heap := h', toks := tk }) w1 fun h'' w1' sb => ?_⟩
    have nw : h''.get? s.heap.objs.size = some { cls := .type "tuple", data := .seq #[u1, u2] } := (sb.2 _ (Nat.ne_of_gt zl)).trans w5
    have ob : ObjOk X.prog X.w (upd H s.heap.objs.size (.tup [x, y])) h'' s.heap.objs.size (.tup [x, y]) := by
      refine ⟨?_, [u1, u2], .cons ru1 (.cons ru2 .nil), ⟨_, nw, rfl, _, rfl⟩⟩
      show 2 ≤ sizeLine
      decide
    have off : ∀ c o, c ∉ [z, TI, TO, i1, i2] → s.heap.get? c = some o → h''.get? c = some o := fun c o hb e => by
      have n : c ≠ z ∧ c ≠ TO ∧ c ≠ i1 ∧ c ≠ i2 := ⟨fun q => hb (by simp [q]), fun q => hb (by simp [q]), fun q => hb (by simp [q]), fun q => hb (by simp [q])⟩
      exact (sb.2 c n.1).trans (w7 c o n.1 n.2.1 n.2.2.1 n.2.2.2 e)
    have I1 : Inv X pins σ (upd H s.heap.objs.size (.tup [x, y])) { s with heap := h'', toks := tk } := I.turnedNew off hf (Nat.le_refl _) ob
    refine ⟨.ref s.heap.objs.size, _, I1, rfl, ⟨_, x, y, rfl, I.hok.fresh (Nat.le_refl _), rfl, fun l hl => ?_, fun l hl => ?_⟩, ⟨w1', ?_, ⟨u1, u2, ?_⟩, ?_, ?_⟩, fun c hcm => ?_⟩
    · rw [I.tuple_inj hl sx]; exact hx
    · rw [I.list_inj hl sy]; exact hy
    · exact (sb.2 _ S.TIz).trans (w7 _ _ S.TIz S.TITO S.TIi1 S.TIi2 q2)
    · exact (sb.2 _ S.TOz).trans w2
    · exact w3.1.at fun o e => (sb.2 _ S.zi1.symm).trans e
    · exact w4.1.at fun o e => (sb.2 _ S.zi2.symm).trans e
    · have lt : c < s.heap.objs.size := by
        rcases five hcm with rfl | rfl | rfl | rfl | rfl
        · exact zl
        · exact Heap.lt_size q2
        · exact Heap.lt_size q3
        · obtain ⟨_, e, _⟩ := q4; exact Heap.lt_size e
        · obtain ⟨_, e, _⟩ := q5; exact Heap.lt_size e
      rw [upd_ne (Nat.ne_of_lt lt)]
      exact (hf c hcm).1
  done := by
    intro X hP hw hK hc i pins s σ H E I hf st go
    subst hP hw hK
    obtain ⟨q1, q2, ⟨x0, y0, q3⟩, q4, q5⟩ := st
    obtain ⟨xs, ys, sx, sy, h1, h2, h3⟩ := go
    obtain ⟨l1, r1, p1, _⟩ := I.tuple sx
    obtain ⟨l2, r2, p2, _⟩ := I.list sy
    have e1 := r1.length
    have e2 := r2.length
    have hh := I.ok.hd hc
    have D1 := Draws.tuple (prog := X.prog) (w := X.w) (A := X.A.in1) hh i1 a na l1.toArray
    have D2 := Draws.list (prog := X.prog) (w := X.w) (A := X.A.in1) hh i2 b nb l2.toArray
    refine wpAny_pyNext_zipD2_end S D1 D2 q1 q2 q3 ⟨q4, p1⟩ ⟨q5, p2.isList⟩ (by rw [List.size_toArray]; omega) (by rw [List.size_toArray]; omega) (by rw [List.size_toArray, List.size_toArray]; omega) fun h' tk k => ⟨rfl, ?_⟩
    exact I.turnedL (ch := [z, TI, TO, i1, i2]) (fun c o hb e => k c o (fun q => hb (by simp [q])) (fun q => hb (by simp [q])) (fun q => hb (by simp [q])) (fun q => hb (by simp [q])) e) hf
  self := fun A i s Q E st h => wpAny_pyIter_zip st.1 h
def iZipN (K : PySem.W.Frag) (ta : TA) : TI := fun σ H R => ta σ H fun vs H1 => ∃ a b xs ys, vs = [.ref a, .ref b] ∧ SqT K H1 a xs ∧ SqL K H1 b ys ∧ R (ItzN K a b) H1
theorem pi_zipN {X : Cx} {e e2 : Expr} {ta : TA} {p pos tpos : Pos} {elts : List Expr} {kk : Nat} (hg : Gl X "zip") (hm : X.mg "zip" = none) (ha : PA X [e, e2] ta)
    (hs : starEach [e, e2] X.env = (false, eval e X.env) :: starEach [e2] X.env := by rfl) (hpl : (backTo pos (starEach [e2] X.env)).any (·.1) = false := by rfl) :
    PI X (.Tuple elts kk tpos) (.Call (.Name "zip" p) [e, e2] [] pos) (iZipN X.K ta) := by
  refine ⟨fun pins s σ H R I h => Call_ (ld_blt I hg hm PyProof.Rows.boot_zip (PyProof.Rows.callWith_type1 (thn (ha.run pos pins s σ H _ I h) fun us s1 ⟨vs, H1, I1, r1, q⟩ => ?_) hs hpl))⟩
  obtain ⟨a, b, xs, ys, rfl, sx, sy, q⟩ := q
  obtain ⟨u, v, rfl, ru, rv⟩ := vals2 r1
  cases ru
  cases rv
  obtain ⟨l1, r1, p1, _⟩ := I1.tuple sx
  obtain ⟨l2, r2, p2, _⟩ := I1.list sy
  have lb : b < s1.heap.objs.size := p2.lt
  have la : a < s1.heap.objs.size := by
    obtain ⟨o, e, _⟩ := id p1
    exact Heap.lt_size e
  have S := zip_sep2 (N := s1.heap.objs.size) (fp1 := [a]) (fp2 := [b]) (fun c hc => by simp at hc; rw [hc]; exact la) (fun c hc => by simp at hc; rw [hc]; exact lb)
  refine zip_begins2 (begins_tuple a l1.toArray) (begins_list b l2.toArray) p1 p2.isList fun h' w1 w2 w3 w4 w5 w6 k => wpAny_pyIter_zip w1 ?_
  have I2 : Inv X pins σ H1 { s1 with heap := h' } := I1.kept k
  refine ⟨s1.heap.objs.size + 4, [s1.heap.objs.size + 4, s1.heap.objs.size + 2, s1.heap.objs.size + 3, s1.heap.objs.size, s1.heap.objs.size + 1], _, _, H1, rfl, I2, turn_zipN S (Nat.ne_of_lt la) (Nat.ne_of_lt (Nat.lt_succ_of_lt lb)), ⟨w1, w2, ⟨_, _, w3⟩, ⟨_, w4, rfl, rfl⟩, ⟨_, w5, rfl, rfl⟩⟩, fun c hcm => ?_, q⟩
  have le : s1.heap.objs.size ≤ c := by
    rcases five hcm with rfl | rfl | rfl | rfl | rfl
    · exact Nat.le_add_right _ _
    · exact Nat.le_add_right _ _
    · exact Nat.le_add_right _ _
    · exact Nat.le_refl _
    · exact Nat.le_add_right _ _
  exact I1.fpOk le (I1.hok.fresh le)
theorem pi_zipY {X : Cx} {e e2 : Expr} {ta : TA} {p pos tpos : Pos} {elts : List Expr} {kk : Nat} (hg : Gl X "zip") (hm : X.mg "zip" = none) (ha : PA X [e, e2] ta)
    (hs : starEach [e, e2] X.env = (false, eval e X.env) :: starEach [e2] X.env := by rfl) (hpl : (backTo pos (starEach [e2] X.env)).any (·.1) = false := by rfl) :
    PI X (.Tuple elts kk tpos) (.Call (.Name "zip" p) [e, e2] [] pos) (fun σ H R => iZipN X.K ta σ H R ∨ RZ.iZipA X.K ta σ H R) :=
  ⟨fun pins s σ H R I h => h.elim ((pi_zipN hg hm ha hs hpl).run pins s σ H R I) ((RZ.pi_zipA hg hm ha hs hpl).run pins s σ H R I)⟩
theorem walk_zipN {K : PySem.W.Frag} {a b : Addr} {xs ys : List V} (h : xs.length = ys.length) : Walk (ItzN K a b) xs.length (fun H => SqT K H a xs ∧ SqL K H b ys) (YPair (fun i => xs[i]?) (fun i => ys[i]?)) := by
  refine ⟨fun i _ hi q => ⟨xs, ys, xs[i], ys[i]'(h ▸ hi), q.1, q.2, by simp [hi], by simp [h ▸ hi]⟩, fun _ q => ⟨xs, ys, q.1, q.2, Nat.le_refl _, by omega, .inl rfl⟩, fun i H v H' _ q y => ?_⟩
  obtain ⟨t, x, z, h1, h2, h3, h4, h5⟩ := y
  exact ⟨t, x, z, h1, h2, h3, h4 xs q.1, h5 ys q.2⟩
theorem walk_zipLL {K : PySem.W.Frag} {b c : Addr} {xs ys : List V} (h : xs.length = ys.length) : Walk (Itz K b c) xs.length (fun H => SqL K H b xs ∧ SqL K H c ys) (YPair (fun i => xs[i]?) (fun i => ys[i]?)) := by
  refine ⟨fun i _ hi q => ⟨xs, ys, xs[i], ys[i]'(h ▸ hi), q.1, q.2, by simp [hi], by simp [h ▸ hi]⟩, fun _ q => ⟨xs, ys, q.1, q.2, .inl (Nat.le_refl _)⟩, fun i H v H' _ q y => ?_⟩
  obtain ⟨t, x, z, h1, h2, h3, h4, h5⟩ := y
  exact ⟨t, x, z, h1, h2, h3, h4 xs q.1, h5 ys q.2⟩
end Ew

set_option Elab.async false
set_option linter.all false
set_option maxRecDepth 100000
set_option maxHeartbeats 4000000
namespace Ew
open PySem PySem.Spec PyProof.Rows L2
section
variable {m : Addr → Prop} {I : Hp → Hp → Prop} {F H F' H' F2 H2 : Hp} {J : It} {n : Nat} {G : Hp → Prop} {Y : Nat → Hp → V → Hp → Prop}
/-- a comprehension whose items may have to do with one another: S says what of the row so far -/
theorem lcS (M : Mem m I) (w : Walk J n G Y) {g : TG} {tt : TT} {te : TE} {vs : List Nat} {σ : L2.St} {D : Addr} {Qd : Hp → Prop} (S : List V → Prop) (hf : Same F H) (i0 : I F H) (s0 : S []) (hD : H D = none) (R : Nat → Hp → V → Prop) (hR : ∀ i F F' y, Same F F' → R i F y → R i F' y)
    (hn : n ≤ 1000000) (hG : ∀ F' H', Same F F' → Same F' H' → G H')
    (hs : ∀ i x F' H' H'' acc (Kt : VK) (Kn : Hp → Prop), i < n → Stm m F H F' H' → I F' H' → acc.length = i → S acc → (∀ j y, acc[j]? = some y → R j F' y) → Y i H' x H'' → (∀ y F4 H4, Stm m F' H' F4 H4 → I F4 H4 → R i F4 y → S (acc ++ [y]) → Kt y H4) →
      g x (wipe σ vs) H'' fun σ2 H2 => wipe σ2 vs = wipe σ vs ∧ tt σ2 H2 fun b H3 => if b = true then te σ2 H3 Kt else Kn H3)
    (hd : ∀ F' H' ys, Stm m F H F' H' → I F' H' → H D = none → F' D = some (.lst ys) → ys.length = n → S ys → (∀ j y, ys[j]? = some y → R j F' y) → Qd H') :
    ∃ W : Nat → Nat → Hp → Prop, (∃ k, W 0 k (upd H D (.lst []))) ∧ ∀ i k H, W i k H →
      (J.stop i H ∧ Qd H) ∨ (J.go i H ∧ ∃ Nx : Hp → Prop, (∀ H', Nx H' → ∃ k', k' < k ∧ W (i + 1) k' H') ∧ ∀ x H', J.yld i H x H' → g x (wipe σ vs) H' fun σ2 H2 => wipe σ2 vs = wipe σ vs ∧ tt σ2 H2 fun b H3 =>
        if b = true then te σ2 H3 fun y H4 => ∃ acc, H4 D = some (.lst acc) ∧ acc.length < sizeLine ∧ Nx (upd H4 D (.lst (acc ++ [y]))) else Nx H3) := by
  have nm : ¬ m D := fun z => M.there i0 z hD
  have fD : F D = none := hf.free hD
  refine lc_it w (fun i H' => ∃ F' acc, Stm m F H F' H' ∧ I F' H' ∧ F' D = none ∧ H' D = some (.lst acc) ∧ acc.length = i ∧ S acc ∧ ∀ j y, acc[j]? = some y → R j F' y) ?_ ?_ ?_ ?_
  · exact ⟨F, [], (Stm.refl hf).raw hD hD, M.put i0 nm, fD, upd_same, rfl, s0, fun j y z => by simp at z⟩
  · rintro i H' _ ⟨F', acc, s, _⟩
    exact hG F' H' s.ff s.fh
  · rintro i x H' H'' hi ⟨F', acc, s, iv, f', h', hl, hS, hr⟩ y
    refine hs i x F' H' H'' acc _ _ hi s iv hl hS hr y fun y F4 H4 s4 i4 r4 hS4 => ?_
    have f4 : F4 D = none := s4.nw D f' (by rw [h']; exact fun z => nomatch z)
    have h4 : H4 D = some (.lst acc) := s4.hh D _ nm h'
    refine ⟨acc, h4, by rw [sizeLine_eq]; omega, F4, acc ++ [y], (s.then M iv s4).mut f4 hD, M.put i4 nm, f4, upd_same, by rw [List.length_append, hl]; rfl, hS4, fun j z hz => ?_⟩
    rcases Nat.lt_or_ge j acc.length with hj | hj
    · rw [List.getElem?_append_left hj] at hz
      exact hR j F' F4 z s4.ff (hr j z hz)
    · rw [List.getElem?_append_right hj] at hz
      have e0 : j - acc.length = 0 := by
        rcases Nat.eq_zero_or_pos (j - acc.length) with h0 | h0
        · exact h0
        · rw [List.getElem?_eq_none (by simp; omega)] at hz; cases hz
      rw [e0] at hz
      cases hz
      have ej : j = i := by omega
      rw [ej]
      exact r4
  · rintro H' ⟨F', acc, s, iv, f', h', hl, hS, hr⟩
    refine hd (upd F' D (.lst acc)) H' acc (s.freeze f' hD h') (M.grow iv (same_new f') fun x hx => ?_) hD upd_same hl hS fun j y hy => hR j F' _ y (same_new f') (hr j y hy)
    rw [upd_ne (fun z => nm (by rw [← z]; exact hx))]
    exact M.off iv hx
/-- nothing new needs to be frozen -/
theorem Stm.thaw (hf : Same F H) (s : Stm m F H F' H') : Stm m F H F H' := ⟨.refl F, fun x o e => s.fh x o (s.ff x o e), s.hh, fun _ n _ => n⟩
theorem stp_same (hf : Same F H) (e : Same H H') : Stp F H F H' := ⟨.refl F, hf.trans e, fun x o _ h => e x o h, fun _ n _ => n⟩
/-- all that is new, frozen -/
def fz (F H H' : Hp) : Hp := fun x => if H x = none then H' x else F x
theorem fz_new {x : Addr} (h : H x = none) : fz F H H' x = H' x := if_pos h
theorem fz_old {x : Addr} (h : H x ≠ none) : fz F H H' x = F x := if_neg h
theorem Stm.all (hf : Same F H) (s : Stm m F H F' H') : Stm m F H (fz F H H') H' where
  ff := fun x o e => by rw [fz_old (by rw [hf x o e]; exact fun z => nomatch z)]; exact e
  fh := fun x o e => by
    by_cases h : H x = none
    · rw [fz_new h] at e; exact e
    · rw [fz_old h] at e; exact s.fh x o (s.ff x o e)
  hh := s.hh
  nw := fun x n h => by rw [fz_old h]; exact n
theorem stp_all (hf : Same F H) (e : Same H H') : Stp F H (fz F H H') H' := (stp_same hf e).all hf
end
end Ew

set_option Elab.async false
set_option linter.all false
set_option maxRecDepth 100000
set_option maxHeartbeats 4000000
namespace K49
open PySem PySem.Spec PyProof.Rows L2 Ew
/-! ### tables in the heap -/
def rowV (n : Nat) (g : Nat → Int) : List V := (List.range n).map fun j => V.int (g j)
theorem rowV_len {n : Nat} {g : Nat → Int} : (rowV n g).length = n := by simp [rowV]
theorem rowV_at {n j : Nat} {g : Nat → Int} (h : j < n) : (rowV n g)[j]? = some (.int (g j)) := by
  unfold rowV
  rw [List.getElem?_map, List.getElem?_range h]
  rfl
theorem rowV_get {n j : Nat} {g : Nat → Int} {y : V} (h : (rowV n g)[j]? = some y) : j < n ∧ y = .int (g j) := by
  have hj : j < n := by
    have := (List.getElem?_eq_some_iff.mp h).1
    rwa [rowV_len] at this
  rw [rowV_at hj] at h
  cases h
  exact ⟨hj, rfl⟩
theorem rowV_of {n : Nat} {g : Nat → Int} {ys : List V} (hl : ys.length = n) (h : ∀ j y, ys[j]? = some y → y = V.int (g j)) : ys = rowV n g := by
  refine List.ext_getElem? fun j => ?_
  rcases Nat.lt_or_ge j n with hj | hj
  · rw [rowV_at hj]
    have : j < ys.length := by omega
    rw [List.getElem?_eq_getElem this, h j _ (List.getElem?_eq_getElem this)]
  · rw [List.getElem?_eq_none (by omega), List.getElem?_eq_none (by rw [rowV_len]; omega)]
theorem rowV_congr {n : Nat} {g g' : Nat → Int} (h : ∀ j, j < n → g j = g' j) : rowV n g = rowV n g' :=
  rowV_of rowV_len fun j y e => by obtain ⟨h1, rfl⟩ := rowV_get e; rw [h j h1]
/-- a list, or (t) a tuple -/
def Sq (K : PySem.W.Frag) (t : Bool) (H : Hp) (p : Addr) (xs : List V) : Prop := if t = true then SqT K H p xs else SqL K H p xs
section
variable {K : PySem.W.Frag} {t : Bool} {F H H' : Hp} {p q : Addr} {xs ys : List V} {v : V} {n : Nat} {f g : Tb2}
theorem Sq.up (h : Sq K t H p xs) (e : Same H H') : Sq K t H' p xs := by
  cases t
  · exact upL e h
  · exact upT e h
theorem Sq.row (h : Sq K t H p xs) : SqL K H p xs ∨ SqT K H p xs := by
  cases t
  · exact .inl h
  · exact .inr h
/-- a table of n rows of n numbers -/
def Tb (K : PySem.W.Frag) (t : Bool) (H : Hp) (v : V) (n : Nat) (f : Tb2) : Prop := ∃ p us, v = .ref p ∧ Sq K t H p us ∧ us.length = n ∧ ∀ (i : Nat) u, us[i]? = some u → ∃ q, u = .ref q ∧ Sq K t H q (rowV n (f i))
theorem Tb.up (h : Tb K t H v n f) (e : Same H H') : Tb K t H' v n f := by
  obtain ⟨p, us, h1, h2, h3, h4⟩ := h
  exact ⟨p, us, h1, h2.up e, h3, fun i u hu => by obtain ⟨q, h5, h6⟩ := h4 i u hu; exact ⟨q, h5, h6.up e⟩⟩
theorem Tb.congr (h : Tb K t H v n f) (e : ∀ a b, a < n → b < n → f a b = g a b) : Tb K t H v n g := by
  obtain ⟨p, us, h1, h2, h3, h4⟩ := h
  refine ⟨p, us, h1, h2, h3, fun i u hu => ?_⟩
  obtain ⟨q, h5, h6⟩ := h4 i u hu
  have hi : i < n := by
    have := (List.getElem?_eq_some_iff.mp hu).1
    omega
  exact ⟨q, h5, by rw [← rowV_congr fun j hj => e i j hi hj]; exact h6⟩
theorem sq_pick {σ : L2.St} {R : It → Hp → Prop} {i : Nat} (h0 : σ[i]? = some (some (.ref p))) (hp : Sq K t H p xs)
    (k : ∀ J G, Walk J xs.length G (YAt xs) → (∀ H2, Sq K t H2 p xs → G H2) → R J H) : iList K (tVar i) σ H R ∨ iTup K (tVar i) σ H R := by
  cases t
  · exact .inl ⟨_, h0, p, rfl, ⟨xs, hp⟩, k _ _ walk_list fun H2 e2 => e2⟩
  · exact .inr ⟨_, h0, p, rfl, ⟨xs, hp⟩, k _ _ walk_tup fun H2 e2 => e2⟩
theorem zip_pick {σ : L2.St} {R : It → Hp → Prop} {i j : Nat} (h0 : σ[i]? = some (some (.ref p))) (h1 : σ[j]? = some (some (.ref q))) (hp : Sq K t H p xs) (hq : Sq K t H q ys) (hl : xs.length = ys.length)
    (k : ∀ J G, Walk J xs.length G (YPair (fun i => xs[i]?) (fun i => ys[i]?)) → (∀ H2, Sq K t H2 p xs → Sq K t H2 q ys → G H2) → R J H) : RZ.iZipA K (tCons (tVar i) (tCons (tVar j) tNil)) σ H R := by
  cases t
  · exact ⟨_, h0, _, h1, p, q, xs, ys, rfl, .inl ⟨hp, hq, k _ _ (walk_zipLL hl) fun H2 e2 e3 => ⟨e2, e3⟩⟩⟩
  · exact ⟨_, h0, _, h1, p, q, xs, ys, rfl, .inr ⟨hp, hq, k _ _ (walk_zipTT hl) fun H2 e2 e3 => ⟨e2, e3⟩⟩⟩
theorem for_sq {σ : L2.St} {g : TG} {tb : TS} {D : Ends} {i : Nat} (h0 : σ[i]? = some (some (.ref p))) (hp : Sq K t H p xs) (Pv : Nat → L2.St → Hp → Prop) (a0 : Pv 0 σ H) (hG : ∀ i σ H', Pv i σ H' → Sq K t H' p xs)
    (hs : ∀ i x σ H H', i < xs.length → Pv i σ H → YAt xs i H x H' → g x σ H' fun σ2 H2 => tb { D with nx := Pv (i + 1), ct := Pv (i + 1), bk := D.nx } σ2 H2) (hd : ∀ σ H, Pv xs.length σ H → D.nx σ H) :
    tFor (fun σ H R => iList K (tVar i) σ H R ∨ iTup K (tVar i) σ H R) g tb D σ H :=
  sq_pick h0 hp fun J G wk hG2 => for_it wk Pv a0 (fun i σ H' _ z => hG2 _ (hG i σ H' z)) hs hd
theorem for_zip {σ : L2.St} {g : TG} {tb : TS} {D : Ends} {i j : Nat} (h0 : σ[i]? = some (some (.ref p))) (h1 : σ[j]? = some (some (.ref q))) (hp : Sq K t H p xs) (hq : Sq K t H q ys) (hl : xs.length = ys.length) (Pv : Nat → L2.St → Hp → Prop) (a0 : Pv 0 σ H) (hG : ∀ i σ H', Pv i σ H' → Sq K t H' p xs ∧ Sq K t H' q ys)
    (hs : ∀ i x σ H H', i < xs.length → Pv i σ H → YPair (fun i => xs[i]?) (fun i => ys[i]?) i H x H' → g x σ H' fun σ2 H2 => tb { D with nx := Pv (i + 1), ct := Pv (i + 1), bk := D.nx } σ2 H2) (hd : ∀ σ H, Pv xs.length σ H → D.nx σ H) :
    tFor (RZ.iZipA K (tCons (tVar i) (tCons (tVar j) tNil))) g tb D σ H :=
  zip_pick h0 h1 hp hq hl fun J G wk hG2 => for_it wk Pv a0 (fun i σ H' _ z => hG2 _ (hG i σ H' z).1 (hG i σ H' z).2) hs hd
theorem lc_zip {σ : L2.St} {g : TG} {tt : TT} {te : TE} {vs : List Nat} {Q : VK} {i j : Nat} (h0 : σ[i]? = some (some (.ref p))) (h1 : σ[j]? = some (some (.ref q))) (hp : Sq K t H p xs) (hq : Sq K t H q ys) (hl : xs.length = ys.length) (R : Nat → Hp → V → Prop) (hR : ∀ i F F' y, Same F F' → R i F y → R i F' y) (hn : xs.length ≤ 1000000)
    (hs : ∀ i x F' H' H'' (Kt : VK) (Kn : Hp → Prop), i < xs.length → Stp H H F' H' → YPair (fun i => xs[i]?) (fun i => ys[i]?) i H' x H'' → (∀ y F4 H4, Stp F' H' F4 H4 → R i F4 y → Kt y H4) →
      g x (wipe σ vs) H'' fun σ2 H2 => wipe σ2 vs = wipe σ vs ∧ tt σ2 H2 fun b H3 => if b = true then te σ2 H3 Kt else Kn H3)
    (hd : ∀ F' H' zs D, Stp H H F' H' → H D = none → F' D = some (.lst zs) → zs.length = xs.length → (∀ j y, zs[j]? = some y → R j F' y) → Q (.ref D) H') : tLc (RZ.iZipA K (tCons (tVar i) (tCons (tVar j) tNil))) g tt te vs σ H Q :=
  zip_pick h0 h1 hp hq hl fun J G wk hG D hD => lcM memP wk (.refl H) trivial hD R hR hn (fun F' H' e1 e2 => hG _ (hp.up (e1.trans e2)) (hq.up (e1.trans e2))) (fun i x F' H' H'' Kt Kn hi s1 _ y kk => hs i x F' H' H'' Kt Kn hi s1 y fun y F4 H4 s4 r4 => kk y F4 H4 s4 trivial r4) fun F' H' zs s1 _ hD' hl' hr => hd F' H' zs D s1 hD hD' hl' hr
theorem lc_sq {σ : L2.St} {g : TG} {tt : TT} {te : TE} {vs : List Nat} {Q : VK} {i : Nat} (h0 : σ[i]? = some (some (.ref p))) (hp : Sq K t H p xs) (R : Nat → Hp → V → Prop) (hR : ∀ i F F' y, Same F F' → R i F y → R i F' y) (hn : xs.length ≤ 1000000)
    (hs : ∀ i x F' H' H'' (Kt : VK) (Kn : Hp → Prop), i < xs.length → Stp H H F' H' → YAt xs i H' x H'' → (∀ y F4 H4, Stp F' H' F4 H4 → R i F4 y → Kt y H4) →
      g x (wipe σ vs) H'' fun σ2 H2 => wipe σ2 vs = wipe σ vs ∧ tt σ2 H2 fun b H3 => if b = true then te σ2 H3 Kt else Kn H3)
    (hd : ∀ F' H' zs D, Stp H H F' H' → H D = none → F' D = some (.lst zs) → zs.length = xs.length → (∀ j y, zs[j]? = some y → R j F' y) → Q (.ref D) H') : tLc (fun σ H R => iList K (tVar i) σ H R ∨ iTup K (tVar i) σ H R) g tt te vs σ H Q :=
  sq_pick h0 hp fun J G wk hG D hD => lcM memP wk (.refl H) trivial hD R hR hn (fun F' H' e1 e2 => hG _ (hp.up (e1.trans e2))) (fun i x F' H' H'' Kt Kn hi s1 _ y kk => hs i x F' H' H'' Kt Kn hi s1 y fun y F4 H4 s4 r4 => kk y F4 H4 s4 trivial r4) fun F' H' zs s1 _ hD' hl' hr => hd F' H' zs D s1 hD hD' hl' hr
end
section
variable {P : Program} {w : World} {K : PySem.W.Frag} {mg : Str → Option Value} {base : Heap} {a : Ad}
theorem if_tB {te : TE} {t u : TS} {D : Ends} {σ : L2.St} {H : Hp} (h : te σ H fun v H1 => ∃ b, v = .bl b ∧ if b = true then t D σ H1 else u D σ H1) : tIfS (tB te) t u D σ H := h
theorem cb1 {r : List V → Hp → VK → Prop} {te : TE} {σ : L2.St} {H : Hp} {Q : VK} (h : te σ H fun v H1 => r [v] H1 Q) : tCB r (tCons te tNil) σ H Q := h
def rTupS (K : PySem.W.Frag) : List V → Hp → VK → Prop := fun xs H Q => ∃ p ys, xs = [.ref p] ∧ ((SqL K H p ys ∧ ∀ l, H l = none → Q (.ref l) (upd H l (.tup ys))) ∨ (SqT K H p ys ∧ Q (.ref p) H))
theorem call_tupS {X : Cx} : CallR X (.type "tuple") (rTupS X.K) := call_tuple_of
def rLstS (K : PySem.W.Frag) : List V → Hp → VK → Prop := fun xs H Q => ∃ p ys, xs = [.ref p] ∧ (SqL K H p ys ∨ SqT K H p ys) ∧ ∀ l, H l = none → Q (.ref l) (upd H l (.lst ys))
theorem call_lstS {X : Cx} : CallR X (.type "list") (rLstS X.K) := call_list_of
def Tri (n : Nat) (f : Tb2) : Prop := ∀ a b c, a < n → b < n → c < n → f a c ≤ f a b + f b c
def sp_is_closed (K : PySem.W.Frag) : Sp := fun vs H Q _ => ∃ (t : Bool) (v : V) (n : Nat) (f : Tb2), vs = [v] ∧ Tb K t H v n f ∧ n ≤ 1000 ∧ ∀ H', Same H H' → (Tri n f → Q (.bl true) H') ∧ (¬ Tri n f → Q (.bl false) H')
theorem c_is_closed (T : Txt K mg a) : Cl P w K mg base 1 "is_closed" P_is_closed (sp_is_closed K) [] :=
  T.d_is_closed.cl sc_is_closed (fun vs H Q E h => by obtain ⟨t, v, n, f, rfl, _⟩ := h; rfl) fun f cdv A outer s H vs Q E hr h => by
    obtain ⟨t, _, n, f, rfl, ⟨p, us, rfl, hp, hl, hu⟩, hn, k⟩ := h
    refine ⟨_, ((pss_cons (ps_for (passes_of rfl) rfl (pi_seq (pv 0)) (pg_name (i := 1) sc_is_closed.nd rfl (Or.inl rfl))
 (pss_one (ps_for (passes_of rfl) rfl (RZ.pi_zipA (by rfl) T.n_zip (pa_cons (pv 1) (pa_cons (pv 0) pa_nil))) (pg_tup rfl (pgs_cons (pg_name (i := 2) sc_is_closed.nd rfl (Or.inr rfl)) (pgs_cons (pg_name (i := 3) sc_is_closed.nd rfl (Or.inl rfl)) pgs_nil)))
 (pss_one (ps_if (pt_val (pe_callB (cr_any rfl) (by rfl) T.n_any (by decide +kernel) (pa_cons (pe_lc (own := [("far", 4), ("near", 5)]) (g := (gTup K 2 (gCons (gName 4) (gCons (gName 5) gNil)))) (by rfl) sc_is_closed.nd (RZ.pi_zipA (by rfl) T.n_zip (pa_cons (pv 1) (pa_cons (pv 3) pa_nil))) (blkOk_by (own := [("far", 4), ("near", 5)]) (N := N_is_closed) (sc := defScope s_is_closed) (by decide +kernel)) (fun _ _ _ _ _ => (pg_tup rfl (pgs_cons (pg_name (i := 4) sc_is_closed.nd rfl (Or.inl rfl) (hf := .inr rfl)) (pgs_cons (pg_name (i := 5) sc_is_closed.nd rfl (Or.inl rfl) (hf := .inr rfl)) pgs_nil)))) (fun _ _ _ _ _ => pts_nil) (fun _ _ _ _ _ => (pe_cmpR op_gt (pv 4) (pe_op op_add (pv 2) (pv 5)) (nomark _)))) pa_nil)))
 (pss_one (ps_ret pe_bl))
 pss_nil)))))
 (pss_one (ps_ret pe_bl)))), ?_⟩
    refine for_sq (i := 0) rfl hp (fun j σ' H' => ∃ c1 c2 c3 c4 c5, σ' = [some (.ref p), c1, c2, c3, c4, c5] ∧ Same H H' ∧ ∀ a b c, a < j → b < n → c < n → f a c ≤ f a b + f b c) ?_ ?_ ?_ ?_
    · exact ⟨none, none, none, none, none, rfl, .refl H, fun a b c z => absurd z (Nat.not_lt_zero a)⟩
    · rintro j σ' H' ⟨c1, c2, c3, c4, c5, _, e1, _⟩
      exact hp.up e1
    · rintro i x _ _ H1 hi ⟨c1, c2, c3, c4, c5, rfl, e1, t1⟩ ⟨rfl, hx⟩
      obtain ⟨q, rfl, hq⟩ := hu i x hx
      have hin : i < n := by omega
      show tFor _ _ _ _ _ _
      refine for_zip (i := 1) (j := 0) rfl rfl (hq.up e1) (hp.up e1) (by rw [rowV_len, hl]) (fun j σ' H' => ∃ c2 c3 c4 c5, σ' = [some (.ref p), some (.ref q), c2, c3, c4, c5] ∧ Same H1 H' ∧ ∀ b c, b < j → c < n → f i c ≤ f i b + f b c) ?_ ?_ ?_ ?_
      · exact ⟨c2, c3, c4, c5, rfl, .refl H1, fun b c z => absurd z (Nat.not_lt_zero b)⟩
      · rintro j σ' H' ⟨c2, c3, c4, c5, _, e2, _⟩
        exact ⟨hq.up (e1.trans e2), hp.up (e1.trans e2)⟩
      · rintro j x _ H2 H3 hj ⟨c2, c3, c4, c5, rfl, e2, t2⟩ ⟨T1, y1, y2, rfl, hT, rfl, hy1, hy2⟩
        rw [rowV_len] at hj
        obtain ⟨_, rfl⟩ := rowV_get hy1
        obtain ⟨q2, rfl, hq2⟩ := hu j y2 hy2
        have e3 : Same H1 (upd H2 T1 (.tup [.int (f i j), .ref q2])) := e2.trans (same_new hT)
        refine ⟨T1, _, rfl, sq_new, rfl, _, _, rfl, _, _, rfl, rfl, ?_⟩
        generalize upd H2 T1 (.tup [.int (f i j), .ref q2]) = H3 at e3
        refine if_tB (cb1 ?_)
        refine lc_zip (i := 1) (j := 3) rfl rfl (hq.up (e1.trans e3)) (hq2.up (e1.trans e3)) (by rw [rowV_len, rowV_len]) (fun c _ y => y = V.bl (decide (f i c > f i j + f j c))) (fun _ _ _ _ _ z => z) (by rw [rowV_len]; omega) ?_ ?_
        · rintro c x F' H4 H'' Kt Kn hcn s4 ⟨T2, z1, z2, rfl, hT2, rfl, g1, g2⟩ kk
          rw [rowV_len] at hcn
          obtain ⟨_, rfl⟩ := rowV_get g1
          obtain ⟨_, rfl⟩ := rowV_get g2
          refine ⟨T2, _, rfl, sq_new, rfl, _, _, rfl, _, _, rfl, rfl, rfl, lc_yes ?_⟩
          refine ⟨_, rfl, _, rfl, _, rfl, _, _, rfl, rfl, _, _, rfl, rfl, ?_⟩
          exact kk _ _ _ ((Stm.refl s4.fh).newP hT2) rfl
        · intro F' H4 ys D s4 _ hD' hy hr'
          rw [rowV_len] at hy
          have eb : ys = ((List.range n).map fun c => decide (f i c > f i j + f j c)).map V.bl := List.ext_getElem? fun z => by
            rcases Nat.lt_or_ge z n with hz | hz
            · have : z < ys.length := by omega
              rw [List.getElem?_eq_getElem this, hr' z _ (List.getElem?_eq_getElem this), List.getElem?_map, List.getElem?_map, List.getElem?_range hz]
              rfl
            · rw [List.getElem?_eq_none (by omega), List.getElem?_eq_none (by simp; omega)]
          subst eb
          have s5 := s4.fh _ _ hD'
          refine ⟨D, _, rfl, SqL.of s5, _, rfl, ?_⟩
          have e5 := e3.trans (s4.ff.trans s4.fh)
          by_cases all : ∀ c, c < n → f i c ≤ f i j + f j c
          · have : ((List.range n).map fun c => decide (f i c > f i j + f j c)).any id = false := by
              rw [List.any_eq_false]
              intro b hb
              obtain ⟨c, hc, rfl⟩ := List.mem_map.mp hb
              have := all c (List.mem_range.mp hc)
              simp
              omega
            rw [this]
            refine iteF ⟨_, _, _, _, rfl, e5, fun b c hb hc => ?_⟩
            by_cases ej : b = j
            · rw [ej]
              exact all c hc
            · exact t2 b c (by omega) hc
          · have : ((List.range n).map fun c => decide (f i c > f i j + f j c)).any id = true := by
              obtain ⟨c, hc⟩ := Classical.not_forall.mp all
              obtain ⟨hc, hn2⟩ := Classical.not_imp.mp hc
              rw [List.any_eq_true]
              exact ⟨_, List.mem_map.mpr ⟨c, List.mem_range.mpr hc, rfl⟩, decide_eq_true (by omega)⟩
            rw [this]
            exact iteT ((k _ (e1.trans e5)).2 fun z => all fun c hc => z i j c hin hj hc)
      · rintro _ H2 ⟨c2, c3, c4, c5, rfl, e2, t2⟩
        rw [rowV_len] at t2
        refine ⟨_, _, _, _, _, rfl, e1.trans e2, fun x b c hx hb hc => ?_⟩
        by_cases ex : x = i
        · rw [ex]
          exact t2 b c hb hc
        · exact t1 x b c (by omega) hb hc
    · rintro _ H1 ⟨c1, c2, c3, c4, c5, rfl, e1, t1⟩
      rw [hl] at t1
      exact (k _ e1).1 t1
end
end K49

set_option Elab.async false
set_option linter.all false
set_option maxRecDepth 100000
set_option maxHeartbeats 4000000
namespace K49
open PySem PySem.Spec PyProof.Rows L2 Ew
/-! ### odd things, as data -/
section
variable {K : PySem.W.Frag} {t : Bool} {H H' : Hp} {p q : Addr} {v u : V} {d : PyData} {us : List V} {ds : List PyData} {i j n : Nat}
mutual
theorem dp_up (e : Same H H') : ∀ {v : V} {d : PyData}, Dp K H v d → Dp K H' v d
  | _, _, .non => .non
  | _, _, .bl b => .bl b
  | _, _, .int i => .int i
  | _, _, .str x => .str x
  | _, _, .lst h t => .lst (upL e h) (dpAll_up e t)
  | _, _, .tup h t => .tup (upT e h) (dpAll_up e t)
theorem dpAll_up (e : Same H H') : ∀ {vs : List V} {ds : List PyData}, DpAll K H vs ds → DpAll K H' vs ds
  | _, _, .nil => .nil
  | _, _, .cons h t => .cons (dp_up e h) (dpAll_up e t)
end
theorem dpAll_len : ∀ {us : List V} {ds : List PyData}, DpAll K H us ds → us.length = ds.length
  | _, _, .nil => rfl
  | _, _, .cons _ t => by rw [List.length_cons, List.length_cons, dpAll_len t]
theorem dpAll_get : ∀ {us : List V} {ds : List PyData} {i : Nat} {u : V}, DpAll K H us ds → us[i]? = some u → ∃ d, ds[i]? = some d ∧ Dp K H u d
  | _, _, _, _, .nil, h => by simp at h
  | _, _, 0, _, .cons h _, e => by cases e; exact ⟨_, rfl, h⟩
  | _, _, i + 1, _, .cons _ t, e => dpAll_get (i := i) t e
theorem dpAll_at : ∀ {us : List V} {ds : List PyData} {i : Nat} {d : PyData}, DpAll K H us ds → ds[i]? = some d → ∃ u, us[i]? = some u ∧ Dp K H u d
  | _, _, _, _, .nil, h => by simp at h
  | _, _, 0, _, .cons h _, e => by cases e; exact ⟨_, rfl, h⟩
  | _, _, i + 1, _, .cons _ t, e => dpAll_at (i := i) t e
theorem dp_of : ∀ {us : List V} {ds : List PyData}, us.length = ds.length → (∀ (i : Nat) u d, us[i]? = some u → ds[i]? = some d → Dp K H u d) → DpAll K H us ds
  | [], [], _, _ => .nil
  | [], _ :: _, h, _ => by simp at h
  | _ :: _, [], h, _ => by simp at h
  | u :: us, d :: ds, h, k => .cons (k 0 u d rfl rfl) (dp_of (by simpa using h) fun i u d h1 h2 => k (i + 1) u d h1 h2)
def asSp : PyData → Option Spot
  | .tuple [.str n, .int s, .int d] => some (n, s, d)
  | _ => none
def asI : PyData → Option Int
  | .int i => some i
  | _ => none
theorem asSp_sp (p : Spot) : asSp (spD p) = some p := rfl
theorem asSp_some {p : Spot} (h : asSp d = some p) : d = spD p := by
  unfold asSp at h
  split at h
  · cases h; rfl
  · cases h
theorem asI_some {i : Int} (h : asI d = some i) : d = .int i := by
  unfold asI at h
  split at h
  · cases h; rfl
  · cases h
theorem spD_inj {p q : Spot} (h : spD p = spD q) : p = q := by
  have := asSp_sp p
  rw [h, asSp_sp] at this
  exact (Option.some.inj this).symm
theorem dp_isStr (h : Dp K H v d) : (∃ n, v = .str n ∧ d = .str n) ∨ ∃ T, Kd K H v T ∧ T ≠ "str" := by
  cases h with
  | str x => exact .inl ⟨x, rfl, rfl⟩
  | non => exact .inr ⟨_, .non, by decide⟩
  | bl b => exact .inr ⟨_, .bl b, by decide⟩
  | int i => exact .inr ⟨_, .int i, by decide⟩
  | lst h t => exact .inr ⟨_, .lst h, by decide⟩
  | tup h t => exact .inr ⟨_, .tup h, by decide⟩
theorem dp_isInt (h : Dp K H v d) : (∃ n, v = .int n ∧ d = .int n) ∨ ((∃ T, Kd K H v T ∧ T ≠ "int") ∧ asI d = none) := by
  cases h with
  | int i => exact .inl ⟨i, rfl, rfl⟩
  | non => exact .inr ⟨⟨_, .non, by decide⟩, rfl⟩
  | bl b => exact .inr ⟨⟨_, .bl b, by decide⟩, rfl⟩
  | str x => exact .inr ⟨⟨_, .str x, by decide⟩, rfl⟩
  | lst h t => exact .inr ⟨⟨_, .lst h, by decide⟩, rfl⟩
  | tup h t => exact .inr ⟨⟨_, .tup h, by decide⟩, rfl⟩
theorem dp_sps {p : Spot} (h : Dp K H v (spD p)) : Spt K H v p := by
  unfold spD at h
  cases h with
  | tup h t =>
    cases t with
    | cons h1 t =>
      cases t with
      | cons h2 t =>
        cases t with
        | cons h3 t =>
          cases t
          cases h1
          cases h2
          cases h3
          exact ⟨_, rfl, h⟩
theorem dp_nsp (h : Dp K H v d) (e : asSp d = none) : NotSp K H v := by
  cases h with
  | non => exact .nt .non (by decide)
  | bl b => exact .nt (.bl b) (by decide)
  | int i => exact .nt (.int i) (by decide)
  | str x => exact .nt (.str x) (by decide)
  | lst h t => exact .nt (.lst h) (by decide)
  | tup h t =>
    cases t with
    | nil => exact .len h (by simp)
    | cons h1 t =>
      cases t with
      | nil => exact .len h (by simp)
      | cons h2 t =>
        cases t with
        | nil => exact .len h (by simp)
        | cons h3 t =>
          cases t with
          | cons h4 t => exact .len h (by simp)
          | nil =>
            rcases dp_isStr h1 with ⟨n, rfl, rfl⟩ | ⟨T, k, ne⟩
            · rcases dp_isInt h2 with ⟨s, rfl, rfl⟩ | ⟨⟨T, k, ne⟩, _⟩
              · rcases dp_isInt h3 with ⟨y, rfl, rfl⟩ | ⟨⟨T, k, ne⟩, _⟩
                · cases e
                · exact .day h k ne
              · exact .st h k ne
            · exact .name h k ne
theorem is_spotD {Q : VK} {E : XK} (h : Dp K H v d) (k : Q (.bl (asSp d).isSome) H) : sp_is_spot K [v] H Q E := by
  cases e : asSp d with
  | none => rw [e] at k; exact ⟨v, rfl, .inr ⟨dp_nsp h e, k⟩⟩
  | some p =>
    rw [e] at k
    rw [asSp_some e] at h
    obtain ⟨q, rfl, hq⟩ := dp_sps h
    exact ⟨_, rfl, .inl ⟨q, p, rfl, hq, k⟩⟩
theorem is_integerD {Q : VK} {E : XK} (h : Dp K H v d) (k : Q (.bl (asI d).isSome) H) : sp_is_integer K [v] H Q E := by
  rcases dp_isInt h with ⟨n, rfl, rfl⟩ | ⟨⟨T, kd, ne⟩, e⟩
  · exact ⟨_, rfl, .inl ⟨n, rfl, k⟩⟩
  · rw [e] at k
    exact ⟨_, rfl, .inr ⟨kd.noI ne, k⟩⟩
/-- a row of data at p -/
def Its (K : PySem.W.Frag) (t : Bool) (H : Hp) (p : Addr) (ds : List PyData) : Prop := ∃ us, Sq K t H p us ∧ DpAll K H us ds
theorem Its.up (h : Its K t H p ds) (e : Same H H') : Its K t H' p ds := by
  obtain ⟨us, h1, h2⟩ := h
  exact ⟨us, h1.up e, dpAll_up e h2⟩
def rowL (n : Nat) (g : Nat → Int) : List PyData := (List.range n).map fun j => .int (g j)
def tabL (n : Nat) (f : Tb2) : List (List PyData) := (List.range n).map fun i => rowL n (f i)
theorem rowL_len {g : Nat → Int} : (rowL n g).length = n := by simp [rowL]
theorem tabL_len {f : Tb2} : (tabL n f).length = n := by simp [tabL]
theorem rowL_at {g : Nat → Int} (h : j < n) : (rowL n g)[j]? = some (.int (g j)) := by
  unfold rowL
  rw [List.getElem?_map, List.getElem?_range h]
  rfl
theorem tabL_at {f : Tb2} (h : j < n) : (tabL n f)[j]? = some (rowL n (f j)) := by
  unfold tabL
  rw [List.getElem?_map, List.getElem?_range h]
  rfl
theorem rowL_get {g : Nat → Int} {d : PyData} (h : (rowL n g)[j]? = some d) : j < n ∧ d = .int (g j) := by
  have hj : j < n := by
    have := (List.getElem?_eq_some_iff.mp h).1
    rwa [rowL_len] at this
  rw [rowL_at hj] at h
  cases h
  exact ⟨hj, rfl⟩
theorem tabL_get {f : Tb2} {R : List PyData} (h : (tabL n f)[j]? = some R) : j < n ∧ R = rowL n (f j) := by
  have hj : j < n := by
    have := (List.getElem?_eq_some_iff.mp h).1
    rwa [tabL_len] at this
  rw [tabL_at hj] at h
  cases h
  exact ⟨hj, rfl⟩
theorem rowL_of {g : Nat → Int} {R : List PyData} (hl : R.length = n) (h : ∀ (j : Nat) (d : PyData), R[j]? = some d → d = PyData.int (g j)) : R = rowL n g := by
  refine List.ext_getElem? fun j => ?_
  rcases Nat.lt_or_ge j n with hj | hj
  · rw [rowL_at hj]
    have : j < R.length := by omega
    rw [List.getElem?_eq_getElem this, h j _ (List.getElem?_eq_getElem this)]
  · rw [List.getElem?_eq_none (by omega), List.getElem?_eq_none (by rw [rowL_len]; omega)]
theorem dp_rowV {g : Nat → Int} : DpAll K H (rowV n g) (rowL n g) := dp_of (by rw [rowV_len, rowL_len]) fun i u d h1 h2 => by
  obtain ⟨_, rfl⟩ := rowV_get h1
  obtain ⟨_, rfl⟩ := rowL_get h2
  exact .int _
theorem rowV_dp {g : Nat → Int} (h : DpAll K H us (rowL n g)) : us = rowV n g := by
  refine rowV_of (by rw [dpAll_len h, rowL_len]) fun j y e => ?_
  obtain ⟨d, h1, h2⟩ := dpAll_get h e
  obtain ⟨_, rfl⟩ := rowL_get h1
  cases h2
  rfl
/-- rows of data -/
def RoD (K : PySem.W.Frag) (t : Bool) (H : Hp) (v : V) (Rs : List (List PyData)) : Prop := ∃ p us, v = .ref p ∧ Sq K t H p us ∧ us.length = Rs.length ∧ ∀ (i : Nat) u R, us[i]? = some u → Rs[i]? = some R → ∃ q, u = .ref q ∧ Its K t H q R
theorem RoD.up {Rs : List (List PyData)} (h : RoD K t H v Rs) (e : Same H H') : RoD K t H' v Rs := by
  obtain ⟨p, us, h1, h2, h3, h4⟩ := h
  exact ⟨p, us, h1, h2.up e, h3, fun i u R a b => by obtain ⟨q, z1, z2⟩ := h4 i u R a b; exact ⟨q, z1, z2.up e⟩⟩
theorem RoD.tb {f : Tb2} (h : RoD K t H v (tabL n f)) : Tb K t H v n f := by
  obtain ⟨p, us, h1, h2, h3, h4⟩ := h
  rw [tabL_len] at h3
  refine ⟨p, us, h1, h2, h3, fun i u hu => ?_⟩
  have hi : i < n := by have := (List.getElem?_eq_some_iff.mp hu).1; omega
  obtain ⟨q, z1, xs, z2, z3⟩ := h4 i u _ hu (tabL_at hi)
  exact ⟨q, z1, by rw [← rowV_dp z3]; exact z2⟩
theorem Tb.ro {f : Tb2} (h : Tb K t H v n f) : RoD K t H v (tabL n f) := by
  obtain ⟨p, us, h1, h2, h3, h4⟩ := h
  refine ⟨p, us, h1, h2, by rw [tabL_len]; exact h3, fun i u R a b => ?_⟩
  obtain ⟨q, z1, z2⟩ := h4 i u a
  obtain ⟨_, rfl⟩ := tabL_get b
  exact ⟨q, z1, _, z2, dp_rowV⟩
end
/-! ### what may be wrong first -/
def ground : Spot := (⟨#[103, 114, 111, 117, 110, 100]⟩, 0, 0)
/-- a row of spots: ground first, none twice -/
structure OkS (ps : List Spot) : Prop where
  nd : ps.Nodup
  g : ps[0]? = some ground
  ok : ∀ p ∈ ps, PyData.strOk p.1 = true
  le : ps.length ≤ 1000
theorem OkS.pos {ps : List Spot} (h : OkS ps) : 0 < ps.length := (List.getElem?_eq_some_iff.mp h.g).1
def OkD (ds : List PyData) : Prop := ∃ ps, ds = ps.map spD ∧ OkS ps
def okA (ds : List PyData) (j : Nat) : Prop := ∃ s, ds[j]? = some (spD s) ∧ spD s ∉ ds.take j ∧ (j = 0 → s = ground)
structure FstBad (ds : List PyData) (i : Nat) : Prop where
  lt : i < ds.length
  bef : ∀ j, j < i → okA ds j
  bad : ¬ okA ds i
def BadS (ds : List PyData) (i : Nat) : Prop := (ds = [] ∧ i = 0) ∨ FstBad ds i
def rowOk (n j : Nat) (R : List PyData) : Prop := R.length = n ∧ (∀ d ∈ R, (asI d).isSome = true) ∧ R[j]? = some (.int 0)
def AllR (n : Nat) (Rs : List (List PyData)) : Prop := ∀ j R, j < n → Rs[j]? = some R → rowOk n j R
def BadR (n : Nat) (Rs : List (List PyData)) (j : Nat) : Prop := j < n ∧ (∀ i R, i < j → Rs[i]? = some R → rowOk n i R) ∧ ∃ R, Rs[j]? = some R ∧ ¬ rowOk n j R
def BadE (n : Nat) (Rs : List (List PyData)) : Prop := AllR n Rs ∧ (Rs.length ≠ n ∨ ∃ f, Rs = tabL n f ∧ ¬ Tri n f)
inductive Flaw (ds : List PyData) (Rs : List (List PyData)) : Int → Prop
  | spot {i : Nat} : BadS ds i → Flaw ds Rs i
  | row {j : Nat} : OkD ds → BadR ds.length Rs j → Flaw ds Rs j
  | fin : OkD ds → BadE ds.length Rs → Flaw ds Rs (-1)
theorem take_map_sp {ps : List Spot} {s : Spot} {j : Nat} : spD s ∈ (ps.map spD).take j ↔ s ∈ ps.take j := by
  rw [← List.map_take, List.mem_map]
  exact ⟨fun ⟨x, h1, h2⟩ => by rw [← spD_inj h2]; exact h1, fun h => ⟨s, h, rfl⟩⟩
theorem not_taken {ps : List Spot} {j : Nat} {p : Spot} (nd : ps.Nodup) (h : ps[j]? = some p) : p ∉ ps.take j := fun m => by
  obtain ⟨i, hi⟩ := List.mem_iff_getElem?.mp m
  rw [List.getElem?_take] at hi
  have il : i < j := by
    by_cases q : i < j
    · exact q
    · rw [if_neg q] at hi; cases hi
  rw [if_pos il] at hi
  have := (List.getElem?_inj (List.getElem?_eq_some_iff.mp hi).1 nd).mp (hi.trans h.symm)
  omega
theorem OkS.okA {ps : List Spot} (h : OkS ps) {j : Nat} (hj : j < ps.length) : okA (ps.map spD) j := by
  have e : ps[j]? = some ps[j] := List.getElem?_eq_getElem hj
  refine ⟨ps[j], by rw [List.getElem?_map, e]; rfl, fun z => not_taken h.nd e (take_map_sp.mp z), fun z => ?_⟩
  subst z
  have := h.g
  rw [e] at this
  exact Option.some.inj this
theorem OkS.of_A {ps : List Spot} (h : ∀ j, j < ps.length → K49.okA (ps.map spD) j) (ok : ∀ p ∈ ps, PyData.strOk p.1 = true) (le : ps.length ≤ 1000) (pos : 0 < ps.length) : OkS ps := by
  have at_ : ∀ j (hj : j < ps.length), ps[j] ∉ ps.take j ∧ (j = 0 → ps[j] = ground) := fun j hj => by
    obtain ⟨s, h1, h2, h3⟩ := h j hj
    rw [List.getElem?_map, List.getElem?_eq_getElem hj] at h1
    have e := spD_inj (Option.some.inj h1)
    exact ⟨fun z => h2 (take_map_sp.mpr (by rw [← e]; exact z)), fun z => by rw [e]; exact h3 z⟩
  refine ⟨?_, ?_, ok, le⟩
  · refine List.pairwise_iff_getElem.mpr fun i j hi hj hij z => ?_
    refine (at_ j hj).1 ?_
    rw [← z]
    exact List.mem_take_iff_getElem.mpr ⟨i, by omega, rfl⟩
  · rw [List.getElem?_eq_getElem pos, (at_ 0 pos).2 rfl]
theorem OkD.noS {ds : List PyData} (h : OkD ds) {i : Nat} : ¬ BadS ds i := by
  obtain ⟨ps, rfl, ok⟩ := h
  rintro (⟨e, _⟩ | b)
  · have := ok.pos
    rw [List.map_eq_nil_iff] at e
    subst e
    simp at this
  · exact b.bad (ok.okA (by have := b.lt; rwa [List.length_map] at this))
theorem FstBad.uniq {ds : List PyData} {i j : Nat} (h : FstBad ds i) (k : FstBad ds j) : i = j := by
  rcases Nat.lt_trichotomy i j with c | c | c
  · exact absurd (k.bef i c) h.bad
  · exact c
  · exact absurd (h.bef j c) k.bad
theorem BadS.uniq {ds : List PyData} {i j : Nat} (h : BadS ds i) (k : BadS ds j) : i = j := by
  rcases h with ⟨e, rfl⟩ | h <;> rcases k with ⟨e2, rfl⟩ | k
  · rfl
  · rw [e] at k; exact absurd k.lt (Nat.not_lt_zero _)
  · rw [e2] at h; exact absurd h.lt (Nat.not_lt_zero _)
  · exact h.uniq k
theorem BadR.uniq {n : Nat} {Rs : List (List PyData)} {i j : Nat} (h : BadR n Rs i) (k : BadR n Rs j) : i = j := by
  obtain ⟨_, h2, R, h3, h4⟩ := h
  obtain ⟨_, k2, S, k3, k4⟩ := k
  rcases Nat.lt_trichotomy i j with c | c | c
  · exact absurd (k2 i R c h3) h4
  · exact c
  · exact absurd (h2 j S c k3) k4
theorem AllR.noR {n : Nat} {Rs : List (List PyData)} {j : Nat} (h : AllR n Rs) : ¬ BadR n Rs j := fun ⟨h1, _, R, h3, h4⟩ => h4 (h j R h1 h3)
theorem Flaw.uniq {ds : List PyData} {Rs : List (List PyData)} {x y : Int} (h : Flaw ds Rs x) (k : Flaw ds Rs y) : x = y := by
  cases h with
  | spot h =>
    cases k with
    | spot k => rw [h.uniq k]
    | row o _ => exact absurd h o.noS
    | fin o _ => exact absurd h o.noS
  | row o h =>
    cases k with
    | spot k => exact absurd k o.noS
    | row _ k => rw [h.uniq k]
    | fin _ k => exact absurd h k.1.noR
  | fin o h =>
    cases k with
    | spot k => exact absurd k o.noS
    | row _ k => exact absurd k h.1.noR
    | fin _ _ => rfl
theorem tab_rowOk {n : Nat} {f : Tb2} (hz : ∀ a, a < n → f a a = 0) : AllR n (tabL n f) := fun j R hj h => by
  obtain ⟨_, rfl⟩ := tabL_get h
  refine ⟨rowL_len, fun d hd => ?_, by rw [rowL_at hj, hz j hj]⟩
  obtain ⟨i, hi⟩ := List.mem_iff_getElem?.mp hd
  obtain ⟨_, rfl⟩ := rowL_get hi
  rfl
theorem rows_tab {n : Nat} {Rs : List (List PyData)} (hl : Rs.length = n) (h : AllR n Rs) : ∃ f, Rs = tabL n f ∧ ∀ a, a < n → f a a = 0 := by
  refine ⟨fun a b => (asI ((Rs.getD a []).getD b .none)).getD 0, ?_, fun a ha => ?_⟩
  · refine List.ext_getElem? fun j => ?_
    rcases Nat.lt_or_ge j n with hj | hj
    · have e : Rs[j]? = some Rs[j] := List.getElem?_eq_getElem (by omega)
      rw [tabL_at hj, e]
      obtain ⟨h1, h2, h3⟩ := h j _ hj e
      congr 1
      refine rowL_of h1 fun b d hd => ?_
      have hs := h2 d (List.mem_of_getElem? hd)
      obtain ⟨i, hi⟩ := Option.isSome_iff_exists.mp hs
      rw [asI_some hi, List.getD_eq_getElem?_getD, List.getD_eq_getElem?_getD, e, Option.getD_some, hd, Option.getD_some, hi]
      rfl
    · rw [List.getElem?_eq_none (by omega), List.getElem?_eq_none (by rw [tabL_len]; omega)]
  · have e : Rs[a]? = some Rs[a] := List.getElem?_eq_getElem (by omega)
    obtain ⟨h1, h2, h3⟩ := h a _ ha e
    dsimp only
    rw [List.getD_eq_getElem?_getD, List.getD_eq_getElem?_getD, e, Option.getD_some, h3]
    rfl
theorem tabL_inj {n : Nat} {f g : Tb2} (h : tabL n f = tabL n g) : ∀ a b, a < n → b < n → f a b = g a b := fun a b ha hb => by
  have e := congrArg (fun l => l[a]?) h
  simp only [tabL_at ha, Option.some.injEq] at e
  have e := congrArg (fun l => l[b]?) e
  simp only [rowL_at hb, Option.some.injEq, PyData.int.injEq] at e
  exact e
theorem Tri.congr {n : Nat} {f g : Tb2} (h : Tri n f) (e : ∀ a b, a < n → b < n → f a b = g a b) : Tri n g := fun a b c ha hb hc => by
  rw [← e a c ha hc, ← e a b ha hb, ← e b c hb hc]
  exact h a b c ha hb hc
theorem Flaw.no {ps : List Spot} {f : Tb2} (ok : OkS ps) (hc : Cld ps.length f) {z : Int} : ¬ Flaw (ps.map spD) (tabL ps.length f) z := fun h => by
  have el : (ps.map spD).length = ps.length := List.length_map _
  cases h with
  | spot h => exact OkD.noS ⟨ps, rfl, ok⟩ h
  | row _ h => rw [el] at h; exact AllR.noR (tab_rowOk hc.z) h
  | fin _ h =>
    rw [el] at h
    rcases h.2 with h | ⟨g, e, nt⟩
    · exact h tabL_len
    · exact nt (Tri.congr hc.t (tabL_inj e))
theorem fl_str {n : Nat} {p : Spot} (h : Fl n (spD p)) : PyData.strOk p.1 = true := by
  have := h.c
  unfold spD at this
  rw [PyData.canLay0, PyData.canLayAll0, PyData.canLay0, Bool.and_eq_true] at this
  exact this.1
end K49

set_option Elab.async false
set_option linter.all false
set_option maxRecDepth 100000
set_option maxHeartbeats 4000000
namespace Ew
open PySem PySem.Spec PyProof.Rows L2
/-! ### a dict whose keys are tuples, wherever these stand (a tuple that the top wrote too) -/
abbrev KX (K : PySem.W.Frag) (H : Hp) : List (List Key × V) → List (List Key × Addr × Value) → Prop := Paired fun p q => p.1 = q.1 ∧ SqT K H q.2.1 (p.1.map kV) ∧ RelV p.2 q.2.2
theorem KX.val {K : PySem.W.Frag} {H : Hp} {kvs : List (List Key × V)} {xs : List (List Key × Addr × Value)} (r : KX K H kvs xs) (k : List Key) : RelO (valV kvs k) ((atKey xs k).map (·.2)) := by
  induction r with
  | nil => exact True.intro
  | @cons p q ps qs h t ih =>
    obtain ⟨h1, _, h2⟩ := h
    by_cases e : p.1 = k
    · have e' : q.1 = k := h1.symm.trans e
      have b : atKey (q :: qs) k = some q.2 := by simp [atKey, List.find?_cons, e']
      rw [valV_pos e, b]; exact h2
    · have e' : ¬ q.1 = k := fun z => e (h1.trans z)
      have b : atKey (q :: qs) k = atKey qs k := by simp [atKey, List.find?_cons, e']
      rw [valV_neg e, b]; exact ih
/-- the object of such a dict -/
def dxO (P : Program) (w : World) (d : Addr) (xs : List (List Key × Addr × Value)) : Heap → Prop := fun h => (d == sysModules) = false ∧ ∃ o es ep, h.get? d = some o ∧ o.ExactDict ∧ o.data = .dict es ep ∧ es.toList = xs.map (entryOfKey (tupleKind (mixKind P w))) ∧ (xs.map (·.1)).Nodup
def Dtx (P : Program) (w : World) (K : PySem.W.Frag) (H : Hp) (d : Addr) (kvs : List (List Key × V)) : Prop := kvs.length ≤ sizeLine ∧ ∃ xs, KX K H kvs xs ∧ H d = some (.ext (dxO P w d xs))
section
variable {P : Program} {w : World} {K : PySem.W.Frag} {H H' : Hp} {d : Addr} {kvs : List (List Key × V)}
theorem Dtx.up (h : Dtx P w K H d kvs) (e : Same H H') : Dtx P w K H' d kvs := by
  obtain ⟨h1, xs, h2, h3⟩ := h
  exact ⟨h1, xs, Paired.mapP h2 fun _ _ z => ⟨z.1, upT e z.2.1, z.2.2⟩, e _ _ h3⟩
theorem Dtx.there (h : Dtx P w K H d kvs) : H d ≠ none := by
  obtain ⟨_, xs, _, h3⟩ := h
  rw [h3]
  exact fun z => nomatch z
theorem dxO_ok {h : Heap} {xs : List (List Key × Addr × Value)} (x : dxO P w d xs h) : ObjOk P w H h d (.ext (dxO P w d xs)) := by
  obtain ⟨h1, o, es, ep, h2, h3⟩ := id x
  refine ⟨x, ⟨o, h2⟩, fun a b z k => ?_⟩
  obtain ⟨z1, o', es', ep', z2, z3⟩ := z
  exact ⟨z1, o', es', ep', k _ z2, z3⟩
end
section
variable {X : Cx} {pins : List (Addr × Obj)} {σ : L2.St} {H : Hp} {s : Shared}
theorem key_sq (I : Inv X pins σ H s) {a : Addr} {ks : List Key} (e : SqT X.K H a (ks.map kV)) : (tupleKind (mixKind X.prog X.w)).is s.heap ks a := by
  obtain ⟨its, r, ⟨o, h1, h2, n, h3⟩, _⟩ := I.tuple e
  exact ⟨o, its.toArray, n, h1, h2, h3, by simpa using items_are r⟩
theorem dx_at (I : Inv X pins σ H s) {d : Addr} {kvs : List (List Key × V)} (h : Dtx X.prog X.w X.K H d kvs) : (d == sysModules) = false ∧ ∃ xs, KX X.K H kvs xs ∧ H d = some (.ext (dxO X.prog X.w d xs)) ∧ s.heap.DictOfH (tupleKind (mixKind X.prog X.w)) d xs := by
  obtain ⟨_, xs, r, e⟩ := h
  obtain ⟨⟨y, o, es, ep, h1, h2, h3, h4, h5⟩, _⟩ := (show ObjOk X.prog X.w H s.heap d (.ext (dxO X.prog X.w d xs)) from I.hok d _ e)
  refine ⟨y, xs, r, e, o, es, ep, h1, h2, h3, h4, fun x hx => ?_, h5⟩
  have all : ∀ {l : List (List Key × V)} {m : List (List Key × Addr × Value)}, KX X.K H l m → ∀ x ∈ m, (tupleKind (mixKind X.prog X.w)).is s.heap x.1 x.2.1 := by
    intro l m q
    induction q with
    | nil => intro x hx; exact nomatch hx
    | @cons p q ps qs hq t ih =>
      intro x hx
      rcases List.mem_cons.mp hx with e | hx
      · subst e
        exact key_sq I (by rw [← hq.1]; exact hq.2.1)
      · exact ih x hx
  exact all r x hx
theorem sqT_but {K : PySem.W.Frag} {d q : Addr} {φ : Heap → Prop} {o : HO} {xs : List V} (h : SqT K H q xs) (e : H d = some (.ext φ)) : SqT K (upd H d o) q xs := by
  rcases h with h | h
  · refine .inl ?_
    rcases h with h | ⟨u, h⟩
    · exact .inl (by rw [upd_ne (fun z => by rw [z, e] at h; cases h)]; exact h)
    · exact .inr ⟨u, by rw [upd_ne (fun z => by rw [z, e] at h; cases h)]; exact h⟩
  · exact .inr h
end
section
variable {X : Cx} {o i e value : Expr} {pos pos' tpos : Pos} {td ty tv : TE}
def tDNewX (P : Program) (w : World) (K : PySem.W.Frag) : TE := fun _ H Q => ∀ p u, H p = none → Dtx P w K (upd H p u) p [] → Q (.ref p) (upd H p u)
theorem pe_dnewX : PE X (.Dict [] [] pos) (tDNewX X.prog X.w X.K) := ⟨fun pins s σ H Q I h =>
  wpAny_Dict_empty ⟨.ref s.heap.objs.size, _, I.laid (a := s.heap.objs.size) (o := .ext (dxO X.prog X.w s.heap.objs.size [])) (t' := s.toks) (fun _ _ q => Heap.get?_push_of_some _ q) (Nat.le_refl _)
    (dxO_ok ⟨beq_eq_false_iff_ne.mpr (Ne.symm (Nat.ne_of_lt I.big)), _, #[], 0, Heap.get?_push_size _ rfl, ⟨rfl, rfl, rfl⟩, rfl, rfl, List.nodup_nil⟩), rfl,
    h _ _ (I.hok.fresh (Nat.le_refl _)) ⟨Nat.zero_le _, [], .nil, upd_same⟩⟩⟩
def tDInX (P : Program) (w : World) (K : PySem.W.Frag) (ty td : TE) : TE := fun σ H Q => ty σ H fun y H1 => td σ H1 fun x H2 => ∃ d b kvs k, x = .ref d ∧ y = .ref b ∧ Dtx P w K H2 d kvs ∧ SqT K H2 b (k.map kV) ∧ Q (.bl (valV kvs k).isSome) H2
theorem pc_dinX (hu : X.A.units + 1 < cLine) (hi : PE X i ty) (ho : PE X o td) : PC X .In i o (tDInX X.prog X.w X.K ty td) := by
  refine ⟨fun pins s σ H Q I h => ?_⟩
  refine thn (hi.run pins s σ H _ I h) fun iv s1 ⟨y, H1, I1, ry, q1⟩ => thn (ho.run pins s1 σ H1 _ I1 q1) fun u s2 ⟨x, H2, I2, rx, d, b, kvs, k, ex, ey, hd, hk, q2⟩ => ?_
  subst ex ey
  obtain rfl : u = Value.ref d := rx
  obtain rfl : iv = Value.ref b := ry
  obtain ⟨ns, xs, rel, _, dd⟩ := dx_at I2 hd
  refine wpAny_in_heap (tupleKind_room_in1 hu) (key_sq I2 hk) ns dd ?_
  have q := (rel.val k).isSome_eq
  rw [Option.isSome_map] at q
  rw [← q]
  exact ⟨.bl _, H2, I2.tok _, rfl, q2⟩
def tDGetX (P : Program) (w : World) (K : PySem.W.Frag) (td ty : TE) : TE := fun σ H Q => td σ H fun x H1 => ty σ H1 fun y H2 => ∃ d b kvs k v, x = .ref d ∧ y = .ref b ∧ Dtx P w K H2 d kvs ∧ SqT K H2 b (k.map kV) ∧ valV kvs k = some v ∧ Q v H2
theorem pe_dgetX (hu : X.A.units + 1 < cLine) (ho : PE X o td) (hi : PE X i ty) (hs : NoSl i) : PE X (.Subscript o i pos) (tDGetX X.prog X.w X.K td ty) := by
  refine ⟨fun pins s σ H Q I h => ?_⟩
  refine subD_of PySem.F.slot_dict_getitem.lookup hs (thn (ho.run pins s σ H _ I h) fun u s1 ⟨x, H1, I1, rx, q1⟩ => thn (hi.run pins s1 σ H1 _ I1 q1) fun iv s2 ⟨y, H2, I2, ry, d, b, kvs, k, v, ex, ey, hd, hk, l, q2⟩ => ?_)
  subst ex ey
  obtain rfl : u = Value.ref d := rx
  obtain rfl : iv = Value.ref b := ry
  obtain ⟨ns, xs, rel, _, dd⟩ := dx_at I2 hd
  refine ⟨dd.typeIs, ?_⟩
  obtain ⟨w', hw, rw'⟩ := RelO.some_of (v := v) (o := (atKey xs k).map (·.2)) (by rw [← l]; exact rel.val k)
  obtain ⟨p, hp, hp2⟩ := Option.map_eq_some_iff.mp hw
  refine wpAny_getItem_heap (tupleKind_room_in1 hu) (key_sq I2 hk) dd hp ?_
  rw [hp2]
  exact ⟨v, H2, I2.tok _, rw', q2⟩
def sDPutX (P : Program) (w : World) (K : PySem.W.Frag) (td ty tv : TE) : TS := fun D σ H => tv σ H fun v H1 => td σ H1 fun x H2 => ty σ H2 fun y H3 => ∃ d b kvs k, x = .ref d ∧ y = .ref b ∧ Dtx P w K H3 d kvs ∧ SqT K H3 b (k.map kV) ∧ valV kvs k = none ∧ kvs.length < sizeLine ∧
  ∀ u, Dtx P w K (upd H3 d u) d (kvs ++ [(k, v)]) → D.nx σ (upd H3 d u)
theorem ps_dputX (hu : X.A.units + 1 < cLine) (ho : PE X o td) (hi : PE X i ty) (hv : PE X value tv) (hs : swapsWith value (some (.Subscript o i pos')) pos.line X.env = pure false) :
    PS X (.Assign [.Subscript o i pos'] value pos) (sDPutX X.prog X.w X.K td ty tv) := by
  refine ⟨fun pins s σ H D I h => ?_⟩
  refine wpAny_Assign_Subscript (thn (hv.run pins s σ H _ I h) fun r s1 ⟨v, H1, I1, rv, q1⟩ => thn (ho.run pins s1 σ H1 _ I1 q1) fun u s2 ⟨x, H2, I2, rx, q2⟩ => thn (hi.run pins s2 σ H2 _ I2 q2) fun iv s3 ⟨y, H3, I3, ry, d, b, kvs, k, ex, ey, hd, hk, nk, hl, q3⟩ => ?_) hs
  subst ex ey
  obtain rfl : u = Value.ref d := rx
  obtain rfl : iv = Value.ref b := ry
  obtain ⟨ns, xs, rel, hH, dd⟩ := dx_at I3 hd
  have hz : xs.length ≤ sizeLine := by rw [← Paired.length rel]; omega
  have ak : atKey xs k = none := by
    have := (rel.val k).isSome_eq
    rw [nk, Option.isSome_map] at this
    cases q : atKey xs k with
    | none => rfl
    | some z => rw [q] at this; cases this
  refine wpAny_setItem_heap (hsz := hz) (tupleKind_room_in1 hu) (key_sq I3 hk) dd fun h' dd' hs => ?_
  rw [storedH_new ak] at dd'
  obtain ⟨q, es, ep, hq, h2, h3, h4, _, h5⟩ := dd'
  refine ⟨σ, _, d_write (ob := .ext (dxO X.prog X.w d (xs ++ [(k, b, r)]))) I3 (by rw [hH]; exact True.intro) hs ⟨q, hq⟩ (dxO_ok ⟨ns, q, es, ep, hq, h2, h3, h4, h5⟩), q3 _ ⟨by rw [List.length_append, List.length_singleton]; omega, _, ?_, upd_same⟩⟩
  exact Paired.snoc (Paired.mapP rel fun _ _ z => ⟨z.1, sqT_but z.2.1 hH, z.2.2⟩) ⟨rfl, sqT_but hk hH, rv⟩
end
end Ew

set_option Elab.async false
set_option linter.all false
set_option maxRecDepth 100000
set_option maxHeartbeats 4000000
namespace K49
open PySem PySem.Spec PyProof.Rows L2 Ew
/-! ### where the spots stand -/
def plc : Nat → List Spot → List (List Key × V)
  | _, [] => []
  | n, p :: ps => (spK p, .int (n : Nat)) :: plc (n + 1) ps
theorem plc_len : ∀ (n : Nat) (ps : List Spot), (plc n ps).length = ps.length
  | _, [] => rfl
  | n, p :: ps => by rw [plc, List.length_cons, List.length_cons, plc_len]
theorem plc_snoc : ∀ (n : Nat) (ps : List Spot) (p : Spot), plc n (ps ++ [p]) = plc n ps ++ [(spK p, .int ((n + ps.length : Nat) : Int))]
  | _, [], _ => rfl
  | n, q :: ps, p => by
    rw [List.cons_append, plc, plc_snoc, plc, List.cons_append, List.length_cons]
    congr 5
    omega
theorem plc_none : ∀ {n : Nat} {ps : List Spot} {p : Spot}, p ∉ ps → valV (plc n ps) (spK p) = none
  | _, [], _, _ => rfl
  | n, q :: ps, p, h => by
    rw [plc, valV_neg (fun z => h (by rw [spK_inj z]; exact List.mem_cons_self))]
    exact plc_none fun z => h (List.mem_cons_of_mem _ z)
theorem plc_some : ∀ {n : Nat} {ps : List Spot} {p : Spot} {i : Nat}, ps.Nodup → ps[i]? = some p → valV (plc n ps) (spK p) = some (.int ((n + i : Nat) : Int))
  | _, [], _, _, _, h => by simp at h
  | n, q :: ps, p, 0, _, h => by
    cases h
    rw [plc, valV_pos rfl]
    rfl
  | n, q :: ps, p, i + 1, nd, h => by
    rw [List.nodup_cons] at nd
    have h : ps[i]? = some p := h
    rw [plc, valV_neg (fun z => nd.1 (by rw [spK_inj z]; exact List.mem_of_getElem? h)), plc_some nd.2 h]
    congr 3
    omega
theorem plc_in : ∀ {n : Nat} {ps : List Spot} {p : Spot}, p ∈ ps → (valV (plc n ps) (spK p)).isSome = true
  | n, q :: ps, p, h => by
    rw [plc]
    by_cases c : q = p
    · rw [valV_pos (by rw [c])]
      rfl
    · rw [valV_neg (fun z => c (spK_inj z))]
      refine plc_in ?_
      rcases List.mem_cons.mp h with h | h
      · exact absurd h.symm c
      · exact h
theorem walk_enumT {K : PySem.W.Frag} {a : Addr} {xs : List V} : Walk (IteT K a) xs.length (fun H => SqT K H a xs) (YPair (fun i => some (.int (i : Nat))) (fun i => xs[i]?)) := by
  refine ⟨fun i _ hi q => ⟨xs, xs[i], q, by simp [hi]⟩, fun _ q => ⟨xs, q, rfl⟩, fun i H v H' _ q y => ?_⟩
  obtain ⟨T, x, h1, h2, h3, h4⟩ := y
  exact ⟨T, .int (i : Nat), x, h1, h2, h3, rfl, h4 xs q⟩
theorem for_enum {K : PySem.W.Frag} {t : Bool} {H : Hp} {p : Addr} {xs : List V} {σ : L2.St} {g : TG} {tb : TS} {D : Ends} {i : Nat} (h0 : σ[i]? = some (some (.ref p))) (hp : Sq K t H p xs) (Pv : Nat → L2.St → Hp → Prop) (a0 : Pv 0 σ H) (hG : ∀ i σ H', Pv i σ H' → Sq K t H' p xs)
    (hs : ∀ i x σ H H', i < xs.length → Pv i σ H → YPair (fun i => some (.int (i : Nat))) (fun i => xs[i]?) i H x H' → g x σ H' fun σ2 H2 => tb { D with nx := Pv (i + 1), ct := Pv (i + 1), bk := D.nx } σ2 H2) (hd : ∀ σ H, Pv xs.length σ H → D.nx σ H) :
    tFor (fun σ H R => iEnum K (tCons (tVar i) tNil) σ H R ∨ iEnumT K (tCons (tVar i) tNil) σ H R) g tb D σ H := by
  cases t
  · exact .inl ⟨_, h0, p, xs, rfl, hp, for_it walk_enum Pv a0 (fun i σ H' _ z => hG i σ H' z) hs hd⟩
  · exact .inr ⟨_, h0, p, xs, rfl, hp, for_it walk_enumT Pv a0 (fun i σ H' _ z => hG i σ H' z) hs hd⟩
theorem arg1 (sp : Sp) {v : V} {σ : L2.St} {H : Hp} {Q : VK} {E : XK} (h : sp [v] H Q E) : tNil σ H fun xs H2 => sp ((v :: xs) ++ []) H2 Q E := h
theorem arg2 (sp : Sp) {u v : V} {σ : L2.St} {H : Hp} {Q : VK} {E : XK} (h : sp [u, v] H Q E) : tNil σ H fun xs H2 => sp ((u :: v :: xs) ++ []) H2 Q E := h
theorem arg3 (sp : Sp) {u v x : V} {σ : L2.St} {H : Hp} {Q : VK} {E : XK} (h : sp [u, v, x] H Q E) : tNil σ H fun xs H2 => sp ((u :: v :: x :: xs) ++ []) H2 Q E := h
section
variable {P : Program} {w : World} {K : PySem.W.Frag} {mg : Str → Option Value} {base : Heap} {a : Ad}
/-- a row of spots at p -/
def Sps (K : PySem.W.Frag) (t : Bool) (H : Hp) (p : Addr) (ps : List Spot) : Prop := ∃ us, Sq K t H p us ∧ Paired (fun v q => Spt K H v q) us ps
theorem Sps.up {t : Bool} {H H' : Hp} {p : Addr} {ps : List Spot} (h : Sps K t H p ps) (e : Same H H') : Sps K t H' p ps := by
  obtain ⟨us, h1, h2⟩ := h
  exact ⟨us, h1.up e, Paired.mapP h2 fun _ _ z => z.up e⟩
/-- what is told when an error leaves -/
def RaH (H : Hp) (E : XK) (C : Addr) (post : Hp → Addr → Prop) : Prop := ∀ H' d, Same H H' → post H' d → E (.ref C) (some d) H'
theorem Sps.its {t : Bool} {H : Hp} {p : Addr} {ps : List Spot} (h : Sps K t H p ps) : Its K t H p (ps.map spD) := by
  obtain ⟨us, h1, h2⟩ := h
  refine ⟨us, h1, dp_of (by rw [List.length_map, Paired.length h2]) fun i u d e1 e2 => ?_⟩
  obtain ⟨s, hs, hq⟩ := paired_get h2 e1
  rw [List.getElem?_map, hs] at e2
  cases e2
  exact hq.dp
theorem sps_of {H : Hp} : ∀ {us : List V} {ps : List Spot}, DpAll K H us (ps.map spD) → Paired (fun v q => Spt K H v q) us ps
  | _, [], h => by cases h; exact .nil
  | _, p :: ps, h => by
    rw [List.map_cons] at h
    cases h with
    | cons h t => exact .cons (dp_sps h) (sps_of t)
theorem Its.sps {t : Bool} {H : Hp} {p : Addr} {ps : List Spot} (h : Its K t H p (ps.map spD)) : Sps K t H p ps := by
  obtain ⟨us, h1, h2⟩ := h
  exact ⟨us, h1, sps_of h2⟩
def sp_places_of (P : Program) (w : World) (K : PySem.W.Frag) (a : Ad) : Sp := fun vs H Q E => ∃ (p : Addr) (ds : List PyData), vs = [.ref p] ∧ Its K true H p ds ∧ ds.length ≤ 1000 ∧ (∀ d ∈ ds, Fl 2 d) ∧
  (∀ ps, ds = ps.map spD → OkS ps → ∀ H' d, Same H H' → Dtx P w K H' d (plc 0 ps) → H d = none → Q (.ref d) H') ∧ (∀ i, BadS ds i → RaH H E a.BadSpot fun H' d => H' d = some (.xd [("place", .int (i : Nat))]))
theorem c_places_of (T : Txt K mg a) : ClN P w K mg base 3 "places_of" P_places_of (sp_places_of P w K a) [] :=
  T.d_places_of.clN sc_places_of (fun vs H Q E h => by obtain ⟨p, ps, rfl, _⟩ := h; rfl) fun f cdv A outer s H vs Q E hr h => by
    obtain ⟨p, ds, rfl, ⟨us, hp, pr⟩, le, fl, k, kb⟩ := h
    have hl : us.length = ds.length := dpAll_len pr
    refine ⟨_, ((pss_cons (ps_if (pt_cmpR op_eq (pe_callB call_len_seq (by rfl) T.n_len (by decide +kernel) (pa_cons (pv 0) pa_nil)) pe_int (nomark _))
 (pss_one (ps_raise1N rfl (L2N.takes_of rfl rfl rfl rfl) (x_BadSpot T) hr (by decide) rfl pe_int))
 pss_nil)
 (pss_cons (ps_set (i := 1) sc_places_of.nd rfl (Or.inl rfl) pe_dnewX)
 (pss_cons (ps_for (passes_of rfl) rfl (pi_enumX (by rfl) T.n_enumerate (pa_cons (pv 0) pa_nil)) (pg_tup rfl (pgs_cons (pg_name (i := 2) sc_places_of.nd rfl (Or.inl rfl)) (pgs_cons (pg_name (i := 3) sc_places_of.nd rfl (Or.inl rfl)) pgs_nil)))
 (pss_cons (ps_if (PW.pt (pw_or (pt_not (pt_val (pe_f (c_is_spot T) takes0 hr (by decide) rfl (pa_cons (pv 3) pa_nil)))) (pw_or1 (pt_cmp (pc_dinX (hu_of hr) (pv 3) (pv 1)) rfl))))
 (pss_one (ps_raise1N rfl (L2N.takes_of rfl rfl rfl rfl) (x_BadSpot T) hr (by decide) rfl (pv 2)))
 pss_nil)
 (pss_cons (ps_if (PW.pt (pw_and (pt_cmpR op_eq (pv 2) pe_int (nomark _)) (pw_and1 (pt_cmpR (op_neD hr.units) (pv 3) (pe_glob (by rfl) T.k_GROUND rfl (v := .ref a.aG)) (nomark _)))))
 (pss_one (ps_raise1N rfl (L2N.takes_of rfl rfl rfl rfl) (x_BadSpot T) hr (by decide) rfl (pv 2)))
 pss_nil)
 (pss_one (ps_dputX (hu_of hr) (pv 1) (pv 3) (pv 2) rfl)))))
 (pss_one (ps_ret (pv 1))))))), ?_⟩
    refine ⟨_, rfl, p, us, rfl, .inr hp, rfl, _, rfl, ?_⟩
    by_cases e0 : ds = []
    · subst e0
      refine iteY (vint_eq (by rw [hl]; rfl)) fun d hd => ?_
      exact kb 0 (.inl ⟨rfl, rfl⟩) _ d (same_new hd) upd_same
    have pos : 0 < ds.length := List.length_pos_iff.mpr e0
    refine iteN (vint_ne (by omega)) ?_
    refine fun D o0 hD d0 => ?_
    dsimp only [gName]
    refine seq_in ?_
    refine for_enum (t := true) (i := 0) rfl (hp.up (same_new hD)) (fun j σ' H' => ∃ c2 c3 ps, σ' = [some (.ref p), some (.ref D), c2, c3] ∧ Same H H' ∧ ds.take j = ps.map spD ∧ Dtx P w K H' D (plc 0 ps) ∧ ∀ i, i < j → okA ds i) ?_ ?_ ?_ ?_
    · exact ⟨none, none, [], rfl, same_new hD, rfl, d0, fun i hi => absurd hi (Nat.not_lt_zero i)⟩
    · rintro j σ' H' ⟨c2, c3, _, _, e1, _⟩
      exact hp.up e1
    · rintro j _ _ H2 _ hj ⟨c2, c3, ps, rfl, e1, tk1, d1, oks⟩ ⟨U, y, x, rfl, hU, rfl, ey, hx⟩
      cases ey
      obtain ⟨dj, hdj, hq⟩ := dpAll_get pr hx
      have e3 := e1.trans (same_new (o := .tup [.int (j : Nat), x]) hU)
      have d3 := d1.up (same_new (o := .tup [.int (j : Nat), x]) hU)
      refine ⟨U, _, rfl, sq_new, rfl, _, _, rfl, _, _, rfl, rfl, ?_⟩
      generalize upd H2 U (.tup [.int (j : Nat), x]) = H3 at e3 d3
      have tl : ps.length = j := by
        have := congrArg List.length tk1
        rw [List.length_take, List.length_map] at this
        omega
      have bad : ¬ okA ds j → ∀ d, H3 d = none → E (.ref a.BadSpot) (some d) (upd H3 d (.xd [("place", .int (j : Nat))])) := fun z d hd => kb j (.inr ⟨by omega, oks, z⟩) _ d (e3.trans (same_new hd)) upd_same
      have hq3 := dp_up e3 hq
      refine ⟨_, rfl, arg1 (sp_is_spot K) (is_spotD hq3 ?_)⟩
      cases ea : asSp dj with
      | none =>
        refine ⟨_, rfl, iteT ⟨_, rfl, fun d hd => bad (fun ⟨s, h1, _⟩ => ?_) d hd⟩⟩
        rw [hdj] at h1
        cases h1
        rw [asSp_sp] at ea
        cases ea
      | some sj =>
      obtain rfl := asSp_some ea
      obtain ⟨q, rfl, hs⟩ := dp_sps hq3
      refine ⟨_, rfl, iteF ?_⟩
      refine ⟨_, rfl, _, rfl, D, q, _, spK sj, rfl, rfl, d3, hs, _, rfl, ?_⟩
      have okj : okA ds j ↔ sj ∉ ps ∧ (j = 0 → sj = ground) := by
        constructor
        · rintro ⟨s, h1, h2, h3⟩
          rw [hdj] at h1
          have := spD_inj (Option.some.inj h1)
          subst this
          exact ⟨fun z => h2 (by rw [tk1]; exact List.mem_map.mpr ⟨_, z, rfl⟩), h3⟩
        · rintro ⟨h2, h3⟩
          refine ⟨sj, hdj, fun z => h2 ?_, h3⟩
          rw [tk1] at z
          obtain ⟨y, z1, z2⟩ := List.mem_map.mp z
          rw [← spD_inj z2]
          exact z1
      by_cases hin : sj ∈ ps
      · rw [plc_in hin]
        refine iteT ⟨_, rfl, fun d hd => bad (fun z => (okj.mp z).1 hin) d hd⟩
      rw [plc_none hin]
      refine iteF ⟨_, rfl, rfl, _, rfl, ?_⟩
      have fin : okA ds j → ∀ Dn : Ends, (∀ u, ds.take (j + 1) = (ps ++ [sj]).map spD → Dtx P w K (upd H3 D u) D (plc 0 (ps ++ [sj])) → (∀ i, i < j + 1 → okA ds i) → Dn.nx [some (.ref p), some (.ref D), some (.int (j : Nat)), some (.ref q)] (upd H3 D u)) →
          sDPutX P w K (tVar 1) (tVar 3) (tVar 2) Dn [some (.ref p), some (.ref D), some (.int (j : Nat)), some (.ref q)] H3 := fun hok Dn z => by
        refine ⟨_, rfl, _, rfl, _, rfl, D, q, _, spK sj, rfl, rfl, d3, hs, plc_none hin, by rw [plc_len, tl, sizeLine_eq]; omega, fun u hu => z u ?_ ?_ fun i hi => ?_⟩
        · rw [List.take_add_one, hdj, tk1, List.map_append]
          rfl
        · rw [plc_snoc, tl, Nat.zero_add]
          exact hu
        · by_cases c : i < j
          · exact oks i c
          · rw [show i = j by omega]
            exact hok
      have last : ∀ u, ds.take (j + 1) = (ps ++ [sj]).map spD → Dtx P w K (upd H3 D u) D (plc 0 (ps ++ [sj])) → (∀ i, i < j + 1 → okA ds i) → ∃ c2 c3 ps', ([some (.ref p), some (.ref D), some (.int (j : Nat)), some (.ref q)] : L2.St) = [some (.ref p), some (.ref D), c2, c3] ∧ Same H (upd H3 D u) ∧ ds.take (j + 1) = ps'.map spD ∧ Dtx P w K (upd H3 D u) D (plc 0 ps') ∧ ∀ i, i < j + 1 → okA ds i :=
        fun u ht hu ho => ⟨_, _, _, rfl, same_mut e3 hD, ht, hu, ho⟩
      by_cases h0 : j = 0
      · subst h0
        refine iteY (vint_eq rfl) ⟨_, rfl, spD sj, spD ground, dp_sp hs, dp_sp (T.t_GROUND _), (fl _ (List.mem_of_getElem? hdj)).sh (by decide), (fl_sp (by decide +kernel)).sh (by decide), _, rfl, ?_⟩
        rw [eqv_sp]
        by_cases hg : sj = ground
        · rw [decide_eq_true hg]
          exact iteF (fin (okj.mpr ⟨hin, fun _ => hg⟩) _ last)
        · rw [decide_eq_false hg]
          exact iteT ⟨_, rfl, fun d hd => bad (fun z => hg ((okj.mp z).2 rfl)) d hd⟩
      · exact iteN (vint_ne (by omega)) (fin (okj.mpr ⟨hin, fun z => absurd z h0⟩) _ last)
    · rintro _ H2 ⟨c2, c3, ps, rfl, e1, tk1, d1, oks⟩
      rw [hl, List.take_length] at tk1
      subst tk1
      rw [List.length_map] at pos le
      refine ⟨_, rfl, k ps rfl (OkS.of_A (fun j hj => oks j (by rw [hl, List.length_map]; exact hj)) (fun s hs => fl_str (fl _ (List.mem_map.mpr ⟨s, hs, rfl⟩))) le pos) _ _ e1 d1 hD⟩
end
end K49

set_option Elab.async false
set_option linter.all false
set_option maxRecDepth 100000
set_option maxHeartbeats 4000000
namespace Ew
open PySem PySem.Spec PyProof.Rows L2
/-! ### a token is out behind a test -/
section
variable {X : Cx}
structure PTk (X : Cx) (e : Expr) (t : TT) : Prop where
  run : ∀ (pins : List (Addr × Obj)) (s : Shared) (σ : L2.St) (H : Hp) (Q : Bool → Hp → Prop), Inv X pins σ H s → t σ H Q → wpAny (model X.prog X.w) X.A (isTrue e X.env (eval e X.env)) (fun b s' => 1 ≤ s'.toks ∧ TP X pins σ Q b s') X.xe s
theorem ptk_cmp {op : CmpOp} {r : R2} {a : Expr} {ta : TE} {i : Int} {j : Nat} {p pos : Pos} (ho : OpR X (compareOp op) r) (ha : PE X a ta) (hm : behindInMarks op (.Constant (.int i) j p) = false) :
    PTk X (.Compare a [op] [.Constant (.int i) j p] pos) (tTest (tOp r ta (tC (.int i)))) := by
  refine ⟨fun pins s σ H Q I h => wpAny_isTrue_Compare1 (thn (ha.run pins s σ H _ I h) fun v s1 ⟨x, H1, I1, r1, q1⟩ => wpAny_Constant_int ?_) hm⟩
  have I2 : Inv X pins σ H1 { s1 with toks := s1.toks + 1 } := I1.tok _
  have go := ho pins _ σ H1 x (.int i) v (.int i s1.toks) _ I2 r1 ⟨_, rfl⟩ q1
  refine wpAny_mono (PySem.wpAny_toks_of (n := 1) (by show 1 ≤ s1.toks + 1; omega) go) (fun c s3 ⟨hk, z, H3, I3, r3, k, e, q3⟩ => ?_) fun _ _ z => z.2
  subst e
  cases r3
  exact wpAny_truthy_bool ⟨hk, H3, I3, q3⟩
theorem ptk_or {a b : Expr} {rest : List Expr} {pos : Pos} {ta tb : TT} (ha : PTk X a ta) (hb : PW X (.BoolOp .Or (b :: rest) pos) tb) : PTk X (.BoolOp .Or (a :: b :: rest) pos) (tOr ta tb) := by
  refine ⟨fun pins s σ H Q I h => isTrue_or (thn (ha.run pins s σ H _ I h) fun c s1 ⟨hk, H1, I1, q1⟩ => ?_)⟩
  cases c with
  | true => exact ⟨hk, H1, I1, q1⟩
  | false => exact wpAny_mono (PySem.wpAny_toks_of hk (hb.run _ pins s1 σ H1 Q I1 q1)) (fun _ _ z => z) fun _ _ z => z.2
theorem pss_ifK {c : Expr} {a b rest : List Stmt} {pos : Pos} {tc : TT} {t u v : TS} (hc : PTk X c tc) (ha : PSs X a t) (hb : PSs X b u) (hr : PSsT X rest v) : PSs X (.If c a b pos :: rest) (tSeq (tIfS tc t u) v) := by
  refine ⟨fun pins s σ H D I h => ?_⟩
  refine wpAny_execs_cons (wpAny_If (thn (hc.run pins s σ H _ I h) fun d s1 ⟨hk, H1, I1, q1⟩ => ?_))
  have fin : ∀ {w : Sem Flow} {E : Value → Shared → Prop}, wpAny (model X.prog X.w) X.A w (SP X pins { D with nx := v D }) E s1 → wpAny (model X.prog X.w) X.A w (fun f s2 => 1 ≤ s2.toks ∧ SP X pins { D with nx := v D } f s2) E s1 := fun z => wpAny_mono (PySem.wpAny_toks_of hk z) (fun _ _ z => z) fun _ _ z => z.2
  have on : ∀ {f : Flow} {s2 : Shared}, 1 ≤ s2.toks ∧ SP X pins { D with nx := v D } f s2 → _ := fun {f s2} z => z
  cases d with
  | true =>
    refine thn (fin (ha.run pins s1 σ H1 { D with nx := v D } I1 q1)) fun f s2 ⟨k2, q⟩ => ?_
    cases f with
    | next =>
      obtain ⟨σ', H', I', q⟩ := q
      exact hr pins s2 σ' H' D k2 I' q
    | ret v => exact q
    | brk => exact q
    | cont => exact q
  | false =>
    refine thn (fin (hb.run pins s1 σ H1 { D with nx := v D } I1 q1)) fun f s2 ⟨k2, q⟩ => ?_
    cases f with
    | next =>
      obtain ⟨σ', H', I', q⟩ := q
      exact hr pins s2 σ' H' D k2 I' q
    | ret v => exact q
    | brk => exact q
    | cont => exact q
theorem pst_set {i : Nat} {x : Str} {e : Expr} {te : TE} {pos pos' : Pos} (hN : X.N.Nodup) (hi : X.N[i]? = some x) (hx : Loc X.env.scope x) (he : PET X e te) (hs : swapsWith e (some (.Name x pos')) pos.line X.env = pure false := by rfl) (hf : X.fn x = true ∨ X.env.scope.names.lookup x = some .local := by first | exact .inl rfl | exact .inr rfl | assumption) :
    PST X (.Assign [.Name x pos'] e pos) (tAsg te (gName i)) := fun pins s σ H D h0 I h =>
  wpAny_Assign_Name (thn (he pins s σ H _ h0 I h) fun v s1 ⟨y, H1, I1, r1, q1⟩ => store_ok I1 hN hi hx r1 (fun s2 I2 => ⟨_, H1, I2, q1⟩) hf) hs
theorem pet_m1 {nm : String} {name : Str} {o e : Expr} {to te : TE} {apos pos : Pos} {r : V → List V → Hp → VK → Prop} (slot : Slot "str" name nm) (ty : typeOf (.builtin nm) = pure (.type "method_descriptor")) (rule : MtR X nm r) (ho : PET X o to) (he : PE X e te)
    (hs : starEach [e] X.env = [(false, eval e X.env)] := by rfl) (hbase : attributeBase o name X.env (eval o X.env) = eval o X.env := by rfl) (hline : (apos.endLine == pos.line) = true := by rfl) :
    PET X (.Call (.Attribute o name apos) [e] [] pos) (tM1 r to te) := by
  intro pins s σ H Q h0 I h
  refine PySem.Call_method1 hbase hs hline (thn (ho pins s σ H _ h0 I h) fun v s1 ⟨x, H1, I1, r1, ⟨a, ex⟩, q1⟩ => ?_)
  subst ex
  obtain ⟨t, rfl⟩ := id r1
  refine ⟨"str", _, F.plainAttrs_str, slot, ty, typeIs_str _ _ _, (fun _ e => nomatch e), Calls.callWith_builtin rfl (Calls.evalArgs_plain (Calls.spliced_cons ?_))⟩
  exact thn (he.run pins s1 σ H1 _ I1 q1) fun u s2 ⟨y, H2, I2, r2, q2⟩ => Calls.spliced_nil (rule pins s2 σ H2 _ [y] _ [u] Q I2 r1 (.cons r2 .nil) q2)
end
end Ew

set_option Elab.async false
set_option linter.all false
set_option maxRecDepth 100000
set_option maxHeartbeats 4000000
namespace Ew
open PySem PySem.Spec PyProof.Rows L2
/-! ### tuples joined, cut, told many times: whichever object it is that comes out -/
section
variable {X : Cx}
def rCatF (K : PySem.W.Frag) : R2 := fun x y H Q => ∃ (F0 H0 F : Hp) (a b : Addr) (xs ys : List V), Stp F0 H0 F H ∧ x = .ref a ∧ y = .ref b ∧ SqT K F a xs ∧ SqT K F b ys ∧ xs.length + ys.length ≤ sizeLine ∧
  ∀ p F' H', Stp F0 H0 F' H' → Same F F' → SqT K F' p (xs ++ ys) → Q (.ref p) H'
theorem op_catF : OpR X (binaryOp .Add) (rCatF X.K) := by
  intro pins s σ H x y v u Q I rx ry h
  obtain ⟨F0, H0, F, a, b, xs, ys, s1, rfl, rfl, ha, hb, hl, q⟩ := h
  refine op_catA pins s σ H _ _ v u Q I rx ry ⟨a, b, xs, ys, rfl, rfl, upT s1.fh ha, upT s1.fh hb, hl, fun e => ?_, fun n e => ?_, fun n1 n2 p hp => ?_⟩
  · subst e; exact q b F H s1 (Same.refl F) hb
  · subst e; exact q a F H s1 (Same.refl F) (by rw [List.append_nil]; exact ha)
  · exact q p _ _ (s1.newP hp) (same_new (s1.fh.free hp)) sq_new
def rSlF (K : PySem.W.Frag) : V → Option Int → Option Int → Hp → VK → Prop := fun x lo hi H Q => ∃ (F0 H0 F : Hp) (a : Addr) (xs : List V), Stp F0 H0 F H ∧ x = .ref a ∧ SqT K F a xs ∧
  ∀ p F' H', Stp F0 H0 F' H' → Same F F' → SqT K F' p (cutV xs lo hi) → Q (.ref p) H'
theorem sl_tupF : SlR X (rSlF X.K) := by
  intro pins s σ H x v vl vu lo hi sl Q I rx hs pl pu h
  obtain ⟨F0, H0, F, a, xs, s1, rfl, ha, q⟩ := h
  refine sl_tupA pins s σ H _ v vl vu lo hi sl Q I rx hs pl pu ⟨a, xs, rfl, upT s1.fh ha, fun e => ?_, fun n p hp => ?_⟩
  · refine q a F H s1 (Same.refl F) ?_
    have : cutV xs lo hi = xs := by
      unfold cutV
      rw [e.1, e.2]
      simp
    rw [this]
    exact ha
  · exact q p _ _ (s1.newP hp) (same_new (s1.fh.free hp)) sq_new
def rRepF (K : PySem.W.Frag) : R2 := fun x y H Q => ∃ (F0 H0 F : Hp) (a : Addr) (k : Int) (xs : List V), Stp F0 H0 F H ∧ x = .ref a ∧ y = .int k ∧ SqT K F a xs ∧ xs ≠ [] ∧ 1 ≤ k ∧ k ≤ 1000 ∧ xs.length ≤ 1000 ∧
  ∀ p F' H', Stp F0 H0 F' H' → Same F F' → SqT K F' p (List.replicate k.toNat xs).flatten → Q (.ref p) H'
theorem op_repF : OpR X (binaryOp .Mult) (rRepF X.K) := by
  intro pins s σ H x y v u Q I rx ry h
  obtain ⟨F0, H0, F, a, k, xs, s1, rfl, rfl, ha, hn, k1, k2, hl, q⟩ := h
  refine op_repA pins s σ H _ _ v u Q I rx ry ?_
  by_cases e : k = 1
  · subst e
    refine .inr ⟨a, xs, rfl, rfl, upT s1.fh ha, q a F H s1 (Same.refl F) ?_⟩
    have : (List.replicate (1 : Int).toNat xs).flatten = xs := by simp
    rw [this]
    exact ha
  · exact .inl ⟨a, k, xs, rfl, rfl, upT s1.fh ha, hn, by omega, k2, hl, fun p hp => q p _ _ (s1.newP hp) (same_new (s1.fh.free hp)) sq_new⟩
end
/-! ### the text of a tuple of small ints -/
theorem showable_ints : ∀ {ds : List Int}, (∀ d ∈ ds, -9 ≤ d ∧ d ≤ 9) → PyData.showableAll (ds.map PyData.int) = true
  | [], _ => by rw [List.map_nil, PyData.showableAll]
  | d :: ds, h => by
    have := h d List.mem_cons_self
    have e : d.natAbs.log2 < 1920 := by
      have h1 : d.natAbs < 2 ^ 4 := by omega
      have := PySem.Flt.log2_lt_of (by decide : 0 < 4) h1
      omega
    rw [List.map_cons, PyData.showableAll, showable_ints fun x hx => h x (List.mem_cons_of_mem _ hx), PyData.showable, decide_eq_true e]
    rfl
theorem int_text {d : Int} (h : -9 ≤ d ∧ d ≤ 9) : (PyData.int d).shown.length ≤ 2 := by
  have : d = -9 ∨ d = -8 ∨ d = -7 ∨ d = -6 ∨ d = -5 ∨ d = -4 ∨ d = -3 ∨ d = -2 ∨ d = -1 ∨ d = 0 ∨ d = 1 ∨ d = 2 ∨ d = 3 ∨ d = 4 ∨ d = 5 ∨ d = 6 ∨ d = 7 ∨ d = 8 ∨ d = 9 := by omega
  rcases this with rfl | rfl | rfl | rfl | rfl | rfl | rfl | rfl | rfl | rfl | rfl | rfl | rfl | rfl | rfl | rfl | rfl | rfl | rfl <;> rw [PyData.shown] <;> decide +kernel
theorem piled_ints : ∀ {ds : List Int}, (∀ d ∈ ds, -9 ≤ d ∧ d ≤ 9) → piled (PyData.shownAll (ds.map PyData.int)) ≤ 4 * ds.length
  | [], _ => by rw [List.map_nil, PyData.shownAll]; exact Nat.zero_le _
  | d :: ds, h => by
    have h1 := int_text (h d List.mem_cons_self)
    have h2 := piled_ints fun x hx => h x (List.mem_cons_of_mem _ hx)
    rw [List.map_cons, PyData.shownAll, List.length_cons]
    unfold piled at h2 ⊢
    simp only [List.map_cons, List.sum_cons] at h2 ⊢
    omega
theorem shown_ints {ds : List Int} (h : ∀ d ∈ ds, -9 ≤ d ∧ d ≤ 9) (hl : ds.length ≤ 1000) : (intT ds).shown.length ≤ sizeLine := by
  unfold intT
  rw [PyData.shown]
  unfold tupleText
  have h2 := piled_ints h
  have e1 : (("(" : Str)).length = 1 := by decide +kernel
  have e2 : ∀ b : Bool, (Str.ofString (if b = true then ",)" else ")")).length ≤ 2 := by intro b; cases b <;> decide +kernel
  have e3 : (Str.join ", " (PyData.shownAll (ds.map PyData.int))).length ≤ 4 * ds.length := by
    by_cases hn : PyData.shownAll (ds.map PyData.int) = []
    · rw [hn]
      exact Nat.le_trans (by decide +kernel) (Nat.zero_le _)
    · have := join_length_add _ hn
      omega
  have e4 := e2 ((PyData.shownAll (ds.map PyData.int)).length == 1)
  rw [PySem.Str.length_append, PySem.Str.length_append, e1, sizeLine_eq]
  omega
end Ew

set_option Elab.async false
set_option linter.all false
set_option maxRecDepth 100000
set_option maxHeartbeats 4000000
namespace K49
open PySem PySem.Spec PyProof.Rows L2 Ew
/-! ### what a card is made of -/
theorem cut_to (xs : List V) (i : Nat) : cutV xs none (some (i : Int)) = xs.take i := by
  have e1 : HT.sIx xs.length 0 none = 0 := rfl
  have e2 : HT.sIx xs.length xs.length (some (i : Int)) = min i xs.length := by rw [HT.sIx_nat]
  unfold cutV
  rw [e1, e2, List.drop_zero, Nat.sub_zero]
  rcases Nat.le_total i xs.length with h | h
  · rw [Nat.min_eq_left h]
  · rw [Nat.min_eq_right h, List.take_of_length_le (Nat.le_refl _), List.take_of_length_le h]
section
variable {K : PySem.W.Frag} {t : Bool} {H : Hp} {p : Addr} {us : List V}
theorem slice_to {Q : VK} {n : Nat} (hp : Sq K t H p us) (k : ∀ H' q, Same H H' → Sq K t H' q (us.take n) → Q (.ref q) H') : rSlL K (.ref p) none (some ((n : Nat) : Int)) H Q ∨ rSlF K (.ref p) none (some ((n : Nat) : Int)) H Q := by
  have e : cutV us none (some ((n : Nat) : Int)) = us.take n := cut_to us n
  cases t
  · refine .inl ⟨p, us, rfl, hp, fun q hq => ?_⟩
    rw [e]
    exact k _ q (same_new hq) (SqL.of upd_same)
  · refine .inr ⟨H, H, H, p, us, .refl (.refl H), rfl, hp, fun q F' H' s1 e1 z => ?_⟩
    rw [e] at z
    exact k H' q (s1.ff.trans s1.fh) (upT s1.fh z)
theorem ix_sq {xs : List V} {i : Int} {x : V} {Q : VK} (hp : Sq K t H p xs) (h : atI xs i = some x) (k : Q x H) : rIx K (.ref p) (.int i) H Q := by
  cases t
  · exact .inl ⟨p, xs, i, x, rfl, rfl, hp, h, k⟩
  · exact .inr (.inl ⟨p, xs, i, x, rfl, rfl, hp, h, k⟩)
theorem for_enumS {σ : L2.St} {g : TG} {tb : TS} {D : Ends} {i j n : Nat} (h0 : σ[i]? = some (some (.ref p))) (h1 : σ[j]? = some (some (.int ((n : Nat) : Int)))) (hp : Sq K t H p us) (Pv : Nat → L2.St → Hp → Prop) (a0 : ∀ H1, Same H H1 → Pv 0 σ H1)
    (hs : ∀ i x σ H2 H' (N : L2.St → Hp → Prop), i < (us.take n).length → Pv i σ H2 → YPair (fun i => some (.int (i : Nat))) (fun i => (us.take n)[i]?) i H2 x H' → (∀ σ' H4, Same H2 H4 → Pv (i + 1) σ' H4 → N σ' H4) → g x σ H' fun σ2 H3 => tb { D with nx := N, ct := N, bk := D.nx } σ2 H3)
    (hd : ∀ σ H, Pv (us.take n).length σ H → D.nx σ H) :
    tFor (fun σ H R => iEnum K (tCons (tSl (fun x lo hi H Q => rSlL K x lo hi H Q ∨ rSlF K x lo hi H Q) (tVar i) tNoPart (tPart (tVar j))) tNil) σ H R ∨ iEnumT K (tCons (tSl (fun x lo hi H Q => rSlL K x lo hi H Q ∨ rSlF K x lo hi H Q) (tVar i) tNoPart (tPart (tVar j))) tNil) σ H R) g tb D σ H := by
  cases t
  · refine .inl ⟨_, h0, _, h1, _, rfl, slice_to (t := false) hp fun H1 q e1 hq => ⟨q, us.take n, rfl, hq, ?_⟩⟩
    exact for_it walk_enum (fun i σ' H' => Pv i σ' H' ∧ Same H1 H') ⟨a0 H1 e1, .refl _⟩ (fun i σ' H' _ z => upL z.2 hq) (fun i x σ' H2 H' hi z y => hs i x σ' H2 H' _ hi z.1 y fun σ3 H4 e4 z4 => ⟨z4, z.2.trans e4⟩) fun σ' H' z => hd σ' H' z.1
  · refine .inr ⟨_, h0, _, h1, _, rfl, slice_to (t := true) hp fun H1 q e1 hq => ⟨q, us.take n, rfl, hq, ?_⟩⟩
    exact for_it walk_enumT (fun i σ' H' => Pv i σ' H' ∧ Same H1 H') ⟨a0 H1 e1, .refl _⟩ (fun i σ' H' _ z => upT z.2 hq) (fun i x σ' H2 H' hi z y => hs i x σ' H2 H' _ hi z.1 y fun σ3 H4 e4 z4 => ⟨z4, z.2.trans e4⟩) fun σ' H' z => hd σ' H' z.1
end
section
variable {P : Program} {w : World} {K : PySem.W.Frag} {mg : Str → Option Value} {base : Heap} {a : Ad}
theorem is_row {H : Hp} {t : Bool} {p : Addr} {xs : List V} {Q : VK} {E : XK} (h : Sq K t H p xs) (k : ∀ H', Same H H' → Q (.bl true) H') : sp_is_row K [.ref p] H Q E :=
  ⟨H, p, xs, rfl, h.row, .refl H, fun F' H' v s1 e => by subst e; exact k H' (s1.ff.trans s1.fh)⟩
def sp__judge_rows (K : PySem.W.Frag) (a : Ad) : Sp := fun vs H Q E => ∃ (t : Bool) (v : V) (n : Nat) (Rs : List (List PyData)), vs = [v, .int (n : Nat)] ∧ RoD K t H v Rs ∧ n ≤ 1000 ∧ (∀ f, Rs = tabL n f → Cld n f → ∀ H', Same H H' → Q .non H') ∧
  (∀ j, BadR n Rs j → RaH H E a.BadCard fun H' d => H' d = some (.xd [("place", .int (j : Nat))])) ∧ (BadE n Rs → RaH H E a.BadCard fun H' d => H' d = some (.xd [("place", .int (-1))]))
theorem c__judge_rows (T : Txt K mg a) : Cl P w K mg base 3 "_judge_rows" P__judge_rows (sp__judge_rows K a) [] :=
  T.d__judge_rows.cl sc__judge_rows (fun vs H Q E h => by obtain ⟨t, v, n, f, rfl, _⟩ := h; rfl) fun f cdv A outer s H vs Q E hr h => by
    obtain ⟨t, _, n, Rs, rfl, ⟨p, us, rfl, hp, hl, hu⟩, hn, k, kd, kt⟩ := h
    refine ⟨_, ((pss_cons (ps_set (i := 2) sc__judge_rows.nd rfl (Or.inl rfl) (pe_ifExp (pt_val (pe_f (c_is_row T) (takes_of rfl rfl rfl rfl) hr (by decide) rfl (pa_cons (pv 0) pa_nil))) (pv 0) (pe_tup pa_nil)))
 (pss_cons (ps_for (passes_of rfl) rfl (pi_enumX (by rfl) T.n_enumerate (pa_cons (pe_slice (sl_list.or sl_tupF) (pv 2) po_none (po_some (pv 1))) pa_nil)) (pg_tup rfl (pgs_cons (pg_name (i := 3) sc__judge_rows.nd rfl (Or.inl rfl)) (pgs_cons (pg_name (i := 4) sc__judge_rows.nd rfl (Or.inl rfl)) pgs_nil)))
 (pss_one (ps_if (PW.pt (pw_or (pt_not (pt_val (pe_f (c_is_row T) (takes_of rfl rfl rfl rfl) hr (by decide) rfl (pa_cons (pv 4) pa_nil)))) (pw_or (pt_cmpR op_ne (pe_callB call_len_seq (by rfl) T.n_len (by decide +kernel) (pa_cons (pv 4) pa_nil)) (pv 1) (nomark _)) (pw_or (pt_not (pt_val (pe_callB (cr_all rfl) (by rfl) T.n_all (by decide +kernel) (pa_cons (pe_lc (own := [("bound", 5)]) (g := (gName 5)) (by rfl) sc__judge_rows.nd (pi_seq (pv 4)) (blkOk_by (own := [("bound", 5)]) (N := N__judge_rows) (sc := defScope s__judge_rows) (by decide +kernel)) (fun _ _ _ _ _ => (pg_name (i := 5) sc__judge_rows.nd rfl (Or.inl rfl) (hf := .inr rfl))) (fun _ _ _ _ _ => pts_nil) (fun _ _ _ _ _ => (pe_f (c_is_integer T) takes0 hr (by decide) rfl (pa_cons (pv 5) pa_nil)))) pa_nil)))) (pw_or1 (pt_cmpR op_ne (pe_ix ix_seq (pv 4) (pv 3) (fun _ _ => rfl)) pe_int (nomark _)))))))
 (pss_one (ps_raise1 rfl (takes_of rfl rfl rfl rfl) (x_BadCard T) hr (by decide) rfl (pv 3)))
 pss_nil)))
 (pss_one (ps_if (PW.pt (pw_or (pt_cmpR op_ne (pe_callB call_len_seq (by rfl) T.n_len (by decide +kernel) (pa_cons (pv 2) pa_nil)) (pv 1) (nomark _)) (pw_or1 (pt_not (pt_val (pe_f (c_is_closed T) (takes_of rfl rfl rfl rfl) hr (by decide) rfl (pa_cons (pv 2) pa_nil)))))))
 (pss_one (ps_raise1 rfl (takes_of rfl rfl rfl rfl) (x_BadCard T) hr (by decide) rfl (pe_un un_neg pe_int)))
 pss_nil))))), ?_⟩
    refine ⟨_, rfl, arg1 (sp_is_row K) (is_row hp fun H1 e1 => ⟨true, rfl, iteT ⟨_, rfl, ?_⟩⟩)⟩
    dsimp only [gName]
    have cl : (us.take n).length ≤ n := by rw [List.length_take]; omega
    refine seq_in (for_enumS (t := t) (i := 2) (j := 1) (n := n) rfl rfl (hp.up e1) (fun j σ' H' => ∃ c3 c4 c5, σ' = [some (.ref p), some (.int (n : Nat)), some (.ref p), c3, c4, c5] ∧ Same H H' ∧ ∀ i R, i < j → Rs[i]? = some R → rowOk n i R) (fun H2 e2 => ⟨none, none, none, rfl, e1.trans e2, fun i R z => absurd z (Nat.not_lt_zero i)⟩) ?_ ?_)
    · rintro j x _ H2 _ N hj ⟨c3, c4, c5, rfl, e2, d2⟩ ⟨U, y, x, rfl, hU, rfl, ey, hx⟩ hN
      cases ey
      have hjn : j < n := by omega
      have hx : us[j]? = some x := by
        have hx : (us.take n)[j]? = some x := hx
        rw [List.getElem?_take, if_pos hjn] at hx
        exact hx
      obtain ⟨R, hR⟩ : ∃ R, Rs[j]? = some R := ⟨_, List.getElem?_eq_getElem (by have := (List.getElem?_eq_some_iff.mp hx).1; omega)⟩
      obtain ⟨q, rfl, xs, hq, hd⟩ := hu j x R hx hR
      have xl : xs.length = R.length := dpAll_len hd
      have e3 := same_new (o := .tup [.int (j : Nat), .ref q]) hU
      refine ⟨U, _, rfl, sq_new, rfl, _, _, rfl, _, _, rfl, rfl, ?_⟩
      generalize upd H2 U (.tup [.int (j : Nat), .ref q]) = H3 at e3
      have bad : ¬ rowOk n j R → ∀ H', Same H H' → ∀ d, H' d = none → E (.ref a.BadCard) (some d) (upd H' d (.xd [("place", .int (j : Nat))])) := fun z H' e' d hd => kd j ⟨hjn, d2, R, hR, z⟩ _ d (e'.trans (same_new hd)) upd_same
      refine ⟨_, rfl, arg1 (sp_is_row K) (is_row (hq.up (e2.trans e3)) fun H4 e4 => ⟨true, rfl, iteF ?_⟩)⟩
      have hq4 := hq.up (e2.trans (e3.trans e4))
      refine ⟨_, rfl, q, _, rfl, hq4.row, _, rfl, rfl, _, rfl, ?_⟩
      by_cases hlen : R.length = n
      · refine iteN (by rw [xl, hlen]; simp) ?_
        refine cb1 (lc_sq (t := t) (i := 4) rfl hq4 (fun i _ y => ∃ d, R[i]? = some d ∧ y = V.bl (asI d).isSome) (fun _ _ _ _ _ z => z) (by omega) ?_ ?_)
        · rintro i x F' _ H5 Kt Kn hi s5 ⟨rfl, hx⟩ kk
          obtain ⟨d, h1, h2⟩ := dpAll_get hd hx
          refine ⟨rfl, lc_yes ⟨_, rfl, arg1 (sp_is_integer K) (is_integerD (dp_up (e2.trans (e3.trans (e4.trans (s5.ff.trans s5.fh)))) h2) (kk _ _ _ (.refl s5.fh) ⟨d, h1, rfl⟩))⟩⟩
        · intro F' H5 ys D s5 _ hD' hy hr'
          have eb : ys = (R.map fun d => (asI d).isSome).map V.bl := List.ext_getElem? fun j => by
            rcases Nat.lt_or_ge j R.length with hj | hj
            · have : j < ys.length := by omega
              obtain ⟨d, h1, h2⟩ := hr' j _ (List.getElem?_eq_getElem this)
              rw [List.getElem?_eq_getElem this, h2, List.getElem?_map, List.getElem?_map, h1]
              rfl
            · rw [List.getElem?_eq_none (by omega), List.getElem?_eq_none (by simp; omega)]
          subst eb
          have e5 := s5.ff.trans s5.fh
          refine ⟨D, _, rfl, SqL.of (s5.fh _ _ hD'), _, rfl, ?_⟩
          have e35 := e2.trans (e3.trans (e4.trans e5))
          by_cases all : ∀ d ∈ R, (asI d).isSome = true
          · have : (R.map fun d => (asI d).isSome).all id = true := by
              rw [List.all_eq_true]
              intro b hb
              obtain ⟨d, hd, rfl⟩ := List.mem_map.mp hb
              exact all d hd
            rw [this]
            obtain ⟨dj, hdj⟩ : ∃ d, R[j]? = some d := ⟨_, List.getElem?_eq_getElem (by omega)⟩
            obtain ⟨ij, hij⟩ := Option.isSome_iff_exists.mp (all dj (List.mem_of_getElem? hdj))
            obtain rfl := asI_some hij
            obtain ⟨u, hu1, hu2⟩ := dpAll_at hd hdj
            cases hu2
            have at_ : atI xs ((j : Nat) : Int) = some (.int ij) := atI_int (by omega) (by omega) (by rw [Int.toNat_natCast]; exact hu1)
            refine iteF ⟨_, rfl, _, rfl, ?_⟩
            refine ix_sq (hq4.up e5) at_ ⟨rfl, _, rfl, ?_⟩
            by_cases z : ij = 0
            · refine iteN (by rw [z]; decide) ?_
              refine hN _ H5 (e3.trans (e4.trans e5)) ⟨_, _, _, rfl, e35, fun i S hi hS => ?_⟩
              by_cases ei : i = j
              · subst ei
                rw [hR] at hS
                cases hS
                exact ⟨hlen, all, by rw [hdj, z]⟩
              · exact d2 i S (by omega) hS
            · refine iteY (by simp [z]) ⟨_, rfl, fun d hd => ?_⟩
              exact bad (fun y => by have := y.2.2; rw [hdj] at this; cases this; exact z rfl) _ e35 d hd
          · have : (R.map fun d => (asI d).isSome).all id = false := by
              rw [Bool.eq_false_iff]
              intro h
              rw [List.all_eq_true] at h
              exact all fun d hd => h _ (List.mem_map.mpr ⟨d, hd, rfl⟩)
            rw [this]
            exact iteT ⟨_, rfl, fun d hd => bad (fun y => all y.2.1) _ e35 d hd⟩
      · refine iteY (by rw [decide_eq_false (fun z => hlen (by have := V.int.inj z; omega))]; rfl) ⟨_, rfl, fun d hd => bad (fun y => hlen y.1) _ (e2.trans (e3.trans e4)) d hd⟩
    · rintro _ H2 ⟨c3, c4, c5, rfl, e2, d2⟩
      have allR : AllR n Rs := fun j R hj hR => d2 j R (by
        have := (List.getElem?_eq_some_iff.mp hR).1
        rw [List.length_take]
        omega) hR
      refine ⟨_, rfl, p, us, rfl, (hp.up e2).row, _, rfl, rfl, _, rfl, ?_⟩
      by_cases hlen : Rs.length = n
      · obtain ⟨f, rfl, hz⟩ := rows_tab hlen allR
        have tb : Tb K t H (.ref p) n f := RoD.tb ⟨p, us, rfl, hp, hl, hu⟩
        refine iteN (by rw [hl, hlen]; simp) ?_
        refine ⟨_, rfl, t, _, n, f, rfl, tb.up e2, hn, fun H3 e3 => ⟨fun tr => ⟨true, rfl, iteF ?_⟩, fun tr => ⟨false, rfl, iteT ?_⟩⟩⟩
        · exact k f rfl ⟨hz, tr⟩ H3 (e2.trans e3)
        · exact ⟨_, rfl, fun d hd => kt ⟨allR, .inr ⟨f, rfl, tr⟩⟩ _ d (e2.trans (e3.trans (same_new hd))) upd_same⟩
      · refine iteY (by rw [decide_eq_false (fun z => hlen (by have := V.int.inj z; omega))]; rfl) ⟨_, rfl, fun d hd => ?_⟩
        exact kt ⟨allR, .inl hlen⟩ _ d (e2.trans (same_new hd)) upd_same
end
end K49

set_option Elab.async false
set_option linter.all false
set_option maxRecDepth 100000
set_option maxHeartbeats 4000000
namespace K49
open PySem PySem.Spec PyProof.Rows L2 Ew
/-! ### cards -/
/-- at v a card of the spots ps with the bounds f -/
def Cd (P : Program) (w : World) (K : PySem.W.Frag) (C : Addr) (F : Hp) (v : V) (ps : List Spot) (f : Tb2) : Prop := ∃ x dx sp d rw, v = .ref x ∧ F x = some (.ins C dx [("spots", .ref sp), ("_places", .ref d), ("rows", .ref rw)]) ∧ Sps K true F sp ps ∧ Dtx P w K F d (plc 0 ps) ∧ Tb K true F (.ref rw) ps.length f
theorem Cd.up {P : Program} {w : World} {K : PySem.W.Frag} {C : Addr} {F F' : Hp} {v : V} {ps : List Spot} {f : Tb2} (h : Cd P w K C F v ps f) (e : Same F F') : Cd P w K C F' v ps f := by
  obtain ⟨x, dx, sp, d, rw, h1, h2, h3, h4, h5⟩ := h
  exact ⟨x, dx, sp, d, rw, h1, e x _ h2, h3.up e, h4.up e, h5.up e⟩
section
variable {P : Program} {w : World} {K : PySem.W.Frag} {mg : Str → Option Value} {base : Heap} {a : Ad}
theorem Sps.row {t : Bool} {H : Hp} {p : Addr} {ps : List Spot} (h : Sps K t H p ps) : ∃ us, Sq K t H p us ∧ us.length = ps.length := by
  obtain ⟨us, h1, h2⟩ := h
  exact ⟨us, h1, Paired.length h2⟩
section
variable {H : Hp} {x dx : Addr} {C : Addr} {fs : List (Str × V)} {o : HO}
theorem sqT_ins {q : Addr} {xs : List V} (h : SqT K H q xs) (e : H x = some (.ins C dx fs)) : SqT K (upd H x o) q xs := by
  rcases h with h | h
  · refine .inl ?_
    rcases h with h | ⟨u, h⟩
    · exact .inl (by rw [upd_ne (fun z => by rw [z, e] at h; cases h)]; exact h)
    · exact .inr ⟨u, by rw [upd_ne (fun z => by rw [z, e] at h; cases h)]; exact h⟩
  · exact .inr h
theorem Sps.ins {q : Addr} {ps : List Spot} (h : Sps K true H q ps) (e : H x = some (.ins C dx fs)) : Sps K true (upd H x o) q ps := by
  obtain ⟨us, h1, h2⟩ := h
  exact ⟨us, sqT_ins h1 e, Paired.mapP h2 fun v p z => by obtain ⟨r, z1, z2⟩ := z; exact ⟨r, z1, sqT_ins z2 e⟩⟩
theorem Dtx_ins {d : Addr} {kvs : List (List Key × V)} (h : Dtx P w K H d kvs) (e : H x = some (.ins C dx fs)) : Dtx P w K (upd H x o) d kvs := by
  obtain ⟨h1, ys, h2, h3⟩ := h
  exact ⟨h1, ys, Paired.mapP h2 fun _ _ z => ⟨z.1, sqT_ins z.2.1 e, z.2.2⟩, by rw [upd_ne (fun z => by rw [z, e] at h3; cases h3)]; exact h3⟩
theorem Tb.ins {v : V} {n : Nat} {f : Tb2} (h : Tb K true H v n f) (e : H x = some (.ins C dx fs)) : Tb K true (upd H x o) v n f := by
  obtain ⟨p, us, h1, h2, h3, h4⟩ := h
  exact ⟨p, us, h1, sqT_ins h2 e, h3, fun i u hu => by obtain ⟨q, z1, z2⟩ := h4 i u hu; exact ⟨q, z1, sqT_ins z2 e⟩⟩
end
theorem sqL_ins {C x dx q : Addr} {fs : List (Str × V)} {o : HO} {H : Hp} {xs : List V} (h : SqL K H q xs) (e : H x = some (.ins C dx fs)) : SqL K (upd H x o) q xs := by
  rcases h with h | h
  · refine .inl ?_
    rcases h with h | ⟨u, h⟩
    · exact .inl (by rw [upd_ne (fun z => by rw [z, e] at h; cases h)]; exact h)
    · exact .inr ⟨u, by rw [upd_ne (fun z => by rw [z, e] at h; cases h)]; exact h⟩
  · exact .inr h
mutual
theorem dp_ins {C x dx : Addr} {fs : List (Str × V)} {o : HO} {H : Hp} (e : H x = some (.ins C dx fs)) : ∀ {v : V} {d : PyData}, Dp K H v d → Dp K (upd H x o) v d
  | _, _, .non => .non
  | _, _, .bl b => .bl b
  | _, _, .int i => .int i
  | _, _, .str x => .str x
  | _, _, .lst h t => .lst (sqL_ins h e) (dpAll_ins e t)
  | _, _, .tup h t => .tup (sqT_ins h e) (dpAll_ins e t)
theorem dpAll_ins {C x dx : Addr} {fs : List (Str × V)} {o : HO} {H : Hp} (e : H x = some (.ins C dx fs)) : ∀ {vs : List V} {ds : List PyData}, DpAll K H vs ds → DpAll K (upd H x o) vs ds
  | _, _, .nil => .nil
  | _, _, .cons h t => .cons (dp_ins e h) (dpAll_ins e t)
end
def sp_Cinit (P : Program) (w : World) (K : PySem.W.Frag) (a : Ad) : Sp := fun vs H Q E => ∃ (t1 t2 : Bool) (x dx p : Addr) (v : V) (ds : List PyData) (Rs : List (List PyData)) (H0 : Hp), vs = [.ref x, .ref p, v] ∧ H x = some (.ins a.Card dx []) ∧ Same H0 H ∧ H0 x = none ∧ Its K t1 H0 p ds ∧ ds.length ≤ 1000 ∧ (∀ d ∈ ds, Fl 2 d) ∧ RoD K t2 H0 v Rs ∧
  (∀ ps f, ds = ps.map spD → OkS ps → Rs = tabL ps.length f → Cld ps.length f → ∀ H' sp d rw, Same H0 H' → H' x = some (.ins a.Card dx [("spots", .ref sp), ("_places", .ref d), ("rows", .ref rw)]) → Sps K true H' sp ps → Dtx P w K H' d (plc 0 ps) → Tb K true H' (.ref rw) ps.length f → Q .non H') ∧
  (∀ z, Flaw ds Rs z → RaH H0 E a.BadCard fun H' d => H' d = some (.xd [("place", .int z)]))
/-- tuple(row) -/
theorem tuple_of {H : Hp} {t : Bool} {p : Addr} {xs : List V} {Q : VK} (hp : Sq K t H p xs) (k : ∀ H' q, Same H H' → SqT K H' q xs → Q (.ref q) H') : rTupS K [.ref p] H Q := by
  cases t
  · exact ⟨p, xs, rfl, .inl ⟨hp, fun l hl => k _ l (same_new hl) sq_new⟩⟩
  · exact ⟨p, xs, rfl, .inr ⟨hp, k H p (.refl H) hp⟩⟩
theorem fld_cb {r : List V → Hp → VK → Prop} {te ta : TE} {f : Str} {D : Ends} {σ : L2.St} {H : Hp} (h : te σ H fun v H1 => r [v] H1 fun y H2 => ta σ H2 fun x H3 => ∃ a C dx fs, x = .ref a ∧ H3 a = some (.ins C dx fs) ∧ Cls K C ∧ NoAttr K C f ∧ fs.length < 1000 ∧ D.nx σ (upd H3 a (.ins C dx (putF f y fs)))) :
    sFld K ta (tCB r (tCons te tNil)) f D σ H := h
theorem mk_Card (T : Txt K mg a) : Mkr P w K mg base 5 "Card" a.Card P_CardD_initD (sp_Cinit P w K a) := by
  obtain ⟨f, fd, M, F, b⟩ := T.i_Card.ex
  refine ⟨T.g_Card, f, fd, M, fun_ok F sc_CardD_initD (fun vs H Q E h => by obtain ⟨t1, t2, x, dx, p, v, ps, f, H0, rfl, _⟩ := h; rfl) fun f cdv A outer s H vs Q E hr h => ?_, b⟩
  obtain ⟨t1, t2, x, dx, p, _, ds, Rs, H0, rfl, hx, e0, x0, ⟨us, hp, pr⟩, le, fl, ⟨r, rs, rfl, hr0, hrl, hrs⟩, k, kb⟩ := h
  refine ⟨_, ((pss_cons (ps_fld (pv 0) (pe_ifExp (pt_val (pe_f (c_is_row T) (takes_of rfl rfl rfl rfl) hr (by decide) rfl (pa_cons (pv 1) pa_nil))) (pe_callTy call_tupS (by rfl) T.n_tuple (by decide +kernel) (pa_cons (pv 1) pa_nil)) (pe_tup pa_nil)) rfl)
 (pss_cons (ps_tryX (i := 3) rfl rfl sc_CardD_initD.nd rfl rfl ⟨rfl, by decide, .inl T.g_BadSpot⟩ (takes_of rfl rfl rfl rfl)
 (fun W pn xe tk tkp => (pss_one (show PS _ _ (sFld K (tVar 0) (tF (sp_places_of P w K a) [] W (tCons (tFld K (tVar 0) "spots") tNil)) "_places") from (ps_fld (pv 0) (pe_fN (c_places_of T) tk hr (by decide) rfl (pa_cons (pe_fld (pv 0) rfl) pa_nil)) rfl))))
 (fun xa oe cls d pn hz hf tkS hot => (pss_one (ps_raise1H hot tkS (h_BadCard T) (L2H.roomH_mark (hr.mono (by decide)) _) rfl (pe_sx (pe_xf T.xf_BadSpot T.no_BadSpot_place hz.zc hf (pv 3)))))))
 (pss_cons (ps_expr (pe_f (c__judge_rows T) (takes_of rfl rfl rfl rfl) hr (by decide) rfl (pa_cons (pv 2) (pa_cons (pe_callB call_len_seq (by rfl) T.n_len (by decide +kernel) (pa_cons (pe_fld (pv 0) rfl) pa_nil)) pa_nil))))
 (pss_one (ps_fld (pv 0) (pe_callTy call_tupS (by rfl) T.n_tuple (by decide +kernel) (pa_cons (pe_lc (own := [("row", 4)]) (g := (gName 4)) (by rfl) sc_CardD_initD.nd (pi_seq (pv 2)) (blkOk_by (own := [("row", 4)]) (N := N_CardD_initD) (sc := defScope s_CardD_initD) (by decide +kernel)) (fun _ _ _ _ _ => (pg_name (i := 4) sc_CardD_initD.nd rfl (Or.inl rfl) (hf := .inr rfl))) (fun _ _ _ _ _ => pts_nil) (fun _ _ _ _ _ => (pe_callTy (T := "tuple") (r := rTupS K) call_tupS (by rfl) T.n_tuple (by decide +kernel) (pa_cons (pv 4) pa_nil)))) pa_nil)) rfl)))))), ?_⟩
  refine ⟨_, rfl, arg1 (sp_is_row K) (is_row (hp.up e0) fun H1 e1 => ⟨true, rfl, iteT ⟨_, rfl, ?_⟩⟩)⟩
  dsimp only [tNil]
  refine tuple_of (hp.up (e0.trans e1)) fun H2 sp e2 hsp => ?_
  refine ⟨_, rfl, x, a.Card, dx, [], rfl, (e1.trans e2) _ _ hx, T.ki.cl, T.nS, Nat.le_of_ble_eq_true rfl, ?_⟩
  have e02 := e0.trans (e1.trans e2)
  have x2 := (e1.trans e2) _ _ hx
  have sp3 : Its K true (upd H2 x (.ins a.Card dx (putF "spots" (.ref sp) []))) sp ds := ⟨us, sqT_ins hsp x2, dpAll_ins x2 (dpAll_up e02 pr)⟩
  have e03 : Same H0 (upd H2 x (.ins a.Card dx (putF "spots" (.ref sp) []))) := same_mut e02 x0
  have x3 : (upd H2 x (.ins a.Card dx (putF "spots" (.ref sp) []))) x = some (.ins a.Card dx [("spots", .ref sp)]) := upd_same
  generalize upd H2 x (.ins a.Card dx (putF "spots" (.ref sp) [])) = H3 at sp3 e03 x3
  refine ⟨_, rfl, x, a.Card, dx, _, _, rfl, x3, T.ki.cl, T.nS, rfl, ?_⟩
  refine ⟨sp, ds, rfl, sp3, le, fl, fun ps eps ok H4 d e4 d4 _ => ?_, fun i hi H4 d e4 hd => ⟨true, T.em_BadSpot, fun _ xa hxa => ?_, fun z => nomatch z⟩⟩
  rotate_left
  · exact ⟨_, rfl, rfl, rfl, d, _, _, rfl, hd, rfl, fun d2 hd2 => kb _ (.spot hi) _ d2 (e03.trans (e4.trans (same_new hd2))) upd_same⟩
  subst eps
  have okd : OkD (ps.map spD) := ⟨ps, rfl, ok⟩
  have sp3 := sp3.sps
  have x4 := e4 _ _ x3
  refine ⟨_, rfl, x, a.Card, dx, _, rfl, x4, T.ki.cl, T.nP, Nat.le_of_ble_eq_true rfl, ?_⟩
  have e04 := e03.trans e4
  have sp5 : Sps K true (upd H4 x (.ins a.Card dx (putF "_places" (.ref d) [("spots", .ref sp)]))) sp ps := Sps.ins (sp3.up e4) x4
  have d5 : Dtx P w K (upd H4 x (.ins a.Card dx (putF "_places" (.ref d) [("spots", .ref sp)]))) d (plc 0 ps) := Dtx_ins d4 x4
  have e05 : Same H0 (upd H4 x (.ins a.Card dx (putF "_places" (.ref d) [("spots", .ref sp)]))) := same_mut e04 x0
  have x5 : (upd H4 x (.ins a.Card dx (putF "_places" (.ref d) [("spots", .ref sp)]))) x = some (.ins a.Card dx [("spots", .ref sp), ("_places", .ref d)]) := upd_same
  generalize upd H4 x (.ins a.Card dx (putF "_places" (.ref d) [("spots", .ref sp)])) = H5 at sp5 d5 e05 x5
  obtain ⟨us5, s5, l5⟩ := sp5.row
  refine ⟨_, rfl, _, rfl, x, a.Card, dx, _, _, rfl, x5, T.ki.cl, T.nS, rfl, sp, us5, rfl, .inr s5, ?_⟩
  have ro : RoD K t2 H0 (.ref r) Rs := ⟨r, rs, rfl, hr0, hrl, hrs⟩
  have el : (ps.map spD).length = ps.length := List.length_map _
  refine ⟨t2, _, ps.length, Rs, by rw [l5]; rfl, ro.up e05, by rw [← el]; exact le, fun f ef hc H6 e6 => ?_, fun j hj H6 d6 e6 hd => kb _ (.row okd (by rw [el]; exact hj)) _ d6 (e05.trans e6) hd, fun hz H6 d6 e6 hd => kb _ (.fin okd (by rw [el]; exact hz)) _ d6 (e05.trans e6) hd⟩
  subst ef
  have hrl : rs.length = ps.length := by rw [hrl, tabL_len]
  have hrs : ∀ (i : Nat) u, rs[i]? = some u → ∃ q, u = V.ref q ∧ Sq K t2 H0 q (rowV ps.length (f i)) := fun i u hu => by
    have hi : i < ps.length := by have := (List.getElem?_eq_some_iff.mp hu).1; omega
    obtain ⟨q, z1, xs, z2, z3⟩ := hrs i u _ hu (tabL_at hi)
    exact ⟨q, z1, by rw [← rowV_dp z3]; exact z2⟩
  have le : ps.length ≤ 1000 := ok.le
  have e06 := e05.trans e6
  have hr6 := hr0.up e06
  refine fld_cb (lc_sq (t := t2) (i := 2) rfl hr6 (fun i F y => ∃ q, y = V.ref q ∧ SqT K F q (rowV ps.length (f i))) (fun _ _ _ _ e z => by obtain ⟨q, z1, z2⟩ := z; exact ⟨q, z1, upT e z2⟩) (by omega) ?_ ?_)
  · rintro i x F' _ H7 Kt Kn hi s7 ⟨rfl, hx⟩ kk
    obtain ⟨q, rfl, hq⟩ := hrs i x hx
    refine ⟨rfl, lc_yes ⟨_, rfl, ?_⟩⟩
    dsimp only [tNil]
    have hq7 := hq.up (e06.trans (s7.ff.trans s7.fh))
    cases t2
    · exact ⟨q, _, rfl, .inl ⟨hq7, fun l hl => kk _ _ _ ((Stm.refl s7.fh).newP hl) ⟨l, rfl, sq_new⟩⟩⟩
    · exact ⟨q, _, rfl, .inr ⟨hq7, kk _ _ _ (.refl s7.fh) ⟨q, rfl, upT ((e06.trans s7.ff)) hq⟩⟩⟩
  · intro F7 H7 ys D s7 _ hD hy hr7
    have hD7 := s7.fh _ _ hD
    have e7 : Same H6 H7 := s7.ff.trans s7.fh
    refine ⟨D, ys, rfl, .inl ⟨SqL.of hD7, fun l hl => ?_⟩⟩
    have e8 := e7.trans (same_new (o := .tup ys) hl)
    have x8 := e8 _ _ (e6 _ _ x5)
    refine ⟨_, rfl, x, a.Card, dx, _, rfl, x8, T.ki.cl, T.nR, Nat.le_of_ble_eq_true rfl, ?_⟩
    have sp8 := (sp5.up e6).up e8
    have d8 := (d5.up e6).up e8
    have t8 : Tb K true (upd H7 l (.tup ys)) (.ref l) ps.length f := ⟨l, ys, rfl, sq_new, hy.trans hrl, fun i u hu => by
      obtain ⟨q, z1, z2⟩ := hr7 i u hu
      exact ⟨q, z1, upT (same_new hl) (upT s7.fh z2)⟩⟩
    exact k ps f rfl ok rfl hc _ sp d l (same_mut (e06.trans e8) x0) upd_same (Sps.ins sp8 x8) (Dtx_ins d8 x8) (t8.ins x8)
end
end K49

set_option Elab.async false
set_option linter.all false
set_option maxRecDepth 100000
set_option maxHeartbeats 4000000
namespace Ew
open PySem PySem.Spec PyProof.Rows L2
/-! ### tuple(d), {k: v} and d[k] = v, the keys tuples wherever they stand -/
section
variable {prog : Program} {w : World} {A : Around} {E : Value → Shared → Prop} {s : Shared} {r d : Addr} {n : Nat} {P : Nat → Value → Prop} {OK : Heap → Prop}
theorem code_tuple_new_src {Q₁ : Value → Shared → Prop} (K : PySem.W.KdlSrc prog w "dict" r d n P OK) (hh : A.handled = none) (hok : OK s.heap) (hn : n ≤ sizeLine)
    (h : ∀ (h' : Heap) (tk : Nat) (acc : Array Value), (∀ b o, s.heap.get? b = some o → h'.get? b = some o) → ItemsOf P acc n → Q₁ (.ref h'.objs.size) { s with heap := h'.push { cls := .type "tuple", data := .seq acc }, toks := tk }) :
    codeAny (model prog w) A (.call (.builtin "tuple.__new__") ⟨[.type "tuple", .ref r], []⟩) (wants Q₁ E) s := by
  refine codeAny_of_tree ?_
  show wpAny _ A.in1 (do checkBuiltinCall "tuple.__new__" ⟨[.type "tuple", .ref r], []⟩; again (.builtin "tuple.__new__" ⟨[.type "tuple", .ref r], []⟩)) _ _ s
  refine wpAny_bind (wpAny_of_eq (PySem.F.newCall_tuple_1 _) (wpAny_pure ⟨plainId_quiet PySem.F.plain_tuple_new _, codeAny_builtin PySem.F.entry_tuple_new ?_⟩))
  rw [Around.under_plainId PySem.F.plain_tuple_new _]
  have hsub := sub_tuple_self
  have hinit := init_tuple_lookup
  have hmh := madeHere_tuple
  have hTI : s.TypeIs (.ref r) "dict" := K.type s hok
  have hh1 : A.in1.handled = none := hh
  wp_walk using wpAny_typeOf hTI, PySem.W.kdu_collect (A := A.in1) K hh1 hok hn
  intro h' tk acc hk hacc
  show wpAny _ _ (Builtin.Tuple.tupleExact acc.toList.toArray >>= fun v => ret v) _ _ _
  unfold Builtin.Tuple.tupleExact
  refine wpAny_bind (wpAny_newObj_type ?_ (by show acc.toList.toArray.size ≤ sizeLine; simp only [Array.toArray_toList]; rw [hacc.1]; exact hn))
  refine wpAny_pure ?_
  have e : acc.toList.toArray = acc := by simp
  rw [e]
  exact h h' tk acc hk hacc
theorem call_tuple_src {Q : Value → Shared → Prop} (K : PySem.W.KdlSrc prog w "dict" r d n P OK) (hh : A.handled = none) (hok : OK s.heap) (hn : n ≤ sizeLine)
    (hQ : ∀ (h' : Heap) (tk : Nat) (acc : Array Value), (∀ b o, s.heap.get? b = some o → h'.get? b = some o) → ItemsOf P acc n → Q (.ref h'.objs.size) { s with heap := h'.push { cls := .type "tuple", data := .seq acc }, toks := tk }) :
    wpAny (model prog w) A (call (.type "tuple") [.ref r]) Q E s := by
  refine callType_codes (Q₁ := fun obj s₁ => s₁.TypeIs obj "tuple" ∧ Q obj s₁) PySem.F.called_tuple (PySem.F.typeCall_tuple_1 _) PySem.F.entry_object_init
    (code_tuple_new_src (A := A.in1) K hh hok hn fun h' tk acc hk hacc => ⟨⟨_, Heap.get?_push_size _ rfl, rfl⟩, hQ h' tk acc hk hacc⟩) fun obj s₁ h₁ => ?_
  exact ⟨h₁.1, PySem.F.args_object_init_2 obj _, object_init_meets PySem.F.called_tuple.init.lookup PySem.F.called_tuple.made (by decide) prog w A.in1 _ s₁ ⟨h₁.1, rfl, h₁.2⟩⟩
end
/-- the keys of such a dict, in order -/
abbrev KysX (K : PySem.W.Frag) (H : Hp) : List (List Key × V) → List Addr → Prop := Paired fun p b => SqT K H b (p.1.map kV)
theorem kysX_of {K : PySem.W.Frag} {H : Hp} {kvs : List (List Key × V)} {xs : List (List Key × Addr × Value)} (r : KX K H kvs xs) : KysX K H kvs (xs.map fun x => x.2.1) := by
  induction r with
  | nil => exact Paired.nil
  | @cons p q ps qs h t ih => exact Paired.cons h.2.1 ih
def rTupDX (P : Program) (w : World) (K : PySem.W.Frag) : List V → Hp → VK → Prop := fun xs H Q => ∃ d kvs, xs = [V.ref d] ∧ Dtx P w K H d kvs ∧ ∀ p bs, H p = none → KysX K H kvs bs → Q (.ref p) (upd H p (.tup (bs.map V.ref)))
section
variable {X : Cx}
theorem call_tupDX (hc : X.calm = true) : CallR X (.type "tuple") (rTupDX X.prog X.w X.K) := by
  intro pins s σ H xs us Q I r h
  obtain ⟨d, kvs, rfl, hd, q⟩ := h
  obtain ⟨u, rfl, rx⟩ := r.one
  cases rx
  obtain ⟨hkl, ks, pr, e⟩ := hd
  obtain ⟨⟨hs, o, es, ep, ho, hx, hdt, he, hn⟩, _⟩ := (show ObjOk X.prog X.w H s.heap d (.ext (dxO X.prog X.w d ks)) from I.hok d _ e)
  have l1 : es.size = ks.length := size_of_entries he
  have l2 : kvs.length = ks.length := Paired.length pr
  refine call_tuple_src (kdl_raw hs hx hdt) (I.ok.hd hc) ho (by omega) fun h' tk acc' kp it => ?_
  have ea : acc'.toList = ks.map fun x => Value.ref x.2.1 := by
    have hl : acc'.toList.length = ks.length := by rw [Array.length_toList, it.1]; exact l1
    apply List.ext_getElem?
    intro j
    rw [List.getElem?_map]
    cases hj : acc'.toList[j]? with
    | none =>
      have h1 := List.getElem?_eq_none_iff.mp hj
      rw [List.getElem?_eq_none (by omega)]
      all_goals rfl
    | some v =>
      obtain ⟨en, hen, hv⟩ := it.2 j v (by rw [← Array.getElem?_toList]; exact hj)
      have qe := entry_at he j
      rw [hen] at qe
      cases hb : ks[j]? with
      | none =>
        rw [hb] at qe
        exact nomatch (show some en = none from qe)
      | some b =>
        rw [hb] at qe
        have e2 : en = entryOfKey (tupleKind (mixKind X.prog X.w)) b := Option.some.inj qe
        rw [hv, e2]
        all_goals rfl
  have eb : acc'.toList = (ks.map fun x => x.2.1).map Value.ref := by rw [ea, List.map_map]; all_goals rfl
  have rv : Vals ((ks.map fun x => x.2.1).map V.ref) acc'.toList := by rw [eb]; exact vals_refs _
  have hz : ((ks.map fun x => x.2.1).map V.ref).length ≤ sizeLine := by rw [List.length_map, List.length_map]; omega
  have I1 : Inv X pins σ H { s with heap := h', toks := tk } := I.kept (t' := tk) kp
  have I2 : Inv X pins σ (upd H h'.objs.size (.tup ((ks.map fun x => x.2.1).map V.ref))) { s with heap := h'.push { cls := .type "tuple", data := .seq acc' }, toks := tk } :=
    I1.laid (t' := tk) (fun b o e => Heap.get?_push_of_some _ e) (Nat.le_refl _) (show ObjOk X.prog X.w _ _ _ (.tup _) from ⟨hz, acc'.toList, rv, by rw [Array.toArray_toList]; exact IsTup.new _ _⟩)
  exact ⟨.ref h'.objs.size, _, I2, rfl, q _ _ (I1.hok.fresh (Nat.le_refl _)) (kysX_of pr)⟩
end
section
variable {X : Cx} {pos pos' : Pos} {k v o i value : Expr} {tk tv td ty : TE}
def tDisX (P : Program) (w : World) (K : PySem.W.Frag) (tk tv : TE) : TE := fun σ H Q => ∀ p u, H p = none → Dtx P w K (upd H p u) p [] → tk σ (upd H p u) fun x H1 => tv σ H1 fun y H2 => ∃ b ks, x = .ref b ∧ Dtx P w K H2 p [] ∧ SqT K H2 b (ks.map kV) ∧ ∀ u2, Dtx P w K (upd H2 p u2) p [(ks, y)] → Q (.ref p) (upd H2 p u2)
theorem pe_disX (hu : X.A.units < cLine) (hk : PE X k tk) (hv : PE X v tv) : PE X (.Dict [some k] [v] pos) (tDisX X.prog X.w X.K tk tv) := .mk fun pins s σ H Q I q => by
  have fr : H s.heap.objs.size = none := I.hok.fresh (Nat.le_refl _)
  have J := I.laid (a := s.heap.objs.size) (o := .ext (dxO X.prog X.w s.heap.objs.size [])) (t' := s.toks) (h' := s.heap.push ⟨.type "dict", none, .dict #[] 0, #[]⟩) (fun _ _ e => Heap.get?_push_of_some _ e) (Nat.le_refl _)
    (dxO_ok ⟨beq_eq_false_iff_ne.mpr (Ne.symm (Nat.ne_of_lt I.big)), _, #[], 0, Heap.get?_push_size _ rfl, ⟨rfl, rfl, rfl⟩, rfl, rfl, List.nodup_nil⟩)
  rw [arm_eval_Dict, zip_pairTrees [some k] [v] X.env pos rfl rfl, dictDisplay_pairs _ (fun z => by cases z) (by show 1 < 17; decide)]
  refine wpAny_bind (wpAny_standAt (wpAny_bind (wpAny_subDictH (knd := tupleKind (mixKind X.prog X.w)) (Q := fun d s' => wpAny (model X.prog X.w) X.A (pure (Value.ref d)) (fun v s' => ∃ x H', Inv X pins σ H' s' ∧ RelV x v ∧ Q x H') X.xe s') hu (by show 1 ≤ 15; decide) ?_)))
  refine pairTrees_cons_walk (thn (hk.run pins _ σ _ _ J (q _ _ fr ⟨Nat.zero_le _, [], .nil, upd_same⟩)) fun u s1 ⟨x, H1, J1, rx, q1⟩ => thn (hv.run pins s1 σ H1 _ J1 q1) fun r s2 ⟨y, H2, J2, ry, b, ks, ex, hp, hb, q2⟩ => pairTrees_nil_walk ?_)
  subst ex
  obtain rfl : u = Value.ref b := rx
  obtain ⟨ns, xs, rel, hH, dd⟩ := dx_at J2 hp
  cases rel
  refine ⟨[(ks, b, r)], ⟨rfl, rfl, key_sq J2 hb, trivial⟩, dd, fun h' tk' dd' hs => wpAny_pure ⟨.ref s.heap.objs.size, _, ?_, rfl, q2 _ ⟨by rw [sizeLine_eq]; show 1 ≤ _; omega, [(ks, b, r)], .cons ⟨rfl, sqT_but hb hH, ry⟩ .nil, upd_same⟩⟩⟩
  obtain ⟨qo, es, ep, h1, h2, h3, h4, _, h5⟩ := dd'
  exact d_write J2 (by rw [hH]; exact True.intro) hs ⟨qo, h1⟩ (dxO_ok ⟨ns, qo, es, ep, h1, h2, h3, h4, h5⟩)
/-- all values are one and the same -/
def sDPutE (P : Program) (w : World) (K : PySem.W.Frag) (td ty tv : TE) : TS := fun D σ H => tv σ H fun v H1 => td σ H1 fun x H2 => ty σ H2 fun y H3 => ∃ d b kvs k, x = .ref d ∧ y = .ref b ∧ Dtx P w K H3 d kvs ∧ SqT K H3 b (k.map kV) ∧ (∀ p ∈ kvs, p.2 = v) ∧ kvs.length < sizeLine ∧
  ∀ u, Dtx P w K (upd H3 d u) d (if (valV kvs k).isSome = true then kvs else kvs ++ [(k, v)]) → D.nx σ (upd H3 d u)
theorem kx_put {K : PySem.W.Frag} {H H' : Hp} {kvs : List (List Key × V)} {xs : List (List Key × Addr × Value)} {k : List Key} {v : V} {r : Value} (rv : RelV v r) (up : ∀ b ys, SqT K H b ys → SqT K H' b ys) (h : KX K H kvs xs) : (∀ p ∈ kvs, p.2 = v) → KX K H' kvs (xs.map (putAt k r)) := by
  induction h with
  | nil => exact fun _ => Paired.nil
  | @cons p q ps qs h t ih =>
    intro al
    refine Paired.cons ?_ (ih fun z hz => al z (List.mem_cons_of_mem _ hz))
    have e := al p List.mem_cons_self
    unfold putAt
    split
    · exact ⟨h.1, up _ _ h.2.1, by rw [e]; exact rv⟩
    · exact ⟨h.1, up _ _ h.2.1, h.2.2⟩
theorem ps_dputE (hu : X.A.units + 1 < cLine) (ho : PE X o td) (hi : PE X i ty) (hv : PE X value tv) (hs : swapsWith value (some (.Subscript o i pos')) pos.line X.env = pure false) :
    PS X (.Assign [.Subscript o i pos'] value pos) (sDPutE X.prog X.w X.K td ty tv) := by
  refine ⟨fun pins s σ H D I h => ?_⟩
  refine wpAny_Assign_Subscript (thn (hv.run pins s σ H _ I h) fun r s1 ⟨v, H1, I1, rv, q1⟩ => thn (ho.run pins s1 σ H1 _ I1 q1) fun u s2 ⟨x, H2, I2, rx, q2⟩ => thn (hi.run pins s2 σ H2 _ I2 q2) fun iv s3 ⟨y, H3, I3, ry, d, b, kvs, k, ex, ey, hd, hk, al, hl, q3⟩ => ?_) hs
  subst ex ey
  obtain rfl : u = Value.ref d := rx
  obtain rfl : iv = Value.ref b := ry
  obtain ⟨ns, xs, rel, hH, dd⟩ := dx_at I3 hd
  have hz : xs.length ≤ sizeLine := by rw [← Paired.length rel]; omega
  have ak := (rel.val k).isSome_eq
  rw [Option.isSome_map] at ak
  refine wpAny_setItem_heap (hsz := hz) (tupleKind_room_in1 hu) (key_sq I3 hk) dd fun h' dd' hs => ?_
  have fin : ∀ (kvs' : List (List Key × V)) (xs' : List (List Key × Addr × Value)), storedH xs k b r = xs' → kvs'.length ≤ sizeLine → (∀ u, KX X.K (upd H3 d u) kvs' xs') → (∀ u, Dtx X.prog X.w X.K (upd H3 d u) d kvs' → D.nx σ (upd H3 d u)) → ∃ σ' H', Inv X pins σ' H' { s3 with heap := h', toks := s3.toks + (tupleKind (mixKind X.prog X.w)).draws k } ∧ D.nx σ' H' := fun kvs' xs' e1 e2 e3 e4 => by
    rw [e1] at dd'
    obtain ⟨q, es, ep, hq, h2, h3, h4, _, h5⟩ := dd'
    exact ⟨σ, _, d_write (ob := .ext (dxO X.prog X.w d xs')) I3 (by rw [hH]; exact True.intro) hs ⟨q, hq⟩ (dxO_ok ⟨ns, q, es, ep, hq, h2, h3, h4, h5⟩), e4 _ ⟨e2, xs', e3 _, upd_same⟩⟩
  cases ek : atKey xs k with
  | none =>
    rw [ek] at ak
    have vk : (valV kvs k).isSome = false := ak
    rw [if_neg (by rw [vk]; decide)] at q3
    exact fin _ _ (storedH_new ek _ _) (by rw [List.length_append, List.length_singleton]; omega) (fun u => Paired.snoc (Paired.mapP rel fun _ _ z => ⟨z.1, sqT_but z.2.1 hH, z.2.2⟩) ⟨rfl, sqT_but hk hH, rv⟩) q3
  | some p =>
    rw [ek] at ak
    have vk : (valV kvs k).isSome = true := ak
    rw [if_pos vk] at q3
    exact fin _ _ (storedH_old ek _ _) hd.1 (fun u => kx_put rv (fun _ _ z => sqT_but z hH) rel al) q3
end
end Ew

set_option Elab.async false
set_option linter.all false
set_option maxRecDepth 100000
set_option maxHeartbeats 4000000
namespace Ew
open PySem PySem.Spec PyProof.Rows L2
/-! ### list(o) of an own class with __len__, whose __iter__ hands iter of a tuple that it holds -/
def KIT (outer : List Env) (P : Program) (w : World) (H : Hp) (s : Shared) (d : Addr) (u : Value) (s' : Shared) : Prop :=
  ∃ (it : Addr) (H' : Hp), u = .ref it ∧ H' = H ∧ s'.os = s.os ∧ AllBare s'.gens ∧ Un (frs outer) [] H H' s.heap s'.heap ∧ HOk P w H' s'.heap ∧ H' it = none ∧ s.heap.objs.size ≤ it ∧ s'.heap.IsTupleIter it d 0
def KRT (outer : List Env) (P : Program) (w : World) (H : Hp) (s : Shared) (d : Addr) (r : Result) (s' : Shared) : Prop :=
  match r with
  | .ok (.ret u) => KIT outer P w H s d u s'
  | .ok _ => False
  | .error e => L2.CX P w outer H s E0 e s'
section
variable {P : Program} {w : World} {K : PySem.W.Frag} {mg : Str → Option Value} {base : Heap}
structure FnIT (P : Program) (w : World) (K : PySem.W.Frag) (mg : Str → Option Value) (base : Heap) (k : Nat) (f : Addr) (fd : FuncData) (C : Addr) (at_ : Str) : Prop where
  go : ∀ (A : Around) (outer : List Env) (s : Shared) (H : Hp) (args : Args) (a dx d : Addr) (fs : List (Str × V)) (xs : List V), Room k A → Env0 P w K mg base A outer s H → BindsTo s fd args ([("self", .ref a)]) →
    H a = some (.ins C dx fs) → fs.lookup at_ = some (.ref d) → SqT K H d xs →
    codeAny (model P w) A (.call (.ref f) args) (KRT outer P w H s d) s
theorem call_iter_tuple {prog : Program} {A : Around} {E : Value → Shared → Prop} {s : Shared} {d : Addr} {items : Array Value} {Q : Value → Shared → Prop} (ht : s.heap.IsTuple d items)
    (hQ : Q (.ref s.heap.objs.size) { s with heap := s.heap.push { cls := .type "tuple_iterator", data := .fields #[.ref d, .int 0 0] } }) : wpAny (model prog w) A (call (.builtin "iter") [.ref d]) Q E s := by
  refine Calls.call_function_entry (by decide +kernel) (by decide +kernel) PySem.W.kdk_entry_iter (PySem.W.kdk_args_iter _) ?_
  unfold Builtin.«iter»
  refine wpAny_bind (m := someArgs "iter" 1 2 _) (wpAny_of_eq (a := [Value.ref d]) (by first | rfl | kernel_rfl!) ?_)
  show wpAny _ _ (pyIter (.ref d) >>= _) _ _ _
  refine wpAny_bind (wpAny_pyIter_tuple ht ?_)
  exact wpAny_pure ⟨_, rfl, hQ⟩
theorem fun_itT {q : Str} {st : Stmt} {f C : Addr} {fd : FuncData} {N : List Str} {k : Nat} {at_ : Str} {ea : Expr} {np cp rp : Pos} (F : Fun K "__iter__" q st f fd) (S : FnScope N ["self"] (defScope st)) (hb : defBody st = [.Return (some (.Call (.Name "iter" np) [ea] [] cp)) rp]) (hm : mg "iter" = none)
    (he : ∀ (cdv : Value) (A : Around) (outer : List Env) (s : Shared) (H : Hp), ∃ te : TE, PE (cxB P w K mg base N q st f cdv A outer s H E0) ea te ∧ Gl (cxB P w K mg base N q st f cdv A outer s H E0) "iter" ∧
      starEach [ea] (cxB P w K mg base N q st f cdv A outer s H E0).env = (false, eval ea (cxB P w K mg base N q st f cdv A outer s H E0).env) :: starEach [] (cxB P w K mg base N q st f cdv A outer s H E0).env ∧
      ∀ (H1 : Hp) (Q : VK) (a dx d : Addr) (fs : List (Str × V)), H1 a = some (.ins C dx fs) → fs.lookup at_ = some (.ref d) → Q (.ref d) H1 → te (start N [.ref a]) H1 Q) :
    FnIT P w K mg base (k + 1) f fd C at_ := by
  obtain ⟨oc, od, kV, doc, pm, an, cdv, ct, osl, rfl, lk, hcd⟩ := F.ex
  refine ⟨?_⟩
  intro A outer s H args a dx d fs xs room e0 bind ha hl hd
  have kept : ∀ b o, base.get? b = some o → s.heap.get? b = some o := fun b o e => (e0.bs b o e).1
  have KX : K.In s.heap := e0.mod.kin.keeps kept
  have locals_ : ∀ y ∈ ([("self", Value.ref a)] : List (Str × Value)), (defScope st).names.lookup y.1 = some .local ∨ ((defScope st).names.lookup y.1 = some .cell ∧ ((cellsFrom (s.heap.objs.size + 1) (defScope st).names []).lookup y.1).isSome = true) := by
    rintro ⟨nm, v⟩ hy
    have hn : nm ∈ (["self"] : List Str) := by
      rcases List.mem_cons.mp hy with h | h
      · cases h; exact List.mem_cons_self
      · exact absurd h List.not_mem_nil
    refine (S.par nm hn).imp id fun q => ⟨q, ?_⟩
    exact PySem.W.cellsFrom_some _ _ _ (.inl q)
  refine codeAny_call_function room.depth (KX _ _ lk) rfl S.co S.gen rfl (PySem.W.codeRec_of KX hcd) (bind _ _ _ _ ?_)
  refine wpAny_newFunctionEnv_cells S.kind locals_ ?_
  rintro env rfl s1 x
  refine ⟨(e0.mod.nolimit.keeps kept).keeps x.toInCall.keep, codeAny_func ?_⟩
  obtain ⟨te, hpe, hg, hst, hte⟩ := he cdv A outer s H
  have I1 : Inv (cxB P w K mg base N q st f cdv A outer s H E0) [] (start N [.ref a]) H s1 := inv_start (us := [.ref a]) S room.hd e0 rfl (.cons rfl .nil) x
  have main : wpAny (model P w) (cxB P w K mg base N q st f cdv A outer s H E0).A (execs (defBody st) (cxB P w K mg base N q st f cdv A outer s H E0).env) (fun fl s' => ∃ it, fl = .ret (.ref it) ∧ (∃ σ', Inv (cxB P w K mg base N q st f cdv A outer s H E0) [] σ' H s') ∧ H it = none ∧ s.heap.objs.size ≤ it ∧ s'.heap.IsTupleIter it d 0) (cxB P w K mg base N q st f cdv A outer s H E0).xe s1 := by
    rw [hb]
    refine wpAny_execs_cons (thn (wpAny_Return_some (Q := fun fl s' => ∃ it, fl = .ret (.ref it) ∧ (∃ σ', Inv (cxB P w K mg base N q st f cdv A outer s H E0) [] σ' H s') ∧ H it = none ∧ s.heap.objs.size ≤ it ∧ s'.heap.IsTupleIter it d 0) (wpAny_Call_Name_kw (ld_blt I1 hg hm (by decide +kernel : bootBuiltins "iter" = some (.builtin "iter")) ?_ (by decide) (by decide)))) ?_)
    · refine PyProof.Rows.callWith_builtin1 (thn ((pa_cons hpe pa_nil (hs := hst)).run cp [] s1 (start N [.ref a]) H (fun vs H1 => vs = [.ref d] ∧ H1 = H) I1 (hte H _ a dx d fs ha hl ⟨rfl, rfl⟩)) fun us s2 z => ?_) hst (by rfl)
      obtain ⟨vs, H1, I2, r2, rfl, rfl⟩ := z
      obtain ⟨u, rfl, ru⟩ := vals1 r2
      obtain rfl : u = Value.ref d := ru
      obtain ⟨its, rv, pl, hz⟩ := I2.tuple hd
      refine call_iter_tuple pl ⟨_, rfl, ⟨_, I2.kept (t' := s2.toks) fun b ob e => Heap.get?_push_of_some _ e⟩, I2.hok.fresh (Nat.le_refl _), ?_, ⟨_, Heap.get?_push_size _ rfl, rfl, ?_⟩⟩
      · exact I2.sz
      · rfl
    · rintro fl s' ⟨it, rfl, h⟩
      exact ⟨it, rfl, h⟩
  refine wpAny_mono main ?_ (fun e s' z => z)
  rintro fl s' ⟨it, rfl, ⟨σ', J⟩, h1, h2, h3⟩
  exact ⟨it, H, rfl, rfl, J.os, J.bare, J.base, J.hok, h1, h2, h3⟩
end
/-- an own class with such an __iter__, its promise -/
structure ItrT (P : Program) (w : World) (K : PySem.W.Frag) (mg : Str → Option Value) (base : Heap) (k : Nat) (C : Addr) (at_ : Str) : Prop where
  ex : ∃ f fd, OpM K C "__iter__" f ∧ FnIT P w K mg base k f fd C at_ ∧ Binds K fd ["self"] []
section
variable {X : Cx} {C : Addr} {at_ : Str} {k j : Nat} {sp : Sp}
def rListT (K : PySem.W.Frag) (C : Addr) (at_ : Str) (sp : Sp) : List V → Hp → VK → Prop := fun xs H Q => ∃ a dx fs d ys, xs = [.ref a] ∧ H a = some (.ins C dx fs) ∧ fs.lookup at_ = some (.ref d) ∧ SqT K H d ys ∧
  (∀ q, H q = none → sp [.ref a] (upd H q (.lst [])) (fun z H3 => ∃ n : Nat, z = .int n ∧ n ≤ sizeLine ∧ H3 = upd H q (.lst [])) E0) ∧ ∀ p, H p = none → Q (.ref p) (upd H p (.lst ys))
theorem call_listT (hc : X.calm = true) (ci : ItrT X.prog X.w X.K X.mg X.base k C at_) (cl : OwC X.prog X.w X.K X.mg X.base k C "__len__" ["self"] sp) (hr : Room j X.A) (hk : k + 3 ≤ j) : CallR X (.type "list") (rListT X.K C at_ sp) := by
  intro pins s σ H xs us Q I r h
  obtain ⟨a, dx, fs, d, ys, rfl, ha, hl, hd, hlen, q⟩ := h
  obtain ⟨u, rfl, rx⟩ := vals1 r
  obtain rfl : u = Value.ref a := rx
  obtain ⟨fi, fdi, Mi, FI, bi⟩ := ci.ex
  obtain ⟨fl, fdl, Ml, _, FL, bl⟩ := cl.ex
  refine callType_codes (Q₁ := fun obj s₁ => obj = .ref s.heap.objs.size ∧ s₁ = { s with heap := s.heap.push { cls := .type "list", data := .seq #[] } }) PySem.F.called_list (PySem.F.typeCall_list_1 _) PySem.F.entry_list_init (code_list_new _ ⟨rfl, rfl⟩) ?_
  rintro obj s1 ⟨rfl, rfl⟩
  have I1 : Inv X pins σ (upd H s.heap.objs.size (.lst [])) { s with heap := s.heap.push { cls := .type "list", data := .seq #[] } } := I.lnew (its := []) (t' := s.toks) .nil (Nat.zero_le _)
  have free := I.fresh
  have pa : a ≠ s.heap.objs.size := ne_of_none ha free
  have dlt : d < s.heap.objs.size := by
    obtain ⟨_, _, pl, _⟩ := I.tuple hd
    exact pl.lt
  have pd : d ≠ s.heap.objs.size := Nat.ne_of_lt dlt
  obtain ⟨_, its, n, r1, l1, g1⟩ := I1.lstM upd_same
  cases r1
  refine ⟨⟨_, g1, rfl⟩, PySem.F.args_list_init_2 _ _, ?_⟩
  unfold Builtin.«list.__init__»
  refine wpAny_bind (m := Builtin.List.listItems (.ref s.heap.objs.size)) ?_
  unfold Builtin.List.listItems Builtin.List.listUpdate
  refine wpAny_bind (wpAny_seqItems g1 rfl (wpAny_pure (wpAny_bind (wpAny_updateSeq g1 rfl ?_))))
  have I2 := I1.lset (f := fun _ => #[]) (its := []) (its' := []) (ys := []) (t' := s.toks) upd_same g1 rfl .nil (Nat.zero_le _)
  rw [upd_upd] at I2
  refine wpAny_bind (wpAny_letGo ?_)
  obtain ⟨_, its2, n2, r2, l2, g2⟩ := I2.lstM upd_same
  cases r2
  have ha2 : upd H s.heap.objs.size (.lst []) a = some (.ins C dx fs) := by rw [upd_ne pa]; exact ha
  have hd2 : SqT X.K (upd H s.heap.objs.size (.lst [])) d ys := upT (same_new free) hd
  have hl2 := hlen _ free
  have hp2 : upd H s.heap.objs.size (.lst []) s.heap.objs.size = some (.lst []) := upd_same
  obtain ⟨H2, eH⟩ : ∃ H2, H2 = upd H s.heap.objs.size (.lst []) := ⟨_, rfl⟩
  rw [← eH] at I2 ha2 hd2 hl2 hp2
  obtain ⟨p, ep⟩ : ∃ p, p = s.heap.objs.size := ⟨_, rfl⟩
  rw [← ep] at g2 hp2 pa pd eH free dlt ⊢
  revert I2 g2
  rw [← ep]
  generalize ({ s with heap := (s.heap.push { cls := .type "list", data := .seq #[] }).update p (Obj.mapSeq fun _ => #[]) } : Shared) = s2
  intro I2 g2
  have low : Low X (k + 1) X.A.in1.in1 := ⟨((hr.mono (show k + 1 + 1 + 1 ≤ j by omega)).in1).in1, rfl⟩
  obtain ⟨oa, J⟩ := ins_at I2 ha2
  obtain ⟨m, fr⟩ := I2.fr
  have dlt2 : d < s2.heap.objs.size := by
    obtain ⟨_, _, pl, _⟩ := I2.tuple hd2
    exact pl.lt
  -- what is left when the iterator is there and the room is made
  have fin : ∀ (it : Addr) (s5 : Shared) (n5 : Nat), FpOk X pins H2 it → it ≠ p → it ≠ d → Inv X pins σ H2 s5 → s5.heap.get? p = some { cls := .type "list", data := .seq #[] n5 } → s5.heap.IsTupleIter it d 0 →
      codeAny (model X.prog X.w) X.A.in1 (.builtin "list.extend.loop" ⟨[.ref p, .ref it, .none], []⟩) (wants (fun r s₂ => r = .none ∧ EP X pins σ Q (.ref p) s₂) X.xe) s5 := by
    intro it s5 n5 hf hip hid I5 g5 hit
    obtain ⟨its5, r5, pl5, hz5⟩ := I5.tuple hd2
    have l5 := r5.length
    have off : p ∉ [it, d] := fun z => by
      rcases List.mem_cons.mp z with z | z
      · exact hip z.symm
      · exact pd (List.mem_singleton.mp z).symm
    refine codeAny_extend_loopS (Walks.tuple (prog := X.prog) (w := X.w) (A := X.A.in1.in1) (I.ok.hd hc) it d (Ne.symm hid) its5.toArray).toS (by rw [List.size_toArray]; omega) p off .none its5.toArray.size 0 _ #[] n5 rfl (Nat.zero_le _) ⟨hit, pl5⟩ g5 (ItemsOf.nil _) fun s6 acc n6 mv g6 all => ?_
    have eb : acc.toList = its5 := by
      apply List.ext_getElem?
      intro i
      rcases Nat.lt_or_ge i acc.size with hi | hi
      · have := all.2 i acc[i] (Array.getElem?_eq_getElem hi)
        rw [Array.getElem?_toList, Array.getElem?_eq_getElem hi]
        simpa using this.symm
      · have h1 : acc.size = its5.toArray.size := all.1
        have h2 : its5.length ≤ i := Nat.le_trans (Nat.le_of_eq (by rw [h1]; simp)) hi
        rw [List.getElem?_eq_none (by rw [Array.length_toList]; exact hi), List.getElem?_eq_none h2]
    have gp := Heap.get?_update_self (fun _ => ({ cls := .type "list", data := .seq acc n6 } : Obj)) g5 rfl
    have J6 := I5.write (x := p) (e := p) (o := .lst ys) (t' := s6.toks) (h' := s5.heap.update p fun _ => { cls := .type "list", data := .seq acc n6 }) (by rw [hp2]; exact trivial) (.inl rfl) (fun b o hb e => (Heap.get?_update_other _ _ (Ne.symm hb)).trans e) ⟨_, gp⟩
      ⟨hz5, acc.toList, n6, by rw [eb]; exact r5, by rw [Array.toArray_toList]; exact gp⟩
    obtain ⟨f0, f1, f2, f3, f4, f5⟩ := hf
    have J7 := J6.turned (h' := s6.heap) (t' := s6.toks) (it := it) (fun b o hb e => by
      by_cases ebp : b = p
      · subst ebp
        have e' := gp.symm.trans e
        cases e'
        exact g6
      · exact mv.heap b o (fun z => by
          rcases List.mem_cons.mp z with z | z
          · exact ebp z
          · exact hb (List.mem_singleton.mp z)) ((Heap.get?_update_other _ _ (Ne.symm ebp)).symm.trans e)) (by rw [upd_ne hip]; exact f0) f1 f3 f4 f5
    have fin : EP X pins σ Q (.ref p) s6 := by
      rw [Moved.eq_with mv]
      refine ⟨.ref p, _, J7, rfl, ?_⟩
      rw [eH, upd_upd]
      exact q p free
    exact ⟨rfl, fin⟩
  show wpAny _ _ (Builtin.List.listExtendWith (.ref p) (.ref a) .none) _ _ s2
  unfold Builtin.List.listExtendWith
  have no : (Builtin.List.listSameRef (.ref p) (.ref a) || Value.ref C == .type "list" || Value.ref C == .type "tuple") = false := by
    have : Builtin.List.listSameRef (.ref p) (.ref a) = false := by simp [Builtin.List.listSameRef, Ne.symm pa]
    rw [this]
    rfl
  refine wpAny_bind (J.type.here ?_)
  rw [if_neg (by rw [no]; decide)]
  have b := bi s2 [.ref a] I2.kIn (by rfl)
  refine wpAny_bind (PySem.W.owit_iter fr I2.ok.mod.kin J Mi.at_ Mi.fn (wpAny_call (codeAny_mono (FI.go X.A.in1.in1 X.stack s2 H2 ⟨[.ref a], []⟩ a dx d fs ys (low.room.mono (Nat.le_succ k)) (low.env0 I2) b ha2 hl hd2) fun y s3 end_ => ?_)))
  match y, end_ with
  | .error e, ⟨_, _, _, _, _, _, _, _, _, _, _, _, bad⟩ => exact bad.elim
  | .ok (.ret u), ⟨it, H', eu, eH', os, bare, un, hok, hn, hz, hit⟩ =>
    subst eu
    obtain ⟨hh, g, dd, t, os'⟩ := s3
    obtain rfl : os' = s2.os := os
    subst eH'
    have J3 := I2.call (h' := hh) (g' := g) (d' := dd) (t' := t) (ch := []) un hok bare (fun b z => absurd z (by simp))
    unfold PySem.W.OwitIt
    refine wpAny_specialOf hit.typeIs PySem.F.slot_tuple_iterator_next.lookup ?_
    have hf := I2.fpOk hz hn
    obtain ⟨oi, gi, ci2, di⟩ := id hit
    have J4 := J3.pinned (fp := [it]) (fun b hb => by rw [List.mem_singleton.mp hb]; exact hf) (fun b hb => by rw [List.mem_singleton.mp hb]; exact ⟨oi, gi, fun v z => by rw [di] at z; cases z⟩)
    obtain ⟨ob, J5⟩ := ins_at J4 ha2
    obtain ⟨m4, fr4⟩ := J4.fr
    have ni : it ≠ p := fun z => by rw [z, hp2] at hn; cases hn
    have nd : it ≠ d := fun z => absurd (Nat.lt_of_lt_of_le dlt2 hz) (by rw [z]; exact Nat.lt_irrefl _)
    refine wpAny_bind (wpAny_holding (own_length J4.kIn J5 Ml (PySem.W.len_K fr4 J4.ok.mod.kin J5 Ml.at_ Ml.fn (thn (run_low (vs := [.ref a]) FL (⟨low.room.in1, low.fr⟩ : Low X k X.A.in1.in1.in1) bl J4 (.cons rfl .nil) hl2) fun v s4 z => ?_))))
    obtain ⟨v4, H4, J6, r4, c, rfl, hc4, eH4⟩ := z
    obtain ⟨tc, rfl⟩ := r4
    subst eH4
    refine ⟨⟨by omega, by have := sizeLine_eq; omega⟩, c, _, rfl, hc4, ?_⟩
    have J7 := J6.unpinned.tok (s4.toks + 1)
    have at_it : s4.heap.get? it = some oi := (J6.pin (it, oi) (List.mem_append_right _ (List.mem_append_right _ (mem_pinsAt List.mem_cons_self gi)))).1
    have hit4 : s4.heap.IsTupleIter it d 0 := ⟨oi, at_it, ci2, di⟩
    obtain ⟨_, its5, n5, r5, l5, g5⟩ := J7.lstM hp2
    cases r5
    refine wpAny_ite_split (fun _ => ?_) (fun _ => wpAny_pure ⟨plainId_quiet PySem.F.plain_extend_loop _, fin it _ n5 hf ni nd J7 g5 hit4⟩)
    refine wpAny_bind (wpAny_rule (wpAny_bind ?_))
    unfold Builtin.List.listTouch Builtin.List.listUpdate
    refine wpAny_bind (wpAny_updateSeq g5 rfl ?_ (by simp [sizeLine_eq]) (by simp [sizeLine_eq]))
    have J8 := J7.lset (f := (·.push Value.none)) (its' := [Value.none]) (ys := [.non]) (t' := s4.toks + 1) hp2 g5 (by simp) (.cons rfl .nil) (by simp [sizeLine_eq])
    obtain ⟨_, its8, n8, r8, l8, g8⟩ := J8.lstM upd_same
    obtain ⟨u8, rfl, ru8⟩ := r8.one
    refine wpAny_updateSeq g8 rfl ?_ (by simp [sizeLine_eq]) (by simp [sizeLine_eq])
    have J9 := J8.lset (f := (·.pop)) (its := [u8]) (its' := []) (ys := []) (t' := s4.toks + 1) upd_same g8 (by rfl) .nil (Nat.zero_le _)
    have same : upd (upd H4 p (.lst [.non])) p (.lst []) = H4 := by
      rw [upd_upd]
      funext b
      by_cases e : b = p
      · rw [e, upd_same, hp2]
      · rw [upd_ne e]
    rw [same] at J9
    obtain ⟨_, its9, n9, r9, l9, g9⟩ := J9.lstM hp2
    cases r9
    refine wpAny_pure ⟨plainId_quiet PySem.F.plain_extend_loop _, fin it _ n9 hf ni nd J9 g9 ⟨oi, ?_, ci2, di⟩⟩
    exact (Heap.get?_update_other _ _ (Ne.symm ni)).trans ((Heap.get?_update_other _ _ (Ne.symm ni)).trans at_it)
end
end Ew

set_option Elab.async false
set_option linter.all false
set_option maxRecDepth 100000
set_option maxHeartbeats 4000000
namespace K49
open PySem PySem.Spec PyProof.Rows L2 Ew
section
variable {P : Program} {w : World} {K : PySem.W.Frag} {mg : Str → Option Value} {base : Heap} {a : Ad}
/-- Card(spots, rows), what stands before the call -/
theorem mk_cdX {H : Hp} {t1 t2 : Bool} {p : Addr} {v : V} {ds : List PyData} {Rs : List (List PyData)} {Q : Addr → Hp → Prop} {E : XK} (hp : Its K t1 H p ds) (le : ds.length ≤ 1000) (fl : ∀ d ∈ ds, Fl 2 d) (tb : RoD K t2 H v Rs)
    (k : ∀ ps f, ds = ps.map spD → OkS ps → Rs = tabL ps.length f → Cld ps.length f → ∀ H' x, Same H H' → H x = none → Cd P w K a.Card H' (.ref x) ps f → Q x H') (kb : ∀ z, Flaw ds Rs z → RaH H E a.BadCard fun H' d => H' d = some (.xd [("place", .int z)])) :
    ∀ o d, H o = none → H d = none → d ≠ o → sp_Cinit P w K a (.ref o :: [.ref p, v]) (upd (upd H d (.own o)) o (.ins a.Card d [])) (fun v H2 => v = .non ∧ Q o H2) E := by
  intro o d ho hd ne
  have ho' : (upd H d (.own o)) o = none := by rw [upd_ne (Ne.symm ne)]; exact ho
  refine ⟨t1, t2, o, d, p, v, ds, Rs, H, rfl, upd_same, (same_new hd).trans (same_new ho'), ho, hp, le, fl, tb, fun ps f e1 ok e2 hc H' sp dd rw e x1 h1 h2 h3 => ⟨rfl, ?_⟩, kb⟩
  exact k ps f e1 ok e2 hc H' o e ho ⟨o, d, sp, dd, rw, rfl, x1, h1, h2, h3⟩
theorem fl2_sps {ps : List Spot} (ok : OkS ps) : ∀ d ∈ ps.map spD, Fl 2 d := fun d hd => by
  obtain ⟨s, hs, rfl⟩ := List.mem_map.mp hd
  have := fl_sp (ok.ok s hs)
  exact ⟨this.c, Nat.le_trans this.d (by decide)⟩
theorem map_spD_inj {ps qs : List Spot} (h : ps.map spD = qs.map spD) : ps = qs := List.map_inj_right (fun _ _ z => spD_inj z) |>.mp h
theorem Cd.congr {C : Addr} {F : Hp} {v : V} {ps : List Spot} {f g : Tb2} (h : Cd P w K C F v ps f) (e : ∀ a b, a < ps.length → b < ps.length → f a b = g a b) : Cd P w K C F v ps g := by
  obtain ⟨x, dx, sp, d, rw, h1, h2, h3, h4, h5⟩ := h
  exact ⟨x, dx, sp, d, rw, h1, h2, h3, h4, h5.congr e⟩
theorem mk_cd {H : Hp} {t1 t2 : Bool} {p : Addr} {v : V} {ps : List Spot} {f : Tb2} {Q : Addr → Hp → Prop} {E : XK} (hp : Sps K t1 H p ps) (ok : OkS ps) (tb : Tb K t2 H v ps.length f) (hc : Cld ps.length f)
    (k : ∀ H' x, Same H H' → H x = none → Cd P w K a.Card H' (.ref x) ps f → Q x H') :
    ∀ o d, H o = none → H d = none → d ≠ o → sp_Cinit P w K a (.ref o :: [.ref p, v]) (upd (upd H d (.own o)) o (.ins a.Card d [])) (fun v H2 => v = .non ∧ Q o H2) E :=
  mk_cdX hp.its (by rw [List.length_map]; exact ok.le) (fl2_sps ok) tb.ro (fun ps' f' e1 _ e2 _ H' x e nx cd => by
    obtain rfl := map_spD_inj e1
    exact k H' x e nx (cd.congr fun a b ha hb => (tabL_inj e2 a b ha hb).symm)) fun _ z => absurd z (Flaw.no ok hc)
/-! ### len, iter, in, [ ], == -/
def sp_len (P : Program) (w : World) (K : PySem.W.Frag) (a : Ad) : Sp := fun vs H Q _ => ∃ (x : V) (ps : List Spot) (f : Tb2), vs = [x] ∧ Cd P w K a.Card H x ps f ∧ Q (.int (ps.length : Nat)) H
theorem o_Card_len (T : Txt K mg a) : OwC P w K mg base 1 a.Card "__len__" P_CardD_lenD (sp_len P w K a) := by
  obtain ⟨f, fd, M, hfn, F, b⟩ := T.o_len.ex
  refine ⟨f, fd, M, hfn, fun_ok F sc_CardD_lenD (fun vs H Q E h => by obtain ⟨x, ps, f, rfl, _⟩ := h; rfl) fun f cdv A outer s H vs Q E hr h => ?_, b⟩
  obtain ⟨_, ps, f, rfl, ⟨x, dx, sp, d, rw, rfl, hx, ⟨us, h1, h2⟩, _⟩, k⟩ := h
  refine ⟨_, ((pss_one (ps_ret (pe_callB call_len_seq (by rfl) T.n_len (by decide +kernel) (pa_cons (pe_fld (pv 0) rfl) pa_nil))))), ?_⟩
  refine ⟨_, rfl, x, a.Card, dx, _, _, rfl, hx, T.ki.cl, T.nS, rfl, sp, us, rfl, .inr h1, ?_⟩
  rw [Paired.length h2]
  exact k
theorem it_Card (T : Txt K mg a) : ItrT P w K mg base 1 a.Card "spots" := by
  obtain ⟨f, fd, M, hfn, F, b⟩ := T.o_iter.ex
  refine ⟨f, fd, M, fun_itT F sc_CardD_iterD (by rfl) T.n_iter fun cdv A outer s H => ⟨_, pe_fld (pv 0) rfl, by rfl, by rfl, fun H1 Q x dx d fs h1 h2 q => ?_⟩, b⟩
  exact ⟨_, rfl, x, a.Card, dx, fs, _, rfl, h1, T.ki.cl, T.nS, h2, q⟩
/-- is it one of these spots -/
def inC (ps : List Spot) (d : PyData) : Bool := match asSp d with
  | some s => decide (s ∈ ps)
  | none => false
theorem inC_sp {ps : List Spot} {s : Spot} : inC ps (spD s) = decide (s ∈ ps) := rfl
theorem inC_true {ps : List Spot} {d : PyData} (h : inC ps d = true) : ∃ s, d = spD s ∧ s ∈ ps := by
  unfold inC at h
  split at h
  · rename_i s e
    exact ⟨s, asSp_some e, of_decide_eq_true h⟩
  · cases h
def sp_has (P : Program) (w : World) (K : PySem.W.Frag) (a : Ad) : Sp := fun vs H Q _ => ∃ (x v : V) (ps : List Spot) (f : Tb2) (d : PyData), vs = [x, v] ∧ Cd P w K a.Card H x ps f ∧ ps.Nodup ∧ Dp K H v d ∧ Q (.bl (inC ps d)) H
theorem plc_is {ps : List Spot} (nd : ps.Nodup) (s : Spot) : (valV (plc 0 ps) (spK s)).isSome = decide (s ∈ ps) := by
  by_cases h : s ∈ ps
  · obtain ⟨i, hi⟩ := List.mem_iff_getElem?.mp h
    rw [plc_some nd hi, decide_eq_true h]
    rfl
  · rw [plc_none h, decide_eq_false h]
    rfl
theorem o_Card_contains (T : Txt K mg a) : OwC P w K mg base 3 a.Card "__contains__" P_CardD_containsD (sp_has P w K a) := by
  obtain ⟨f, fd, M, hfn, F, b⟩ := T.o_contains.ex
  refine ⟨f, fd, M, hfn, fun_ok F sc_CardD_containsD (fun vs H Q E h => by obtain ⟨x, v, ps, f, s, rfl, _⟩ := h; rfl) fun f cdv A outer s H vs Q E hr h => ?_, b⟩
  obtain ⟨_, v, ps, f, dd, rfl, ⟨x, dx, spa, d, rw, rfl, hx, _, hd, _⟩, nd, hv, k⟩ := h
  refine ⟨_, ((pss_one (ps_ret (pe_and (pe_f (c_is_spot T) (takes_of rfl rfl rfl rfl) hr (by decide) rfl (pa_cons (pv 1) pa_nil)) (pe_one (pe_cmp (pc_dinX (hu_of hr) (pv 1) (pe_fld (pv 0) rfl)) rfl)))))), ?_⟩
  refine ⟨_, rfl, arg1 (sp_is_spot K) (is_spotD hv ?_)⟩
  unfold inC at k
  cases e : asSp dd with
  | none =>
    rw [e] at k
    exact ⟨_, rfl, iteF k⟩
  | some sp =>
    rw [e] at k
    rw [asSp_some e] at hv
    obtain ⟨q, rfl, hq⟩ := dp_sps hv
    refine ⟨_, rfl, iteT ?_⟩
    refine ⟨_, rfl, _, rfl, x, a.Card, dx, _, _, rfl, hx, T.ki.cl, T.nP, rfl, d, q, _, spK sp, rfl, rfl, hd, hq, ?_⟩
    rw [plc_is nd]
    exact k
def sp_place (P : Program) (w : World) (K : PySem.W.Frag) (a : Ad) : Sp := fun vs H Q E => ∃ (x v : V) (ps : List Spot) (f : Tb2) (d : PyData), vs = [x, v] ∧ Cd P w K a.Card H x ps f ∧ ps.Nodup ∧ Dp K H v d ∧ (∀ (i : Nat) s, d = spD s → ps[i]? = some s → Q (.int i) H) ∧ (inC ps d = false → RaH H E a.NoSpot fun F' d => F' d = some (.xd [("spot", v)]))
theorem m_Card__place (T : Txt K mg a) : Mt P w K mg base 4 a.Card "_place" P_Card__place (sp_place P w K a) [] := by
  obtain ⟨f, fd, M, F, b⟩ := T.m__place.ex
  refine ⟨T.ki.cl, f, fd, [], M, fun_ok F sc_Card__place (fun vs H Q E h => by obtain ⟨x, v, ps, f, s, rfl, _⟩ := h; rfl) fun f cdv A outer s H vs Q E hr h => ?_, b, .nil⟩
  obtain ⟨x, v, ps, f, dd, rfl, cd, nd, hv, k1, k2⟩ := h
  obtain ⟨x, dx, spa, d, rw, rfl, hx, h1, hd, h2⟩ := id cd
  refine ⟨_, ((pss_cons (ps_if (pt_cmp (pc_ninC (o_Card_contains T) (takes_of rfl rfl rfl rfl) hr (by decide) (pv 1) (pv 0)) rfl)
 (pss_one (ps_raise1 rfl (takes_of rfl rfl rfl rfl) (x_NoSpot T) hr (by decide) rfl (pv 1)))
 pss_nil)
 (pss_one (ps_ret (pe_dgetX (hu_of hr) (pe_fld (pv 0) rfl) (pv 1) (fun _ _ => rfl)))))), ?_⟩
  refine ⟨_, rfl, _, rfl, x, dx, _, rfl, hx, _, _, ps, f, dd, rfl, cd, nd, hv, _, rfl, ?_⟩
  by_cases h : inC ps dd = true
  · rw [h]
    obtain ⟨s, rfl, hs⟩ := inC_true h
    obtain ⟨q, rfl, hq⟩ := dp_sps hv
    obtain ⟨i, hi⟩ := List.mem_iff_getElem?.mp hs
    refine ⟨_, rfl, iteF ⟨_, rfl, x, a.Card, dx, _, _, rfl, hx, T.ki.cl, T.nP, rfl, _, rfl, d, q, _, spK s, _, rfl, rfl, hd, hq, plc_some nd hi, ?_⟩⟩
    rw [Nat.zero_add]
    exact k1 i s rfl hi
  · have h := Bool.eq_false_iff.mpr h
    rw [h]
    exact ⟨_, rfl, iteT ⟨_, rfl, fun d hd => k2 h _ d (same_new hd) upd_same⟩⟩
def sp_at (P : Program) (w : World) (K : PySem.W.Frag) (a : Ad) : Sp := fun vs H Q E => ∃ (x u v : V) (q : Addr) (ps : List Spot) (f : Tb2) (d1 d2 : PyData), vs = [x, .ref q] ∧ Cd P w K a.Card H x ps f ∧ ps.Nodup ∧ SqT K H q [u, v] ∧ Dp K H u d1 ∧ Dp K H v d2 ∧
  (∀ (i j : Nat) s1 s2, d1 = spD s1 → d2 = spD s2 → ps[i]? = some s1 → ps[j]? = some s2 → Q (.int (f i j)) H) ∧ (inC ps d1 = false → RaH H E a.NoSpot fun F' d => F' d = some (.xd [("spot", u)])) ∧ (inC ps d1 = true → inC ps d2 = false → RaH H E a.NoSpot fun F' d => F' d = some (.xd [("spot", v)]))
theorem o_Card_getitem (T : Txt K mg a) : OwC P w K mg base 5 a.Card "__getitem__" P_CardD_getitemD (sp_at P w K a) := by
  obtain ⟨f, fd, M, hfn, F, b⟩ := T.o_getitem.ex
  refine ⟨f, fd, M, hfn, fun_ok F sc_CardD_getitemD (fun vs H Q E h => by obtain ⟨x, u, v, q, ps, f, s1, s2, rfl, _⟩ := h; rfl) fun f cdv A outer s H vs Q E hr h => ?_, b⟩
  obtain ⟨x, u, v, q, ps, f, d1, d2, rfl, cd, nd, hq, hu, hv, k, b1, b2⟩ := h
  obtain ⟨x, dx, spa, d, rw, rfl, hx, h1, hd, ⟨_, us, er, hrw, hl, hus⟩⟩ := id cd
  cases er
  refine ⟨_, ((pss_cons (ps_asg (pv 1) (pg_tup rfl (pgs_cons (pg_name (i := 2) sc_CardD_getitemD.nd rfl (Or.inl rfl)) (pgs_cons (pg_name (i := 3) sc_CardD_getitemD.nd rfl (Or.inl rfl)) pgs_nil))))
 (pss_one (ps_ret (pe_ix ix_tup (pe_ix ix_tup (pe_fld (pv 0) rfl) (pe_mf (m_Card__place T) (takes_of rfl rfl rfl rfl) hr (by decide) (pv 0) (pa_cons (pv 2) pa_nil)) (fun _ _ => rfl)) (pe_mf (m_Card__place T) (takes_of rfl rfl rfl rfl) hr (by decide) (pv 0) (pa_cons (pv 3) pa_nil)) (fun _ _ => rfl)))))), ?_⟩
  refine ⟨_, rfl, q, _, rfl, hq, rfl, _, _, rfl, _, _, rfl, rfl, ?_⟩
  refine ⟨_, rfl, x, a.Card, dx, _, _, rfl, hx, T.ki.cl, T.nR, rfl, _, rfl, x, dx, _, rfl, hx, rfl, _, rfl, ?_⟩
  refine ⟨_, u, ps, f, d1, rfl, cd, nd, hu, fun i s1 ed1 hi => ?_, b1⟩
  have il := (List.getElem?_eq_some_iff.mp hi).1
  obtain ⟨xi, hxi⟩ : ∃ y, us[i]? = some y := ⟨_, List.getElem?_eq_getElem (by omega)⟩
  obtain ⟨qi, rfl, hqi⟩ := hus i xi hxi
  refine ⟨rw, us, _, _, rfl, rfl, hrw, atI_int (by omega) (by omega) (by rw [Int.toNat_natCast]; exact hxi), ?_⟩
  refine ⟨_, rfl, x, dx, _, rfl, hx, rfl, _, rfl, ?_⟩
  refine ⟨_, v, ps, f, d2, rfl, cd, nd, hv, fun j s2 ed2 hj => ?_, fun z => b2 (by rw [ed1, inC_sp, decide_eq_true (List.mem_of_getElem? hi)]) z⟩
  have jl := (List.getElem?_eq_some_iff.mp hj).1
  exact ⟨qi, _, _, _, rfl, rfl, hqi, atI_int (by omega) (by rw [rowV_len]; omega) (by rw [Int.toNat_natCast]; exact rowV_at jl), k i j s1 s2 ed1 ed2 hi hj⟩
/-! ### == -/
theorem dp_row {K : PySem.W.Frag} {H : Hp} {q : Addr} {n : Nat} {g : Nat → Int} (h : SqT K H q (rowV n g)) : Dp K H (.ref q) (intT ((List.range n).map g)) := by
  refine dp_ints ?_
  rw [List.map_map]
  exact h
def tabD (n : Nat) (f : Tb2) : PyData := .tuple ((List.range n).map fun i => intT ((List.range n).map (f i)))
theorem Tb.dp {K : PySem.W.Frag} {H : Hp} {v : V} {n : Nat} {f : Tb2} (h : Tb K true H v n f) : Dp K H v (tabD n f) := by
  obtain ⟨p, us, rfl, h2, h3, h4⟩ := h
  refine .tup h2 (dp_of (by rw [List.length_map, List.length_range, h3]) fun i u d e1 e2 => ?_)
  obtain ⟨q, rfl, hq⟩ := h4 i u e1
  have hi : i < n := by have := (List.getElem?_eq_some_iff.mp e1).1; omega
  rw [List.getElem?_map, List.getElem?_range hi] at e2
  cases e2
  exact dp_row hq
def spsD (ps : List Spot) : PyData := .tuple (ps.map spD)
theorem Sps.dp {K : PySem.W.Frag} {H : Hp} {p : Addr} {ps : List Spot} (h : Sps K true H p ps) : Dp K H (.ref p) (spsD ps) := by
  obtain ⟨us, h1, h2⟩ := h
  refine .tup h1 (dp_of (by rw [List.length_map, Paired.length h2]) fun i u d e1 e2 => ?_)
  obtain ⟨s, hs, hq⟩ := paired_get h2 e1
  rw [List.getElem?_map, hs] at e2
  cases e2
  exact hq.dp
theorem fl_ints (ds : List Int) : Fl 1 (intT ds) := Fl.tup (FlA.all fun d hd => by
  obtain ⟨i, _, rfl⟩ := List.mem_map.mp hd
  exact Fl.int)
theorem fl_tab {n : Nat} {f : Tb2} : Fl 2 (tabD n f) := Fl.tup (FlA.all fun d hd => by
  obtain ⟨i, _, rfl⟩ := List.mem_map.mp hd
  exact fl_ints _)
theorem fl_sps {ps : List Spot} (h : ∀ p ∈ ps, PyData.strOk p.1 = true) : Fl 2 (spsD ps) := Fl.tup (FlA.all fun d hd => by
  obtain ⟨p, hp, rfl⟩ := List.mem_map.mp hd
  exact fl_sp (h p hp))
theorem eqvAll_map {α : Type} [DecidableEq α] {g : α → PyData} (hg : ∀ x y, PyData.eqv (g x) (g y) = decide (x = y)) : ∀ xs ys : List α, PyData.eqvAll (xs.map g) (ys.map g) = decide (xs = ys)
  | [], [] => by simp [PyData.eqvAll]
  | [], _ :: _ => by simp [PyData.eqvAll]
  | _ :: _, [] => by simp [PyData.eqvAll]
  | x :: xs, y :: ys => by
    rw [List.map_cons, List.map_cons, PyData.eqvAll, hg, eqvAll_map hg]
    by_cases h1 : x = y <;> by_cases h2 : xs = ys <;> simp [h1, h2]
theorem eqv_sps (ps qs : List Spot) : PyData.eqv (spsD ps) (spsD qs) = decide (ps = qs) := by
  unfold spsD
  rw [PyData.eqv, eqvAll_map eqv_sp]
theorem eqv_tab {n : Nat} {f g : Tb2} : PyData.eqv (tabD n f) (tabD n g) = true ↔ ∀ i j, i < n → j < n → f i j = g i j := by
  unfold tabD
  have e : ∀ h : Tb2, ((List.range n).map fun i => intT ((List.range n).map (h i))) = ((List.range n).map fun i => (List.range n).map (h i)).map intT := fun h => by rw [List.map_map]; rfl
  rw [PyData.eqv, e f, e g, eqvAll_map eqv_ints, decide_eq_true_iff]
  constructor
  · intro z i j hi hj
    have z1 := congrArg (fun l => l[i]?) z
    simp only [List.getElem?_map, List.getElem?_range hi, Option.map_some, Option.some.injEq] at z1
    have z2 := congrArg (fun l => l[j]?) z1
    simpa only [List.getElem?_map, List.getElem?_range hj, Option.map_some, Option.some.injEq] using z2
  · intro z
    refine List.map_congr_left fun i hi => List.map_congr_left fun j hj => z i j (List.mem_range.mp hi) (List.mem_range.mp hj)
theorem ty_card (T : Txt K mg a) {H : Hp} {x dx : Addr} {fs : List (Str × V)} (h : H x = some (.ins a.Card dx fs)) : TyX K H (.ref x) (.ref a.Card) := T.ki.ty h
/-- what stands at the right of == -/
def Oth (P : Program) (w : World) (K : PySem.W.Frag) (a : Ad) (H : Hp) (y : V) (ps : List Spot) (f : Tb2) (b : Bool) : Prop := (∃ qs g, Cd P w K a.Card H y qs g ∧ OkS qs ∧ b = (decide (ps = qs) && PyData.eqv (tabD ps.length f) (tabD qs.length g))) ∨ ((∃ T, Kd K H y T) ∧ b = false)
def sp_eq (P : Program) (w : World) (K : PySem.W.Frag) (a : Ad) : Sp := fun vs H Q _ => ∃ (x y : V) (ps : List Spot) (f : Tb2) (b : Bool), vs = [x, y] ∧ Cd P w K a.Card H x ps f ∧ OkS ps ∧ Oth P w K a H y ps f b ∧ Q (.bl b) H
theorem Kd.noC {H : Hp} {v : V} {t : String} (T : Txt K mg a) (h : Kd K H v t) : PySem.W.kitOne K (.type t) (.ref a.Card) = some false := by
  cases h <;> exact T.no _ (by simp)
theorem o_Card_eq (T : Txt K mg a) : OwC P w K mg base 1 a.Card "__eq__" P_CardD_eqD (sp_eq P w K a) := by
  obtain ⟨f, fd, M, hfn, F, b⟩ := T.o_eq.ex
  refine ⟨f, fd, M, hfn, fun_ok F sc_CardD_eqD (fun vs H Q E h => by obtain ⟨x, y, ps, f, g, rfl, _⟩ := h; rfl) fun f cdv A outer s H vs Q E hr h => ?_, b⟩
  obtain ⟨_, y, ps, f, bb, rfl, ⟨x, dx, sx, d, rx, rfl, hx, h1, h2, h3⟩, ok, oth, k⟩ := h
  refine ⟨_, ((pss_one (ps_ret (pe_and (pe_callB call_isi (by rfl) T.n_isinstance (by decide +kernel) (pa_cons (pv 1) (pa_cons (pe_glob (v := .ref a.Card) rfl T.g_Card rfl) pa_nil))) (pe_and (pe_cmpR (op_eqD hr.units) (pe_fld (pv 0) rfl) (pe_fld (pv 1) rfl) (nomark _)) (pe_one (pe_cmpR (op_eqD hr.units) (pe_fld (pv 0) rfl) (pe_fld (pv 1) rfl) (nomark _)))))))), ?_⟩
  rcases oth with ⟨qs, g, ⟨y, dy, sy, d', ry, rfl, hy, h4, h5, h6⟩, ok2, rfl⟩ | ⟨⟨t, kd⟩, rfl⟩
  · refine ⟨_, rfl, _, _, _, _, true, rfl, .own _, ty_card T hy, kit_same, true, rfl, iteT ?_⟩
    refine ⟨_, rfl, x, a.Card, dx, _, _, rfl, hx, T.ki.cl, T.nS, rfl, _, rfl, y, a.Card, dy, _, _, rfl, hy, T.ki.cl, T.nS, rfl, spsD ps, spsD qs, h1.dp, h4.dp, (fl_sps ok.ok).sh (by decide), (fl_sps ok2.ok).sh (by decide), ?_⟩
    rw [eqv_sps]
    by_cases e : ps = qs
    · rw [decide_eq_true e] at k ⊢
      refine ⟨true, rfl, iteT ?_⟩
      exact ⟨_, rfl, x, a.Card, dx, _, _, rfl, hx, T.ki.cl, T.nR, rfl, _, rfl, y, a.Card, dy, _, _, rfl, hy, T.ki.cl, T.nR, rfl, tabD ps.length f, tabD qs.length g, h3.dp, h6.dp, fl_tab.sh (by decide), fl_tab.sh (by decide), k⟩
    · rw [decide_eq_false e] at k ⊢
      exact ⟨false, rfl, iteF k⟩
  · exact ⟨_, rfl, _, _, _, _, false, rfl, .own _, kd.ty, kd.noC T, false, rfl, iteF k⟩
end
end K49

set_option Elab.async false
set_option linter.all false
set_option maxRecDepth 100000
set_option maxHeartbeats 4000000
namespace K49
open PySem PySem.Spec PyProof.Rows L2 Ew
/-! ### the law's own tables, that it writes -/
structure Raw (H0 H : Hp) (p : Addr) (qs : List Addr) (n : Nat) (f : Tb2) : Prop where
  at_ : H p = some (.lst (qs.map V.ref))
  len : qs.length = n
  nd : qs.Nodup
  np : p ∉ qs
  p0 : H0 p = none
  q0 : ∀ q ∈ qs, H0 q = none
  row : ∀ i q, qs[i]? = some q → H q = some (.lst (rowV n (f i)))
section
variable {K : PySem.W.Frag} {H0 H H' : Hp} {p q : Addr} {qs : List Addr} {n i j : Nat} {f g : Tb2} {x : Int}
theorem Raw.tb (h : Raw H0 H p qs n f) : Tb K false H (.ref p) n f :=
  ⟨p, _, rfl, SqL.of h.at_, by rw [List.length_map, h.len], fun i u hu => by
    rw [List.getElem?_map] at hu
    obtain ⟨q, h1, rfl⟩ := Option.map_eq_some_iff.mp hu
    exact ⟨q, rfl, SqL.of (h.row i q h1)⟩⟩
theorem Raw.up (h : Raw H0 H p qs n f) (e : Same H H') : Raw H0 H' p qs n f := ⟨e _ _ h.at_, h.len, h.nd, h.np, h.p0, h.q0, fun i q z => e _ _ (h.row i q z)⟩
theorem Raw.congr (h : Raw H0 H p qs n f) (e : ∀ a b, a < n → b < n → f a b = g a b) : Raw H0 H p qs n g := ⟨h.at_, h.len, h.nd, h.np, h.p0, h.q0, fun i q z => by
  have hi : i < n := by rw [← h.len]; exact (List.getElem?_eq_some_iff.mp z).1
  rw [h.row i q z, rowV_congr fun j hj => e i j hi hj]⟩
theorem rowV_set {r : Nat → Int} : (rowV n r).set j (.int x) = rowV n fun b => if b = j then x else r b := by
  refine rowV_of (by rw [List.length_set, rowV_len]) fun k y e => ?_
  rw [List.getElem?_set] at e
  by_cases h : j = k
  · subst h
    rw [if_pos rfl] at e
    split at e
    · cases e
      rw [if_pos rfl]
    · cases e
  · rw [if_neg h] at e
    obtain ⟨_, rfl⟩ := rowV_get e
    rw [if_neg (Ne.symm h)]
theorem Raw.put (h : Raw H0 H p qs n f) (hq : qs[i]? = some q) : Raw H0 (upd H q (.lst ((rowV n (f i)).set j (.int x)))) p qs n (fun a b => if a = i ∧ b = j then x else f a b) where
  at_ := by rw [upd_ne (fun z => h.np (by rw [z]; exact List.mem_of_getElem? hq))]; exact h.at_
  len := h.len
  nd := h.nd
  np := h.np
  p0 := h.p0
  q0 := h.q0
  row := fun k r hr => by
    by_cases e : k = i
    · subst e
      rw [hq] at hr
      cases hr
      rw [upd_same, rowV_set]
      congr 3
      funext b
      by_cases z : b = j <;> simp [z]
    · have ne : r ≠ q := fun z => e (by
        subst z
        exact (List.getElem?_inj (List.getElem?_eq_some_iff.mp hr).1 h.nd).mp (hr.trans hq.symm))
      rw [upd_ne ne, h.row k r hr]
      congr 3
      funext b
      rw [if_neg fun z => e z.1]
theorem Raw.same (h : Raw H0 H p qs n f) (hq : qs[i]? = some q) (e : Same H0 H) {o : HO} : Same H0 (upd H q o) := same_mut e (h.q0 q (List.mem_of_getElem? hq))
theorem refs_of {P : Nat → Addr → Prop} : ∀ {ys : List V}, (∀ (j : Nat) y, ys[j]? = some y → ∃ q, y = V.ref q ∧ P j q) → ∃ qs : List Addr, ys = qs.map V.ref ∧ ∀ (j : Nat) q, qs[j]? = some q → P j q := by
  intro ys
  induction ys generalizing P with
  | nil => exact fun _ => ⟨[], rfl, fun j q z => by simp at z⟩
  | cons y ys ih =>
    intro h
    obtain ⟨q, rfl, hq⟩ := h 0 y rfl
    obtain ⟨qs, rfl, hqs⟩ := ih (P := fun j q => P (j + 1) q) fun j y z => h (j + 1) y z
    exact ⟨q :: qs, rfl, fun j r z => by
      cases j with
      | zero => cases z; exact hq
      | succ j => exact hqs j r z⟩
/-- [list(row) for row in rows] -/
theorem copy_tab {v : V} {σ : L2.St} {vs : List Nat} {Q : VK} {i j : Nat} (h0 : σ[i]? = some (some v)) (hv : ∀ x, ((wipe σ vs).set j (some x))[j]? = some (some x)) (hw : ∀ x, wipe ((wipe σ vs).set j (some x)) vs = wipe σ vs) (tb : Tb K false H v n f) (hn : n ≤ 1000)
    (k : ∀ H' p qs, Same H H' → Raw H H' p qs n f → Q (.ref p) H') : tLc (iList K (tVar i)) (gName j) tYes (tCB (rLstS K) (tCons (tVar j) tNil)) vs σ H Q := by
  obtain ⟨p, us, rfl, hp, hl, hu⟩ := tb
  refine ⟨_, h0, p, rfl, ⟨us, hp⟩, fun D hD => ?_⟩
  refine lcS memP walk_list (fun acc => acc.Nodup) (.refl H) trivial .nil hD (fun i F y => ∃ q, y = V.ref q ∧ H q = none ∧ F q = some (.lst (rowV n (f i)))) (fun _ _ _ _ e z => by obtain ⟨q, z1, z2, z3⟩ := z; exact ⟨q, z1, z2, e _ _ z3⟩) (by omega) (fun F' H' e1 e2 => upL (e1.trans e2) hp) ?_ ?_
  · rintro i x F' _ H1 acc Kt Kn hi s1 _ hacc nd hr ⟨rfl, hx⟩ kk
    obtain ⟨q, rfl, hq⟩ := hu i x hx
    refine ⟨hw _, lc_yes ⟨_, hv _, ?_⟩⟩
    dsimp only [tNil]
    refine ⟨q, _, rfl, .inl (upL (s1.ff.trans s1.fh) hq), fun l hl => ?_⟩
    have l0 : H l = none := s1.freshP hl
    refine kk (.ref l) _ _ ((Stm.refl s1.fh).newP hl) trivial ⟨l, rfl, l0, upd_same⟩ ?_
    rw [List.nodup_append]
    refine ⟨nd, by simp, fun a ha b hb => ?_⟩
    rw [List.mem_singleton] at hb
    subst hb
    rintro rfl
    obtain ⟨j, hj⟩ := List.mem_iff_getElem?.mp ha
    obtain ⟨q', e, _, z⟩ := hr j _ hj
    cases e
    rw [s1.fh _ _ z] at hl
    cases hl
  · intro F1 H1 ys s1 _ _ hD' hy nd hr
    obtain ⟨qs, rfl, hqs⟩ := refs_of (P := fun i q => H q = none ∧ F1 q = some (.lst (rowV n (f i)))) fun j y z => by obtain ⟨q, z1, z2, z3⟩ := hr j y z; exact ⟨q, z1, z2, z3⟩
    rw [List.length_map] at hy
    have ql : qs.length = n := hy.trans hl
    refine k H1 D qs (s1.ff.trans s1.fh) ⟨s1.fh _ _ hD', ql, (List.pairwise_map.mp nd).imp fun z e => z (congrArg _ e), fun m => ?_, hD, fun q m => ?_, fun i q z => s1.fh _ _ (hqs i q z).2⟩
    · obtain ⟨j, hj⟩ := List.mem_iff_getElem?.mp m
      have z := (hqs j D hj).2
      rw [hD'] at z
      injection z with z
      injection z with z
      have jn : j < n := by rw [← ql]; exact (List.getElem?_eq_some_iff.mp hj).1
      have := congrArg (fun l => l[j]?) z
      simp only [List.getElem?_map, hj, Option.map_some] at this
      rw [rowV_at jn] at this
      cases this
    · obtain ⟨j, hj⟩ := List.mem_iff_getElem?.mp m
      exact (hqs j q hj).1
end
end K49

set_option Elab.async false
set_option linter.all false
set_option maxRecDepth 100000
set_option maxHeartbeats 4000000
namespace K49
open PySem PySem.Spec PyProof.Rows L2 Ew
theorem takes0N {X : Cx} : L2N.Takes X (fun _ _ _ _ => False) := fun _ _ x => by
  obtain ⟨_, _, _, _, _, _, _, _, _, _, _, _, _, _, _, _, z⟩ := x
  exact z.elim
section
variable {P : Program} {w : World} {K : PySem.W.Frag} {mg : Str → Option Value} {base : Heap} {a : Ad}
/-! ### a card that is not judged; a bound entered -/
theorem okG : OkS [ground] := ⟨by simp, rfl, fun p hp => by rw [List.mem_singleton] at hp; subst hp; decide +kernel, by decide⟩
def sp__trusted (P : Program) (w : World) (K : PySem.W.Frag) (a : Ad) : Sp := fun vs H Q _ => ∃ (t : Bool) (p : Addr) (v : V) (ps : List Spot) (f : Tb2), vs = [.ref p, v] ∧ Sps K true H p ps ∧ OkS ps ∧ Tb K t H v ps.length f ∧ ∀ H' x, Same H H' → Cd P w K a.Card H' x ps f → Q x H'
theorem c__trusted (T : Txt K mg a) : Cl P w K mg base 7 "_trusted" P__trusted (sp__trusted P w K a) [] :=
  T.d__trusted.cl sc__trusted (fun vs H Q E h => by obtain ⟨t, p, v, ps, f, rfl, _⟩ := h; rfl) fun f cdv A outer s H vs Q E hr h => by
    obtain ⟨t, p, _, ps, f, rfl, hp, ok, ⟨r, rs, rfl, hr0, hrl, hrs⟩, k⟩ := h
    refine ⟨_, ((pss_cons (ps_set (i := 2) sc__trusted.nd rfl (Or.inl rfl) (pe_mkW (mk_Card T) (takes_of rfl rfl rfl rfl) hr (by decide) rfl (pa_cons (pe_tup (pa_cons (pe_glob (by rfl) T.k_GROUND rfl (v := .ref a.aG)) pa_nil)) (pa_cons (pe_tup (pa_cons (pe_tup (pa_cons pe_int pa_nil)) pa_nil)) pa_nil))))
 (pss_cons (ps_fld (pv 2) (pv 0) rfl)
 (pss_cons (ps_fld (pv 2) (pe_fN (c_places_of T) takes0N hr (by decide) rfl (pa_cons (pv 0) pa_nil)) rfl)
 (pss_cons (ps_fld (pv 2) (pe_callTy call_tupS (by rfl) T.n_tuple (by decide +kernel) (pa_cons (pe_lc (own := [("row", 3)]) (g := (gName 3)) (by rfl) sc__trusted.nd (pi_seq (pv 1)) (blkOk_by (own := [("row", 3)]) (N := N__trusted) (sc := defScope s__trusted) (by decide +kernel)) (fun _ _ _ _ _ => (pg_name (i := 3) sc__trusted.nd rfl (Or.inl rfl) (hf := .inr rfl))) (fun _ _ _ _ _ => pts_nil) (fun _ _ _ _ _ => (pe_callTy (T := "tuple") (r := rTupS K) call_tupS (by rfl) T.n_tuple (by decide +kernel) (pa_cons (pv 3) pa_nil)))) pa_nil)) rfl)
 (pss_one (ps_ret (pv 2)))))))), ?_⟩
    refine ⟨by show 1 ≤ sizeLine; decide, fun p1 n1 => ?_⟩
    refine ⟨by show 1 ≤ sizeLine; decide, fun p2 n2 => ?_⟩
    refine ⟨by show 1 ≤ sizeLine; decide, fun p3 n3 => ?_⟩
    have e1 : Same H (upd H p1 (.tup [.ref a.aG])) := same_new n1
    have e2 := e1.trans (same_new (o := .tup [.int 0]) n2)
    have e3 := e2.trans (same_new (o := .tup [.ref p2]) n3)
    dsimp only [tNil]
    refine mk_cd (t1 := true) (t2 := true) (ps := [ground]) (f := fun _ _ => 0) ?_ okG ?_ ⟨fun _ _ => rfl, fun _ _ _ _ _ _ => by decide⟩ fun H4 x e4 nx cd => ?_
    · exact ⟨[.ref a.aG], upT (same_new n3) (upT (same_new n2) sq_new), .cons ⟨_, rfl, T.t_GROUND _⟩ .nil⟩
    · refine ⟨p3, [.ref p2], rfl, sq_new, rfl, fun i u hi => ?_⟩
      match i, hi with
      | 0, hi =>
        cases hi
        exact ⟨p2, rfl, upT (same_new n3) sq_new⟩
    · have e04 := e3.trans e4
      have nxH : H x = none := by
        cases q : H x with
        | none => rfl
        | some u => rw [e3 x u q] at nx; cases nx
      obtain ⟨_, dx, sp0, d0, r0, ex, hx, _⟩ := cd
      cases ex
      dsimp only [gName]
      refine ⟨_, rfl, _, rfl, x, a.Card, dx, _, rfl, hx, T.ki.cl, T.nS, Nat.le_of_ble_eq_true rfl, ?_⟩
      have e5 : Same H (upd H4 x (.ins a.Card dx (putF "spots" (.ref p) [("spots", .ref sp0), ("_places", .ref d0), ("rows", .ref r0)]))) := same_mut e04 nxH
      have x5 : (upd H4 x (.ins a.Card dx (putF "spots" (.ref p) [("spots", .ref sp0), ("_places", .ref d0), ("rows", .ref r0)]))) x = some (.ins a.Card dx [("spots", .ref p), ("_places", .ref d0), ("rows", .ref r0)]) := upd_same
      generalize upd H4 x (.ins a.Card dx (putF "spots" (.ref p) [("spots", .ref sp0), ("_places", .ref d0), ("rows", .ref r0)])) = H5 at e5 x5
      refine ⟨_, rfl, p, ps.map spD, rfl, (hp.up e5).its, by rw [List.length_map]; exact ok.le, fl2_sps ok, fun ps' ep _ H6 d e6 d6 _ => ?_, fun i z => absurd z (OkD.noS ⟨ps, rfl, ok⟩)⟩
      obtain rfl := map_spD_inj ep
      have x6 := e6 _ _ x5
      refine ⟨_, rfl, x, a.Card, dx, _, rfl, x6, T.ki.cl, T.nP, Nat.le_of_ble_eq_true rfl, ?_⟩
      have e7 : Same H (upd H6 x (.ins a.Card dx (putF "_places" (.ref d) [("spots", .ref p), ("_places", .ref d0), ("rows", .ref r0)]))) := same_mut (e5.trans e6) nxH
      have x7 : (upd H6 x (.ins a.Card dx (putF "_places" (.ref d) [("spots", .ref p), ("_places", .ref d0), ("rows", .ref r0)]))) x = some (.ins a.Card dx [("spots", .ref p), ("_places", .ref d), ("rows", .ref r0)]) := upd_same
      have d7 : Dtx P w K (upd H6 x (.ins a.Card dx (putF "_places" (.ref d) [("spots", .ref p), ("_places", .ref d0), ("rows", .ref r0)]))) d (plc 0 ps) := Dtx_ins d6 x6
      generalize upd H6 x (.ins a.Card dx (putF "_places" (.ref d) [("spots", .ref p), ("_places", .ref d0), ("rows", .ref r0)])) = H7 at e7 x7 d7
      refine fld_cb (lc_sq (t := t) (i := 1) rfl (hr0.up e7) (fun i F y => ∃ q, y = V.ref q ∧ SqT K F q (rowV ps.length (f i))) (fun _ _ _ _ e z => by obtain ⟨q, z1, z2⟩ := z; exact ⟨q, z1, upT e z2⟩) (by have := ok.le; omega) ?_ ?_)
      · rintro i y F' _ H8 Kt Kn hi s8 ⟨rfl, hy⟩ kk
        obtain ⟨q, rfl, hq⟩ := hrs i y hy
        refine ⟨rfl, lc_yes ⟨_, rfl, ?_⟩⟩
        dsimp only [tNil]
        have hq8 := hq.up (e7.trans (s8.ff.trans s8.fh))
        cases t
        · exact ⟨q, _, rfl, .inl ⟨hq8, fun l hl => kk _ _ _ ((Stm.refl s8.fh).newP hl) ⟨l, rfl, sq_new⟩⟩⟩
        · exact ⟨q, _, rfl, .inr ⟨hq8, kk _ _ _ (.refl s8.fh) ⟨q, rfl, upT (e7.trans s8.ff) hq⟩⟩⟩
      · intro F8 H8 ys D s8 _ hD hy hr8
        have hD8 := s8.fh _ _ hD
        have e8 : Same H7 H8 := s8.ff.trans s8.fh
        refine ⟨D, ys, rfl, .inl ⟨SqL.of hD8, fun l hl => ?_⟩⟩
        have e9 := e8.trans (same_new (o := .tup ys) hl)
        have x9 := e9 _ _ x7
        refine ⟨_, rfl, x, a.Card, dx, _, rfl, x9, T.ki.cl, T.nR, Nat.le_of_ble_eq_true rfl, _, rfl, ?_⟩
        have t9 : Tb K true (upd H8 l (.tup ys)) (.ref l) ps.length f := ⟨l, ys, rfl, sq_new, hy.trans hrl, fun i u hu => by
          obtain ⟨q, z1, z2⟩ := hr8 i u hu
          exact ⟨q, z1, upT (same_new hl) (upT s8.fh z2)⟩⟩
        refine k _ _ (same_mut (e7.trans e9) nxH) ⟨x, dx, p, d, l, rfl, upd_same, Sps.ins (hp.up (e7.trans e9)) x9, Dtx_ins (d7.up e9) x9, t9.ins x9⟩
/-! ### some spots, each once -/
def onceL (l ss : List Spot) : List Spot := ss.foldl (fun acc s => if s ∈ acc then acc else acc ++ [s]) l
def onceG (ss : List Spot) : List Spot := onceL [ground] ss
theorem onceL_snoc (l ss : List Spot) (s : Spot) : onceL l (ss ++ [s]) = if s ∈ onceL l ss then onceL l ss else onceL l ss ++ [s] := by
  unfold onceL
  rw [List.foldl_append]
  rfl
theorem onceL_nd : ∀ {l : List Spot} (ss : List Spot), l.Nodup → (onceL l ss).Nodup
  | l, [], h => h
  | l, s :: ss, h => by
    show (onceL (if s ∈ l then l else l ++ [s]) ss).Nodup
    refine onceL_nd ss ?_
    split
    · exact h
    · rename_i q
      rw [List.nodup_append]
      refine ⟨h, by simp, fun x hx y hy => ?_⟩
      rw [List.mem_singleton] at hy
      subst hy
      exact fun z => q (z ▸ hx)
theorem onceL_all {Q : Spot → Prop} : ∀ {l : List Spot} (ss : List Spot), (∀ s ∈ l, Q s) → (∀ s ∈ ss, Q s) → ∀ s ∈ onceL l ss, Q s
  | l, [], h, _ => h
  | l, s :: ss, h, k => by
    show ∀ x ∈ onceL (if s ∈ l then l else l ++ [s]) ss, Q x
    refine onceL_all ss (fun x hx => ?_) fun x hx => k x (List.mem_cons_of_mem _ hx)
    split at hx
    · exact h x hx
    · rcases List.mem_append.mp hx with hx | hx
      · exact h x hx
      · rw [List.mem_singleton.mp hx]
        exact k s List.mem_cons_self
theorem onceL_zero : ∀ {l : List Spot} (ss : List Spot), l[0]? = some ground → (onceL l ss)[0]? = some ground
  | l, [], h => h
  | l, s :: ss, h => by
    show (onceL (if s ∈ l then l else l ++ [s]) ss)[0]? = some ground
    refine onceL_zero ss ?_
    split
    · exact h
    · rw [List.getElem?_append_left (List.getElem?_eq_some_iff.mp h).1]
      exact h
theorem onceL_len : ∀ {l : List Spot} (ss : List Spot), (onceL l ss).length ≤ l.length + ss.length
  | l, [] => Nat.le_refl _
  | l, s :: ss => by
    show (onceL (if s ∈ l then l else l ++ [s]) ss).length ≤ _
    refine Nat.le_trans (onceL_len ss) ?_
    split
    · rw [List.length_cons]; omega
    · simp only [List.length_append, List.length_cons, List.length_nil]; omega
theorem once_in {ps ss : List Spot} (ok : OkS ps) (h : ∀ s ∈ ss, s ∈ ps) : ∀ s ∈ onceG ss, s ∈ ps := onceL_all ss (fun s hs => by rw [List.mem_singleton.mp hs]; exact List.mem_of_getElem? ok.g) h
theorem once_ok {ps ss : List Spot} (ok : OkS ps) (h : ∀ s ∈ ss, s ∈ ps) (hl : ss.length ≤ 500) : OkS (onceG ss) :=
  ⟨onceL_nd ss (by simp), onceL_zero ss rfl, fun s hs => ok.ok s (once_in ok h s hs), by have := onceL_len (l := [ground]) ss; unfold onceG; rw [List.length_singleton] at this; omega⟩
/-- where it stands first -/
def pos : List Spot → Spot → Nat
  | [], _ => 0
  | x :: xs, s => if x = s then 0 else pos xs s + 1
theorem pos_at : ∀ {ps : List Spot} {s : Spot}, s ∈ ps → ps[pos ps s]? = some s
  | x :: xs, s, h => by
    unfold pos
    split
    · rename_i e; rw [e]; rfl
    · rename_i e
      rw [List.getElem?_cons_succ]
      rcases List.mem_cons.mp h with h | h
      · exact absurd h.symm e
      · exact pos_at h
theorem pos_fst : ∀ {ps : List Spot} {s : Spot} {m : Nat}, m < pos ps s → ps[m]? ≠ some s
  | [], s, m, h => by exact absurd h (Nat.not_lt_zero _)
  | x :: xs, s, m, h => by
    unfold pos at h
    split at h
    · exact absurd h (Nat.not_lt_zero _)
    · rename_i e
      cases m with
      | zero => intro z; exact e (Option.some.inj z)
      | succ m => rw [List.getElem?_cons_succ]; exact pos_fst (by omega)
theorem pos_lt {ps : List Spot} {s : Spot} (h : s ∈ ps) : pos ps s < ps.length := (List.getElem?_eq_some_iff.mp (pos_at h)).1
def kvT (l : List Spot) : List (List Key × V) := l.map fun s => (spK s, V.bl true)
theorem kvT_is : ∀ {l : List Spot} {s : Spot}, (valV (kvT l) (spK s)).isSome = decide (s ∈ l)
  | [], s => rfl
  | x :: l, s => by
    show (valV ((spK x, V.bl true) :: kvT l) (spK s)).isSome = _
    by_cases e : x = s
    · rw [valV_pos (by rw [e]), decide_eq_true (by rw [e]; exact List.mem_cons_self)]
      rfl
    · rw [valV_neg (fun z => e (spK_inj z)), kvT_is]
      by_cases h : s ∈ l
      · rw [decide_eq_true h, decide_eq_true (List.mem_cons_of_mem _ h)]
      · rw [decide_eq_false h, decide_eq_false (fun z => by
          rcases List.mem_cons.mp z with z | z
          · exact e z.symm
          · exact h z)]
theorem kysX_sps {K : PySem.W.Frag} {H : Hp} : ∀ {l : List Spot} {bs : List Addr}, KysX K H (kvT l) bs → Paired (fun v q => Spt K H v q) (bs.map V.ref) l
  | [], [], _ => .nil
  | s :: l, b :: bs, .cons h t => .cons ⟨b, rfl, h⟩ (kysX_sps t)
/-- the first that is none of them -/
structure FstOut (ps : List Spot) (ds : List PyData) (i : Nat) : Prop where
  bef : ∀ j d, j < i → ds[j]? = some d → inC ps d = true
  out : ∃ d, ds[i]? = some d ∧ inC ps d = false
def AllIn (ps : List Spot) (ds : List PyData) (ss : List Spot) : Prop := ds = ss.map spD ∧ ∀ s ∈ ss, s ∈ ps
/-- what the names of some spots come to -/
def NamedQ (P : Program) (w : World) (K : PySem.W.Frag) (a : Ad) (H : Hp) (E : XK) (ps : List Spot) (us : List V) (ds : List PyData) : Prop := ∀ i u, us[i]? = some u → FstOut ps ds i → RaH H E a.NoSpot fun H' d => H' d = some (.xd [("spot", u)])
def sp__named_once (P : Program) (w : World) (K : PySem.W.Frag) (a : Ad) : Sp := fun vs H Q E => ∃ (t : Bool) (p : Addr) (c : V) (ps : List Spot) (f : Tb2) (us : List V) (ds : List PyData), vs = [.ref p, c] ∧ Cd P w K a.Card H c ps f ∧ OkS ps ∧ Sq K t H p us ∧ DpAll K H us ds ∧ ds.length ≤ 500 ∧
  (∀ ss, AllIn ps ds ss → ∀ H' q, Same H H' → Sps K true H' q (onceG ss) → Q (.ref q) H') ∧ NamedQ P w K a H E ps us ds
theorem c__named_once (T : Txt K mg a) : Cl P w K mg base 4 "_named_once" P__named_once (sp__named_once P w K a) [] :=
  T.d__named_once.cl sc__named_once (fun vs H Q E h => by obtain ⟨t, p, c, ps, f, us, ds, rfl, _⟩ := h; rfl) fun f cdv A outer s H vs Q E hr h => by
    obtain ⟨t, p, c, ps, f, us, ds, rfl, cd, ok, hp, hd, le, k, kb⟩ := h
    obtain ⟨x, dx, spa, dd, rw, rfl, hx, _⟩ := id cd
    have ul : us.length = ds.length := dpAll_len hd
    refine ⟨_, ((pss_cons (ps_set (i := 2) sc__named_once.nd rfl (Or.inl rfl) (pe_disX hr.units0 (pe_glob (by rfl) T.k_GROUND rfl (v := .ref a.aG)) pe_bl))
 (pss_cons (ps_for (passes_of rfl) rfl (pi_seq (pv 0)) (pg_name (i := 3) sc__named_once.nd rfl (Or.inl rfl))
 (pss_cons (ps_if (pt_cmp (pc_ninC (o_Card_contains T) (takes_of rfl rfl rfl rfl) hr (by decide) (pv 3) (pv 1)) rfl)
 (pss_one (ps_raise1 rfl (takes_of rfl rfl rfl rfl) (x_NoSpot T) hr (by decide) rfl (pv 3)))
 pss_nil)
 (pss_one (ps_dputE (hu_of hr) (pv 2) (pv 3) pe_bl rfl))))
 (pss_one (ps_ret (pe_callTy (T := "tuple") (call_tupDX rfl) (by rfl) T.n_tuple (by decide +kernel) (pa_cons (pv 2) pa_nil))))))), ?_⟩
    refine fun D u0 hD d0 => ⟨_, spK ground, rfl, d0, T.t_GROUND _, fun u hu => ?_⟩
    have e1 : Same H (upd (upd H D u0) D u) := same_mut (same_new hD) hD
    generalize upd (upd H D u0) D u = H1 at hu e1
    dsimp only [gName]
    refine seq_in ?_
    refine for_sq (t := t) (i := 0) rfl (hp.up e1) (fun j σ' H' => ∃ c3 ss, σ' = [some (.ref p), some (.ref x), some (.ref D), c3] ∧ Same H H' ∧ ds.take j = ss.map spD ∧ (∀ s ∈ ss, s ∈ ps) ∧ Dtx P w K H' D (kvT (onceG ss))) ?_ ?_ ?_ ?_
    · exact ⟨none, [], rfl, e1, rfl, fun s hs => absurd hs (by simp), hu⟩
    · rintro j σ' H' ⟨c3, ss, _, e2, _⟩
      exact hp.up e2
    · rintro j v _ H2 _ hj ⟨c3, ss, rfl, e2, tk, al, d2⟩ ⟨rfl, hv⟩
      obtain ⟨dj, hdj, hq⟩ := dpAll_get hd hv
      have sl : ss.length = j := by
        have := congrArg List.length tk
        rw [List.length_take, List.length_map] at this
        omega
      refine ⟨_, rfl, _, rfl, x, dx, _, rfl, e2 _ _ hx, _, _, ps, f, dj, rfl, cd.up e2, ok.nd, dp_up e2 hq, _, rfl, ?_⟩
      by_cases h : inC ps dj = true
      · rw [h]
        obtain ⟨s, rfl, hs⟩ := inC_true h
        obtain ⟨q, rfl, hqq⟩ := dp_sps (dp_up e2 hq)
        have kl : (onceG ss).length ≤ 501 := by have := onceL_len (l := [ground]) ss; unfold onceG; rw [List.length_singleton] at this; omega
        refine ⟨_, rfl, iteF ⟨_, rfl, _, rfl, D, q, _, spK s, rfl, rfl, d2, hqq, fun z hz => ?_, by unfold kvT; rw [List.length_map, sizeLine_eq]; omega, fun u hu => ?_⟩⟩
        · obtain ⟨y, _, rfl⟩ := List.mem_map.mp hz
          rfl
        · refine ⟨_, ss ++ [s], rfl, same_mut e2 hD, ?_, fun z hz => ?_, ?_⟩
          · rw [List.take_add_one, hdj, tk, List.map_append]
            rfl
          · rcases List.mem_append.mp hz with hz | hz
            · exact al z hz
            · rw [List.mem_singleton.mp hz]
              exact hs
          · unfold onceG at hu ⊢
            rw [onceL_snoc]
            rw [kvT_is] at hu
            by_cases m : s ∈ onceL [ground] ss
            · rw [if_pos m]
              rw [decide_eq_true m, if_pos rfl] at hu
              exact hu
            · rw [if_neg m]
              rw [decide_eq_false m, if_neg (by decide)] at hu
              unfold kvT
              rw [List.map_append]
              exact hu
      · have h := Bool.eq_false_iff.mpr h
        rw [h]
        refine ⟨_, rfl, iteT ⟨_, rfl, fun d hd' => ?_⟩⟩
        refine kb j v hv ⟨fun i d hi hdi => ?_, dj, hdj, h⟩ _ d (e2.trans (same_new hd')) upd_same
        have : (ds.take j)[i]? = some d := by rw [List.getElem?_take, if_pos hi]; exact hdi
        rw [tk, List.getElem?_map, Option.map_eq_some_iff] at this
        obtain ⟨s, h1, rfl⟩ := this
        rw [inC_sp, decide_eq_true (al s (List.mem_of_getElem? h1))]
    · rintro _ H2 ⟨c3, ss, rfl, e2, tk, al, d2⟩
      rw [ul, List.take_length] at tk
      refine ⟨_, rfl, D, _, rfl, d2, fun q bs hq hk => ?_⟩
      have e3 := e2.trans (same_new (o := .tup (bs.map V.ref)) hq)
      exact k ss ⟨tk, al⟩ _ q e3 ⟨_, sq_new, Paired.mapP (kysX_sps hk) fun _ _ z => z.up (same_new hq)⟩
end
end K49

set_option Elab.async false
set_option linter.all false
set_option maxRecDepth 100000
set_option maxHeartbeats 4000000
namespace K49
open PySem PySem.Spec PyProof.Rows L2 Ew
theorem ret1 {te : TE} {D : Ends} {σ : L2.St} {H : Hp} (h : te σ H fun v H1 => D.rt v H1) : tRet te D σ H := h
theorem seq_asg {te : TE} {g : TG} {u : TS} {D : Ends} {σ : L2.St} {H : Hp} (h : te σ H fun v H1 => g v σ H1 fun σ2 H2 => u D σ2 H2) : tSeq (tAsg te g) u D σ H := h
theorem gn {i : Nat} {x : V} {σ : L2.St} {H : Hp} {R : L2.St → Hp → Prop} (h : R (σ.set i (some x)) H) : gName i x σ H R := h
/-! ### a table of some rows and columns, in an order -/
def subT (f : Tb2) (os : List Nat) : Tb2 := fun i j => f (os.getD i 0) (os.getD j 0)
theorem getD_lt {os : List Nat} {n i : Nat} (h : ∀ k ∈ os, k < n) (hi : i < os.length) : os.getD i 0 < n := by
  rw [List.getD_eq_getElem?_getD, List.getElem?_eq_getElem hi]
  exact h _ (List.getElem_mem hi)
theorem sub_cld {n : Nat} {f : Tb2} {os : List Nat} (hc : Cld n f) (h : ∀ k ∈ os, k < n) : Cld os.length (subT f os) :=
  ⟨fun a ha => hc.z _ (getD_lt h ha), fun a b c ha hb hd => hc.t _ _ _ (getD_lt h ha) (getD_lt h hb) (getD_lt h hd)⟩
section
variable {K : PySem.W.Frag} {H : Hp} {p : Addr} {xs : List V}
theorem lc_l {σ : L2.St} {g : TG} {tt : TT} {te : TE} {vs : List Nat} {Q : VK} {i : Nat} (h0 : σ[i]? = some (some (.ref p))) (hp : SqL K H p xs) (R : Nat → Hp → V → Prop) (hR : ∀ i F F' y, Same F F' → R i F y → R i F' y) (hn : xs.length ≤ 1000000)
    (hs : ∀ i x F' H' H'' (Kt : VK) (Kn : Hp → Prop), i < xs.length → Stp H H F' H' → YAt xs i H' x H'' → (∀ y F4 H4, Stp F' H' F4 H4 → R i F4 y → Kt y H4) →
      g x (wipe σ vs) H'' fun σ2 H2 => wipe σ2 vs = wipe σ vs ∧ tt σ2 H2 fun b H3 => if b = true then te σ2 H3 Kt else Kn H3)
    (hd : ∀ F' H' zs D, Stp H H F' H' → H D = none → F' D = some (.lst zs) → zs.length = xs.length → (∀ j y, zs[j]? = some y → R j F' y) → Q (.ref D) H') : tLc (iList K (tVar i)) g tt te vs σ H Q :=
  ⟨_, h0, p, rfl, ⟨xs, hp⟩, fun D hD => lcM memP walk_list (.refl H) trivial hD R hR hn (fun F' H' e1 e2 => upL (e1.trans e2) hp) (fun i x F' H' H'' Kt Kn hi s1 _ y kk => hs i x F' H' H'' Kt Kn hi s1 y fun y F4 H4 s4 r4 => kk y F4 H4 s4 trivial r4) fun F' H' zs s1 _ hD' hl' hr => hd F' H' zs D s1 hD hD' hl' hr⟩
def natV (os : List Nat) : List V := os.map fun k : Nat => V.int (k : Int)
theorem natV_len {os : List Nat} : (natV os).length = os.length := List.length_map _
theorem nat_item {os : List Nat} {i : Nat} {x : V} (h : (natV os)[i]? = some x) : ∃ k, os[i]? = some k ∧ x = .int (k : Nat) := by
  unfold natV at h
  rw [List.getElem?_map, Option.map_eq_some_iff] at h
  obtain ⟨d, h1, h2⟩ := h
  exact ⟨d, h1, h2.symm⟩
theorem natV_of {os : List Nat} {ys : List V} (hl : ys.length = os.length) (h : ∀ (j : Nat) y, ys[j]? = some y → ∃ o, os[j]? = some o ∧ y = V.int (o : Nat)) : ys = natV os := by
  refine List.ext_getElem? fun j => ?_
  rcases Nat.lt_or_ge j os.length with hj | hj
  · have : j < ys.length := by omega
    obtain ⟨o, h1, h2⟩ := h j _ (List.getElem?_eq_getElem this)
    unfold natV
    rw [List.getElem?_eq_getElem this, List.getElem?_map, h1, h2]
    rfl
  · rw [List.getElem?_eq_none (by omega), List.getElem?_eq_none (by rw [natV_len]; omega)]
/-- [[cell for b in order] for a in order] -/
theorem sub_tab {σ : L2.St} {q : Addr} {os : List Nat} {n i ja jb : Nat} {f : Tb2} {te : TE} {R : VK} (h0 : σ[i]? = some (some (.ref q))) (hq : SqL K H q (natV os)) (ho : ∀ k ∈ os, k < n) (le : os.length ≤ 1000)
    (hσ : ∀ x, (wipe ((wipe σ [ja]).set ja (some x)) [ja] = wipe σ [ja]) ∧ ((wipe σ [ja]).set ja (some x))[i]? = some (some (.ref q)) ∧ ∀ y, wipe ((wipe ((wipe σ [ja]).set ja (some x)) [jb]).set jb (some y)) [jb] = wipe ((wipe σ [ja]).set ja (some x)) [jb])
    (cell : ∀ (H5 : Hp) (x y : Nat) (Kt : VK), Same H H5 → x < n → y < n → Kt (.int (f x y)) H5 → te ((wipe ((wipe σ [ja]).set ja (some (.int (x : Nat)))) [jb]).set jb (some (.int (y : Nat)))) H5 Kt)
    (k : ∀ H' D, Same H H' → Tb K false H' (.ref D) os.length (subT f os) → R (.ref D) H') :
    tLc (iList K (tVar i)) (gName ja) tYes (tLc (iList K (tVar i)) (gName jb) tYes te [jb]) [ja] σ H R := by
  refine lc_l h0 hq (fun j F y => ∃ o q2, os[j]? = some o ∧ y = .ref q2 ∧ F q2 = some (.lst (rowV os.length fun k => f o (os.getD k 0)))) (fun _ _ _ _ e z => by obtain ⟨o, q2, z1, z2, z3⟩ := z; exact ⟨o, q2, z1, z2, e _ _ z3⟩) (by rw [natV_len]; omega) ?_ ?_
  · rintro j x F' _ H5 Kt Kn hj s5 ⟨rfl, hx⟩ kt
    obtain ⟨o, hoj, rfl⟩ := nat_item hx
    obtain ⟨g1, g2, g3⟩ := hσ (.int (o : Nat))
    refine ⟨g1, lc_yes ?_⟩
    have e5 : Same H H5 := s5.ff.trans s5.fh
    have on := ho o (List.mem_of_getElem? hoj)
    refine lc_l g2 (upL e5 hq) (fun j F y => y = .int (f o (os.getD j 0))) (fun _ _ _ _ _ z => z) (by rw [natV_len]; omega) ?_ ?_
    · rintro j2 x2 F2 _ H6 Kt2 Kn2 hj2 s6 ⟨rfl, hx2⟩ kt2
      obtain ⟨c, hcj, rfl⟩ := nat_item hx2
      have cn := ho c (List.mem_of_getElem? hcj)
      refine ⟨g3 _, lc_yes ?_⟩
      refine cell H6 o c Kt2 (e5.trans (s6.ff.trans s6.fh)) on cn (kt2 _ _ _ (.refl s6.fh) ?_)
      rw [List.getD_eq_getElem?_getD, hcj]
      rfl
    · intro F6 H6 zs D s6 hD0 hD hz hrz
      rw [natV_len] at hz
      obtain rfl := rowV_of hz hrz
      exact kt _ _ _ (stp_all s5.fh (s6.ff.trans s6.fh)) ⟨o, D, hoj, rfl, (fz_new hD0).trans (s6.fh _ _ hD)⟩
  · intro F5 H5 zs D s5 hD0 hD hz hrz
    rw [natV_len] at hz
    refine k H5 D (s5.ff.trans s5.fh) ⟨D, zs, rfl, SqL.of (s5.fh _ _ hD), hz, fun j u hu => ?_⟩
    obtain ⟨o, q2, z1, rfl, z3⟩ := hrz j u hu
    refine ⟨q2, rfl, SqL.of ?_⟩
    rw [s5.fh _ _ z3]
    unfold subT
    rw [List.getD_eq_getElem?_getD (l := os) (i := j), z1]
    rfl
/-- row a, column b -/
theorem Tb.cell {t : Bool} {v : V} {n a : Nat} {f : Tb2} (h : Tb K t H v n f) (ha : a < n) : ∃ p us q, v = .ref p ∧ Sq K t H p us ∧ atI us ((a : Nat) : Int) = some (.ref q) ∧ Sq K t H q (rowV n (f a)) := by
  obtain ⟨p, us, h1, h2, h3, h4⟩ := h
  obtain ⟨u, hu⟩ : ∃ u, us[a]? = some u := ⟨_, List.getElem?_eq_getElem (by omega)⟩
  obtain ⟨q, rfl, hq⟩ := h4 a u hu
  exact ⟨p, us, q, h1, h2, atI_int (by omega) (by omega) (by rw [Int.toNat_natCast]; exact hu), hq⟩
theorem row_cell {n b : Nat} {g : Nat → Int} (hb : b < n) : atI (rowV n g) ((b : Nat) : Int) = some (.int (g b)) := atI_int (by omega) (by rw [rowV_len]; omega) (by rw [Int.toNat_natCast]; exact rowV_at hb)
end
section
variable {P : Program} {w : World} {K : PySem.W.Frag} {mg : Str → Option Value} {base : Heap} {a : Ad}
def cutO (ps ss : List Spot) : List Nat := (onceG ss).map (pos ps)
theorem cutO_lt {ps ss : List Spot} (ok : OkS ps) (h : ∀ s ∈ ss, s ∈ ps) : ∀ k ∈ cutO ps ss, k < ps.length := fun k hk => by
  obtain ⟨s, hs, rfl⟩ := List.mem_map.mp hk
  exact pos_lt (once_in ok h s hs)
theorem cutO_len {ps ss : List Spot} : (cutO ps ss).length = (onceG ss).length := List.length_map _
def sp_cut (P : Program) (w : World) (K : PySem.W.Frag) (a : Ad) : Sp := fun vs H Q E => ∃ (t : Bool) (p : Addr) (c : V) (ps : List Spot) (f : Tb2) (us : List V) (ds : List PyData), vs = [c, .ref p] ∧ Cd P w K a.Card H c ps f ∧ OkS ps ∧ Sq K t H p us ∧ DpAll K H us ds ∧ ds.length ≤ 500 ∧
  (∀ ss, AllIn ps ds ss → ∀ H' z, Same H H' → Cd P w K a.Card H' z (onceG ss) (subT f (cutO ps ss)) → Q z H') ∧ NamedQ P w K a H E ps us ds
theorem m_Card_cut (T : Txt K mg a) : Mt P w K mg base 8 a.Card "cut" P_Card_cut (sp_cut P w K a) [] := by
  obtain ⟨f, fd, M, F, b⟩ := T.m_cut.ex
  refine ⟨T.ki.cl, f, fd, [], M, fun_ok F sc_Card_cut (fun vs H Q E h => by obtain ⟨t, p, c, ps, f, us, ds, rfl, _⟩ := h; rfl) fun f cdv A outer s H vs Q E hr h => ?_, b, .nil⟩
  obtain ⟨t, p, c, ps, f, us, ds, rfl, cd, ok, hp, hd, le, k, kb⟩ := h
  refine ⟨_, ((pss_cons (ps_set (i := 2) sc_Card_cut.nd rfl (Or.inl rfl) (pe_f (c__named_once T) (takes_of rfl rfl rfl rfl) hr (by decide) rfl (pa_cons (pv 1) (pa_cons (pv 0) pa_nil))))
 (pss_cons (ps_set (i := 3) sc_Card_cut.nd rfl (Or.inr rfl) (pe_lc (own := [("spot", 4)]) (g := (gName 4)) (by rfl) sc_Card_cut.nd (pi_seq (pv 2)) (blkOk_by (own := [("spot", 4)]) (N := N_Card_cut) (sc := defScope s_Card_cut) (by decide +kernel)) (fun _ _ _ _ _ => (pg_name (i := 4) sc_Card_cut.nd rfl (Or.inl rfl) (hf := .inr rfl))) (fun _ _ _ _ _ => pts_nil) (fun _ _ _ _ _ => (by show PE _ _ (Ew.tDGetX P w K (tFld K (tVar 0) "_places") (tVar 4)); exact Ew.pe_dgetX (by exact hu_of hr) (pe_fld (pv 0) rfl) (pv 4) (fun _ _ => rfl)))))
 (pss_one (ps_ret (pe_f (c__trusted T) (takes_of rfl rfl rfl rfl) hr (by decide) rfl (pa_cons (pv 2) (pa_cons (pe_lc (own := [("a", 5)]) (g := (gName 5)) (by rfl) sc_Card_cut.nd (pi_list (pv 3)) (blkOk_by (own := [("a", 5)]) (N := N_Card_cut) (sc := defScope s_Card_cut) (by decide +kernel)) (fun _ _ _ _ _ => (pg_name (i := 5) sc_Card_cut.nd rfl (Or.inr rfl) (hf := .inl rfl))) (fun _ _ _ _ _ => pts_nil) (fun _ _ _ _ _ => (by show PE _ _ (tLc (iList K (tVar 3)) (gName 6) tYes (tOp (rIxT K) (tOp (rIxT K) (tFld K (tVar 0) "rows") (tVar 5)) (tVar 6)) [6]); exact (pe_lc (own := [("b", 6)]) (g := (gName 6)) (by rfl) sc_Card_cut.nd (pi_list (pv 3)) (blkOk_by (own := [("b", 6)]) (N := N_Card_cut) (by rfl)) (fun _ _ _ _ _ => (pg_name (i := 6) sc_Card_cut.nd rfl (Or.inl rfl) (hf := .inr rfl))) (fun _ _ _ _ _ => pts_nil) (fun _ _ _ _ _ => (pe_ix (r := rIxT K) ix_tup (pe_ix (r := rIxT K) ix_tup (pe_fld (pv 0) rfl) (pv 5) (fun _ _ => rfl)) (pv 6) (fun _ _ => rfl))))))) pa_nil)))))))), ?_⟩
  refine ⟨_, rfl, _, rfl, ?_⟩
  refine ⟨t, p, c, ps, f, us, ds, rfl, cd, ok, hp, hd, le, fun ss al H1 q e1 hq => ?_, kb⟩
  obtain ⟨x, dx, spa, dd, rw, rfl, hx, h1, hdd, htb⟩ := id cd
  obtain ⟨ks, hks, hkp⟩ := id hq
  have sl : ss.length ≤ 500 := by have := congrArg List.length al.1; rw [List.length_map] at this; omega
  have okc := once_ok ok al.2 sl
  have kl := Paired.length hkp
  have cl := okc.le
  refine gn ?_
  dsimp only
  refine seq_asg (lc_sq (t := true) (i := 2) rfl hks (fun j F y => ∃ s, (onceG ss)[j]? = some s ∧ y = V.int ((pos ps s : Nat) : Int)) (fun _ _ _ _ _ z => z) (by omega) ?_ ?_)
  · rintro j y F' _ H5 Kt Kn hj s5 ⟨rfl, hy⟩ kk
    obtain ⟨s, hs, qs, rfl, hqs⟩ := paired_get hkp hy
    have e5 := s5.ff.trans s5.fh
    refine ⟨rfl, lc_yes ⟨_, rfl, x, a.Card, dx, _, _, rfl, (e1.trans e5) _ _ hx, T.ki.cl, T.nP, rfl, _, rfl, dd, qs, _, spK s, _, rfl, rfl, hdd.up (e1.trans e5), upT e5 hqs, plc_some ok.nd (pos_at (once_in ok al.2 s (List.mem_of_getElem? hs))), ?_⟩⟩
    refine kk _ _ _ (.refl s5.fh) ⟨s, hs, by rw [Nat.zero_add]⟩
  · intro F5 H5 zs D s5 hD0 hD hz hrz
    have e5 : Same H1 H5 := s5.ff.trans s5.fh
    have ez : zs = natV (cutO ps ss) := natV_of (by rw [cutO_len, ← kl, hz]) fun j y hy => by
      obtain ⟨s, h1, h2⟩ := hrz j y hy
      exact ⟨pos ps s, by unfold cutO; rw [List.getElem?_map, h1]; rfl, h2⟩
    subst ez
    refine gn ?_
    try dsimp only
    refine ⟨_, rfl, ?_⟩
    refine sub_tab (n := ps.length) (f := f) (i := 3) rfl (SqL.of (s5.fh _ _ hD)) (cutO_lt ok al.2) (by rw [cutO_len]; exact cl) (fun x => ⟨rfl, rfl, fun y => rfl⟩) (fun H6 xa yb Kt e6 hxa hyb kt => ?_) fun H6 D2 e6 tb6 => ?_
    · obtain ⟨rp, rus, rq, er, z1, z2, z3⟩ := (htb.up (e1.trans (e5.trans e6))).cell hxa
      cases er
      exact ⟨_, rfl, x, a.Card, dx, _, _, rfl, (e1.trans (e5.trans e6)) _ _ hx, T.ki.cl, T.nR, rfl, _, rfl, _, _, _, _, rfl, rfl, z1, z2, _, rfl, rq, _, _, _, rfl, rfl, z3, row_cell hyb, kt⟩
    · have e16 := e5.trans e6
      refine ⟨false, q, _, onceG ss, _, rfl, hq.up e16, okc, by rw [← cutO_len (ps := ps)]; exact tb6, fun H7 z e7 c7 => ?_⟩
      exact k ss al H7 z (e1.trans (e16.trans e7)) c7
end
end K49

set_option Elab.async false
set_option linter.all false
set_option maxRecDepth 100000
set_option maxHeartbeats 4000000
namespace K49
open PySem PySem.Spec PyProof.Rows L2 Ew
/-! ### the law's closing -/
/-- row a is done as far as column b, by way of m -/
def mid (m : Nat) (g : Tb2) (a b : Nat) : Tb2 := fun i j => if i < a ∨ (i = a ∧ j < b) then via m g i j else g i j
section
variable {P : Program} {w : World} {K : PySem.W.Frag} {mg : Str → Option Value} {base : Heap} {a : Ad}
theorem Raw.get {H0 H : Hp} {p : Addr} {qs : List Addr} {n i : Nat} {f : Tb2} (h : Raw H0 H p qs n f) (hi : i < n) : ∃ q, qs[i]? = some q ∧ atI (qs.map V.ref) ((0 : Int) + (i : Nat)) = some (.ref q) := by
  obtain ⟨q, hq⟩ : ∃ q, qs[i]? = some q := ⟨_, List.getElem?_eq_getElem (by rw [h.len]; exact hi)⟩
  refine ⟨q, hq, atI_int (by omega) (by rw [List.length_map, h.len]; omega) ?_⟩
  have : ((0 : Int) + (i : Nat)).toNat = i := by omega
  rw [this, List.getElem?_map, hq]
  rfl
theorem row_at {n j : Nat} {g : Nat → Int} (h : j < n) : atI (rowV n g) ((0 : Int) + (j : Nat)) = some (.int (g j)) := by
  refine atI_int (by omega) (by rw [rowV_len]; omega) ?_
  have : ((0 : Int) + (j : Nat)).toNat = j := by omega
  rw [this, rowV_at h]
theorem row_ix {n j : Nat} {g : Nat → Int} (h : j < n) : ixN (rowV n g).length ((0 : Int) + (j : Nat)) = some j := by
  unfold ixN
  rw [if_pos (by omega), if_pos (by rw [rowV_len]; omega)]
  congr 1
  omega
def sp__law_closing (K : PySem.W.Frag) : Sp := fun vs H Q _ => ∃ (v : V) (n : Nat) (f : Tb2), vs = [v] ∧ Tb K false H v n f ∧ n ≤ 1000 ∧ (∃ c, Cld n c ∧ Le n c f) ∧ ∀ H' p qs, Same H H' → Raw H H' p qs n (fw n f) → Q (.ref p) H'
theorem c__law_closing (T : Txt K mg a) : Cl P w K mg base 1 "_law_closing" P__law_closing (sp__law_closing K) [] :=
  T.d__law_closing.cl sc__law_closing (fun vs H Q E h => by obtain ⟨v, n, f, rfl, _⟩ := h; rfl) fun f cdv A outer s H vs Q E hr h => by
    obtain ⟨v, n, f, rfl, tb, hn, ⟨cc, hcc, hle⟩, k⟩ := h
    refine ⟨_, ((pss_cons (ps_setLc (i := 1) (own := [("_law_row", 5)]) (g := (gName 5)) (by rfl) sc__law_closing.nd rfl rfl (sw_true rfl rfl rfl (by decide +kernel)) (pi_list (pv 0)) (blkOk_by (own := [("_law_row", 5)]) (N := N__law_closing) (sc := defScope s__law_closing) (by decide +kernel)) (fun _ _ _ _ _ => (pg_name (i := 5) sc__law_closing.nd rfl (Or.inl rfl) (hf := .inr rfl))) (fun _ _ _ _ _ => pts_nil) (fun _ _ _ _ _ => (pe_callTy (T := "list") (r := rLstS K) call_lstS (by rfl) T.n_list (by decide +kernel) (pa_cons (pv 5) pa_nil))))
 (pss_cons (ps_for (passes_of rfl) rfl (pi_range1 (by rfl) T.n_range (pa_cons (pe_callB call_len_seq (by rfl) T.n_len (by decide +kernel) (pa_cons (pv 1) pa_nil)) pa_nil)) (pg_name (i := 2) sc__law_closing.nd rfl (Or.inl rfl))
 (pss_cons (ps_set (i := 3) sc__law_closing.nd rfl (Or.inl rfl) (pe_ix ix_list (pv 1) (pv 2) (fun _ _ => rfl)))
 (pss_one (ps_for (passes_of rfl) rfl (pi_range1 (by rfl) T.n_range (pa_cons (pe_callB call_len_seq (by rfl) T.n_len (by decide +kernel) (pa_cons (pv 1) pa_nil)) pa_nil)) (pg_name (i := 4) sc__law_closing.nd rfl (Or.inl rfl))
 (pss_cons (ps_set (i := 5) sc__law_closing.nd rfl (Or.inl rfl) (pe_ix ix_list (pv 1) (pv 4) (fun _ _ => rfl)))
 (pss_cons (ps_set (i := 6) sc__law_closing.nd rfl (Or.inl rfl) (pe_ix ix_list (pv 5) (pv 2) (fun _ _ => rfl)))
 (pss_one (ps_for (passes_of rfl) rfl (pi_range1 (by rfl) T.n_range (pa_cons (pe_callB call_len_seq (by rfl) T.n_len (by decide +kernel) (pa_cons (pv 1) pa_nil)) pa_nil)) (pg_name (i := 7) sc__law_closing.nd rfl (Or.inl rfl))
 (pss_one (ps_if (pt_cmpR op_lt (pe_op op_add (pv 6) (pe_ix ix_list (pv 3) (pv 7) (fun _ _ => rfl))) (pe_ix ix_list (pv 5) (pv 7) (fun _ _ => rfl)) (nomark _))
 (pss_one (ps_asg (pe_op op_add (pv 6) (pe_ix ix_list (pv 3) (pv 7) (fun _ _ => rfl))) (pg_sub (pv 5) (pv 7) set_list)))
 pss_nil))))))))))
 (pss_one (ps_ret (pv 1)))))), ?_⟩
    refine seq_asg (copy_tab (i := 0) (j := 5) rfl (by intro _; rfl) (by intro _; rfl) tb hn fun H1 p qs e1 r1 => ?_)
    dsimp only [gName]
    refine ⟨_, rfl, p, _, rfl, .inl (SqL.of r1.at_), _, rfl, by omega, by rw [List.length_map, r1.len]; omega, ?_⟩
    rw [show ((((qs.map V.ref).length : Nat) : Int)).toNat = n by rw [List.length_map, r1.len]; omega]
    refine for_it walk_range (fun m σ' H' => ∃ c2 c3 c4 c5 c6 c7, σ' = [some v, some (.ref p), c2, c3, c4, c5, c6, c7] ∧ Same H H' ∧ Raw H H' p qs n (fw m f)) ?_ (fun _ _ _ _ _ => trivial) ?_ ?_
    · exact ⟨none, none, none, none, none, none, rfl, e1, r1⟩
    · rintro m _ _ _ H2 hm ⟨c2, c3, c4, c5, c6, c7, rfl, e2, r2⟩ ⟨rfl, rfl⟩
      obtain ⟨qm, hqm, am⟩ := r2.get hm
      refine ⟨_, rfl, _, rfl, p, _, _, _, rfl, rfl, SqL.of r2.at_, am, ?_⟩
      dsimp only [gName]
      have e3 := e2
      have r3 := r2
      have gm : 0 ≤ fw m f m m := by
        have h1 := fw_ge hcc hle m (by omega) m m hm hm
        have h2 := hcc.z m hm
        omega
      generalize hg : fw m f = g at r3 gm ⊢
      have same : ∀ i j b, mid m g i j m b = g m b := fun i j b => by
        unfold mid
        split
        · unfold via
          rw [if_neg (by omega)]
        · rfl
      have thr : ∀ {H5 : Hp} {i j : Nat}, Raw H H5 p qs n (mid m g i j) → H5 qm = some (.lst (rowV n (g m))) := fun {H5 i j} r => by
        rw [r.row m qm hqm, rowV_congr fun b _ => same i j b]
      refine ⟨_, rfl, p, _, rfl, .inl (SqL.of r3.at_), _, rfl, by omega, by rw [List.length_map, r3.len]; omega, ?_⟩
      rw [show ((((qs.map V.ref).length : Nat) : Int)).toNat = n by rw [List.length_map, r3.len]; omega]
      refine for_it walk_range (fun i σ' H' => ∃ c4 c5 c6 c7, σ' = [some v, some (.ref p), some (.int (0 + (m : Nat))), some (.ref qm), c4, c5, c6, c7] ∧ Same H H' ∧ Raw H H' p qs n (mid m g i 0)) ?_ (fun _ _ _ _ _ => trivial) ?_ ?_
      · exact ⟨_, _, _, _, rfl, e3, r3.congr fun i j _ _ => by unfold mid; rw [if_neg (by omega)]⟩
      · rintro i _ _ _ H4 hi ⟨c4, c5, c6, c7, rfl, e4, r4⟩ ⟨rfl, rfl⟩
        obtain ⟨qi, hqi, ai⟩ := r4.get hi
        refine ⟨_, rfl, _, rfl, p, _, _, _, rfl, rfl, SqL.of r4.at_, ai, ?_⟩
        have ri := r4.row i qi hqi
        refine ⟨_, rfl, _, rfl, qi, _, _, _, rfl, rfl, SqL.of ri, row_at hm, ?_⟩
        refine ⟨_, rfl, p, _, rfl, .inl (SqL.of r4.at_), _, rfl, by omega, by rw [List.length_map, r4.len]; omega, ?_⟩
        rw [show ((((qs.map V.ref).length : Nat) : Int)).toNat = n by rw [List.length_map, r4.len]; omega]
        have em : mid m g i 0 i m = g i m := by unfold mid; rw [if_neg (by omega)]
        rw [em]
        refine for_it walk_range (fun j σ' H' => ∃ c7, σ' = [some v, some (.ref p), some (.int (0 + (m : Nat))), some (.ref qm), some (.int (0 + (i : Nat))), some (.ref qi), some (.int (g i m)), c7] ∧ Same H H' ∧ Raw H H' p qs n (mid m g i j)) ?_ (fun _ _ _ _ _ => trivial) ?_ ?_
        · exact ⟨_, rfl, e4, r4⟩
        · rintro j _ _ _ H5 hj ⟨c7, rfl, e5, r5⟩ ⟨rfl, rfl⟩
          have rj := r5.row i qi hqi
          have ej : mid m g i j i j = g i j := by unfold mid; rw [if_neg (by omega)]
          refine ⟨_, rfl, _, rfl, _, rfl, qm, _, _, _, rfl, rfl, SqL.of (thr r5), row_at hj, _, _, rfl, rfl, ?_⟩
          refine ⟨_, rfl, _, rfl, qi, _, _, _, rfl, rfl, SqL.of rj, row_at hj, _, _, rfl, rfl, _, rfl, ?_⟩
          rw [ej]
          by_cases lt : g i m + g m j < g i j
          · rw [decide_eq_true lt]
            refine iteT ⟨_, rfl, _, rfl, _, rfl, qm, _, _, _, rfl, rfl, SqL.of (thr r5), row_at hj, _, _, rfl, rfl, ?_⟩
            refine ⟨_, rfl, _, rfl, qi, _, _, _, rfl, rfl, rj, row_ix hj, ?_⟩
            refine ⟨_, rfl, r5.same hqi e5, (r5.put hqi).congr fun x y hx hy => ?_⟩
            unfold mid
            by_cases z : x = i ∧ y = j
            · obtain ⟨rfl, rfl⟩ := z
              rw [if_pos ⟨rfl, rfl⟩, if_pos (by omega)]
              unfold via
              rw [if_pos lt]
            · rw [if_neg z]
              by_cases z1 : x < i ∨ (x = i ∧ y < j)
              · rw [if_pos z1, if_pos (by omega)]
              · rw [if_neg z1, if_neg (by omega)]
          · rw [decide_eq_false lt]
            refine iteF ⟨_, rfl, e5, r5.congr fun x y hx hy => ?_⟩
            unfold mid
            by_cases z : x = i ∧ y = j
            · obtain ⟨rfl, rfl⟩ := z
              rw [if_neg (by omega), if_pos (by omega)]
              unfold via
              rw [if_neg lt]
            · by_cases z1 : x < i ∨ (x = i ∧ y < j)
              · rw [if_pos z1, if_pos (by omega)]
              · rw [if_neg z1, if_neg (by omega)]
        · rintro _ H5 ⟨c7, rfl, e5, r5⟩
          refine ⟨_, _, _, _, rfl, e5, r5.congr fun x y hx hy => ?_⟩
          unfold mid
          by_cases z1 : x < i ∨ (x = i ∧ y < n)
          · rw [if_pos z1, if_pos (by omega)]
          · rw [if_neg z1, if_neg (by omega)]
      · rintro _ H4 ⟨c4, c5, c6, c7, rfl, e4, r4⟩
        refine ⟨_, _, _, _, _, _, rfl, e4, ?_⟩
        refine r4.congr fun i j hi hj => ?_
        unfold mid
        rw [if_pos (.inl hi), ← hg]
        rfl
    · rintro _ H2 ⟨c2, c3, c4, c5, c6, c7, rfl, e2, r2⟩
      exact ⟨_, rfl, k H2 p qs e2 r2⟩
end
end K49

set_option Elab.async false
set_option linter.all false
set_option maxRecDepth 100000
set_option maxHeartbeats 4000000
namespace Ew
open PySem PySem.Spec PyProof.Rows L2
open PySem.W (EachIs AllAlike Sortable dataLe dataKind SortsAt)
/-! ### sorted of keys that are tuples -/
def keyD : Key → PyData
  | .inl n => .int n
  | .inr s => .str s
def keyP (k : List Key) : PyData := .tuple (k.map keyD)
/-- keys, and where each stands -/
abbrev KAs := List (List Key × Addr)
def srt (ps : KAs) : KAs := ps.mergeSort (dataLe false fun q => keyP q.1)
def refsOf (ps : KAs) : List V := ps.map fun q => V.ref q.2
theorem dp_keys {K : PySem.W.Frag} {H : Hp} : ∀ k : List Key, DpAll K H (k.map kV) (k.map keyD)
  | [] => .nil
  | .inl n :: k => .cons (.int n) (dp_keys k)
  | .inr s :: k => .cons (.str s) (dp_keys k)
theorem dp_key {K : PySem.W.Frag} {H : Hp} {b : Addr} {k : List Key} (h : SqT K H b (k.map kV)) : Dp K H (.ref b) (keyP k) := .tup h (dp_keys k)
theorem depth_keys : ∀ k : List Key, PyData.depthAll (k.map keyD) = 0
  | [] => by rw [List.map_nil, PyData.depthAll]
  | .inl n :: k => by rw [List.map_cons, PyData.depthAll, depth_keys k]; rfl
  | .inr s :: k => by rw [List.map_cons, PyData.depthAll, depth_keys k]; rfl
theorem depth_key (k : List Key) : (keyP k).depth ≤ 1 := by
  unfold keyP
  rw [PyData.depth, depth_keys]
  exact Nat.le_refl _
theorem each_refs {R : Value → List Key × Addr → Prop} : ∀ {vs : List Value} {ps : KAs}, vs = ps.map (fun q => Value.ref q.2) → (∀ q ∈ ps, R (.ref q.2) q) → EachIs R vs ps
  | _, [], rfl, _ => .nil
  | _, q :: ps, rfl, h => .cons (h q List.mem_cons_self) (each_refs rfl fun x hx => h x (List.mem_cons_of_mem _ hx))
theorem refs_each : ∀ {vs : List Value} {ps : KAs}, EachIs (fun v q => v = Value.ref q.2) vs ps → Vals (refsOf ps) vs
  | _, _, .nil => .nil
  | _, _, .cons rfl h => .cons rfl (refs_each h)
theorem refs_vals : ∀ {ps : KAs} {us : List Value}, Vals (refsOf ps) us → us = ps.map fun q => Value.ref q.2
  | [], _, .nil => rfl
  | q :: ps, _, .cons rfl h => by rw [refs_vals h]; rfl
section
variable {X : Cx}
/-- sorted(xs), xs a list of such tuples -/
def rSortL (K : PySem.W.Frag) : List V → Hp → VK → Prop := fun vs H Q => ∃ (a : Addr) (ps : KAs), vs = [V.ref a] ∧ SqL K H a (refsOf ps) ∧ (∀ q ∈ ps, SqT K H q.2 (q.1.map kV)) ∧ AllAlike (ps.map fun q => keyP q.1) ∧ Sortable (ps.map fun q => keyP q.1) ∧
  ∀ p, H p = none → Q (.ref p) (upd H p (.lst (refsOf (srt ps))))
theorem call_sortL (hu : X.A.units + 64 < cLine) : CallR X (.builtin "sorted") (rSortL X.K) := by
  intro pins s σ H vs us Q I r h
  obtain ⟨a, ps, rfl, hs, hx, hal, hk, q⟩ := h
  obtain ⟨its, rv, hl, hz⟩ := I.list hs
  obtain ⟨u, rfl, ru⟩ := vals1 r
  obtain rfl : u = Value.ref a := ru
  have ei := refs_vals rv
  have lz : ps.length ≤ sizeLine := by unfold refsOf at hz; rwa [List.length_map] at hz
  have rd : ∀ q ∈ ps, ∃ as, Reads s.heap (.ref q.2) (keyP q.1) as := fun q hq => Dp.reads I _ _ _ (dp_key (hx q hq)) rfl
  refine PySem.W.sorted_data (R := fun v q => v = Value.ref q.2) (enc := fun q : List Key × Addr => keyP q.1) hl.isList (each_refs ei fun _ _ => rfl) (each_refs ei fun q hq => rd q hq) hal hk lz (fun b _ => ?_) fun out ho hR => ?_
  · have := depth_key b.1
    show X.A.units + 2 + (keyP b.1).depth < cLine
    omega
  · obtain ⟨n, hn⟩ := sortedAll_at s.heap its out.toArray
    refine ⟨.ref _, upd H (s.heap.objs.size + 1) (.lst (refsOf (srt ps))), I.laid (t' := s.toks) (fun b o e => sortedAll_old e) (Nat.le_succ _) ⟨?_, out, n, refs_each hR, hn⟩, rfl, q _ (I.hok.fresh (Nat.le_succ _))⟩
    unfold refsOf srt
    rw [List.length_map, List.length_mergeSort]
    exact lz
end
/-! ### the keys of a dict, collected -/
section
variable {P : Program} {w : World} {A : Around} {E : Value → Shared → Prop} {s : Shared} {d : Addr} {o : Obj} {es : Array DictEntry} {ep : Nat}
theorem collect_keys {R : List Value → Shared → Prop} (hh : A.handled = none) (lo : (d == sysModules) = false) (hx : o.ExactDict) (hd : o.data = .dict es ep) (ho : s.heap.get? d = some o) (hn : es.size ≤ sizeLine)
    (h : ∀ (h' : Heap) (tk : Nat) (vs : List Value), (∀ b u, s.heap.get? b = some u → h'.get? b = some u) → s.heap.objs.size ≤ h'.objs.size → vs.length = es.size → (∀ (i : Nat) v, vs[i]? = some v → ∃ en : DictEntry, es[i]? = some en ∧ v = en.key) → R vs { s with heap := h', toks := tk }) :
    wpAny (model P w) A (collect (.ref d)) R E s := by
  have below : d < s.heap.objs.size := Heap.lt_size ho
  unfold collect
  refine wpAny_bind
    (wpAny_runValue (codeAny_builtin PySem.F.entry_proto_collect ?_))
  rw [Around.under_plainId
    PySem.F.plain_proto_collect _]
  show wpAny _ A.in1 (newList [] >>= fun l => again (.builtin "list.__iadd__" ⟨[l, .ref d], []⟩)) _ _ s
  refine wpAny_bind
    (wpAny_newObj_type (wpAny_pure ⟨plainId_quiet PySem.F.plain_list_iadd _, codeAny_builtin PySem.F.entry_list_iadd ?_⟩))
  rw [Around.under_plainId
    PySem.F.plain_list_iadd _]
  have at0 : (s.heap.push { cls := .type "list", data := .seq ([] : List Value).toArray }).get? s.heap.objs.size = some { cls := .type "list", data := .seq #[] } := Heap.get?_push_size _ rfl
  show wpAny _ A.in1 (Builtin.List.listExtendWith (.ref s.heap.objs.size) (.ref d) (.ref s.heap.objs.size)) _ _ _
  have run := PySem.W.kdl_extend (prog := P) (w := w) (A := A) (s := { s with heap := s.heap.push { cls := .type "list", data := .seq ([] : List Value).toArray } })
    (R := fun (q : Result) (s' : Shared) => ∃ (h' : Heap) (tk : Nat) (acc : Array Value) (c : Nat), q = .ok (.ret (.ref s.heap.objs.size)) ∧ s' = { s with heap := h', toks := tk } ∧
      (∀ b u, s.heap.get? b = some u → h'.get? b = some u) ∧ h'.get? s.heap.objs.size = some { cls := .type "list", dict := none, data := .seq acc c, slots := #[] } ∧ ItemsOf (fun i v => ∃ en : DictEntry, es[i]? = some en ∧ v = en.key) acc es.size)
    (kdl_raw (prog := P) (w := w) lo hx hd) hh (Heap.get?_push_of_some _ ho) s.heap.objs.size (Nat.ne_of_gt below) (Nat.ne_of_gt below) (.ref s.heap.objs.size) 0 at0
    (fun h' tk acc c k e it => ⟨h', tk, acc, c, rfl, rfl, fun b u z => k b u (Nat.ne_of_lt (Heap.lt_size z)) (Heap.get?_push_of_some _ z), e, it⟩) hn
  have fin : ∀ (q : Result) (s' : Shared), (∃ (h' : Heap) (tk : Nat) (acc : Array Value) (c : Nat), q = .ok (.ret (.ref s.heap.objs.size)) ∧ s' = { s with heap := h', toks := tk } ∧
      (∀ b u, s.heap.get? b = some u → h'.get? b = some u) ∧ h'.get? s.heap.objs.size = some { cls := .type "list", dict := none, data := .seq acc c, slots := #[] } ∧ ItemsOf (fun i v => ∃ en : DictEntry, es[i]? = some en ∧ v = en.key) acc es.size) →
      q = .ok (.ret (.ref s.heap.objs.size)) ∧ wpAny (model P w) A (do let o ← load s.heap.objs.size; match o.data with | .seq xs _ => pure xs.toList | _ => unsupported "internal:collect") R E s' := by
    rintro q s' ⟨h', tk, acc, c, rfl, rfl, k, e, it⟩
    refine ⟨rfl, wpAny_bind (wpAny_load e (wpAny_pure ?_))⟩
    exact h h' tk acc.toList k (Nat.le_of_lt (Heap.lt_size e)) (by rw [Array.length_toList]; exact it.1) fun i v z => it.2 i v (by rw [← Array.getElem?_toList]; exact z)
  refine wpAny_mono run (fun f s' z => ?_) fun e s' z => ?_
  · cases f with
    | done f =>
      have y := fin _ s' z
      cases y.1
      exact y.2
    | again c =>
      refine ⟨z.1, codeAny_mono z.2 fun q s2 y => ?_⟩
      have y2 := fin _ s2 y
      cases y2.1
      exact y2.2
  · obtain ⟨_, _, _, _, e, _⟩ := z
    cases e
end
/-! ### a new list of such tuples, sorted -/
section
variable {P : Program} {w : World} {A : Around} {E : Value → Shared → Prop} {s : Shared}
theorem sort_fresh {vs : List Value} {ps : KAs} {Q : Value → Shared → Prop} (hv : vs = ps.map fun q => Value.ref q.2) (rd : ∀ q ∈ ps, ∃ as, Reads s.heap (.ref q.2) (keyP q.1) as) (hal : AllAlike (ps.map fun q => keyP q.1)) (hk : Sortable (ps.map fun q => keyP q.1))
    (hL : ps.length ≤ sizeLine) (hu : A.units + 3 < cLine) (h : ∀ (h' : Heap) (out : List Value) (n : Nat), Vals (refsOf (srt ps)) out → (∀ b u, s.heap.get? b = some u → h'.get? b = some u) → h'.get? s.heap.objs.size = some (seqObj "list" out.toArray n) → Q .none { s with heap := h' }) :
    wpAny (model P w) A (call (.builtin "list.sort") [.ref s.heap.objs.size]) Q E { s with heap := s.heap.push (seqObj "list" vs.toArray 0) } := by
  have ho : (s.heap.push (seqObj "list" vs.toArray 0)).get? s.heap.objs.size = some (seqObj "list" vs.toArray 0) := Heap.get?_push_size _ rfl
  have old : ∀ b u, s.heap.get? b = some u → (s.heap.push (seqObj "list" vs.toArray 0)).get? b = some u := fun b u e => Heap.get?_push_of_some _ e
  generalize s.heap.push (seqObj "list" vs.toArray 0) = H1 at ho old ⊢
  have rd1 : EachIs (fun v q => ∃ as, Reads (PySem.W.sortingHeap H1 s.heap.objs.size vs) v (keyP q.1) as) vs ps := each_refs hv fun q hq => by
    obtain ⟨as, r⟩ := rd q hq
    exact ⟨as, PyProof.Rows.Reads.keeps (fun b u e => PySem.W.sortingHeap_old (Nat.ne_of_lt (Heap.lt_size e)) (old b u e)) r⟩
  have e0 : EachIs (fun v q => v = Value.ref q.2) vs ps := each_refs hv fun _ _ => rfl
  have srtAt : SortsAt P w A.in1 { s with heap := PySem.W.sortingHeap H1 s.heap.objs.size vs } (dataKind (PySem.W.sortingHeap H1 s.heap.objs.size vs) (ps.map fun q => keyP q.1)) vs :=
    SortsAt.data (s := { s with heap := PySem.W.sortingHeap H1 s.heap.objs.size vs })
      (PySem.W.each_map (R := fun v d => ∃ as, Reads (PySem.W.sortingHeap H1 s.heap.objs.size vs) v d as) (fun q : List Key × Addr => keyP q.1) rd1) hal hk fun d hd => by
        obtain ⟨q, _, rfl⟩ := List.mem_map.mp hd
        have := depth_key q.1
        show A.units + 1 + (keyP q.1).depth < cLine
        omega
  refine wpAny_call_entry slot_list_sort ⟨_, ho, rfl⟩ entry_list_sort
    (PySem.W.list_sort_vals ho srtAt (by rw [e0.length]; exact hL) ⟨.none, rfl, ?_⟩) (args_list_sort _)
  obtain ⟨n, hn⟩ := sortedHeap_at (vs := vs) (out := (PySem.W.sortVals (dataKind (PySem.W.sortingHeap H1 s.heap.objs.size vs) (ps.map fun q => keyP q.1)) false vs vs).toArray) ho
  refine h _ _ n (refs_each (PySem.W.sortVals_data false e0 rd1 hal)) (fun b u e => ?_) hn
  rw [sortedHeap_old (Nat.ne_of_lt (Heap.lt_size e)) (Heap.lt_size (old b u e))]
  exact old b u e
end
/-! ### sorted of such a dict -/
section
variable {X : Cx}
theorem keys_alike {H : Hp} : ∀ {kvs : List (List Key × V)} {bs : List Addr}, IsKeys H kvs bs → ((kvs.map (·.1)).zip bs).map (·.1) = kvs.map (·.1) ∧ ((kvs.map (·.1)).zip bs).map (·.2) = bs ∧ ∀ q ∈ (kvs.map (·.1)).zip bs, H q.2 = some (.tup (q.1.map kV))
  | _, _, .nil => ⟨rfl, rfl, fun q h => by cases h⟩
  | c :: kvs, b :: bs, .cons h t => by
    obtain ⟨h1, h2, h3⟩ := keys_alike t
    rw [List.map_cons, List.zip_cons_cons]
    refine ⟨by rw [List.map_cons, h1], by rw [List.map_cons, h2], fun q hq => ?_⟩
    rcases List.mem_cons.mp hq with rfl | hq
    · exact h
    · exact h3 q hq
def rSortD : List V → Hp → VK → Prop := fun vs H Q => ∃ (d : Addr) (kvs : List (List Key × V)), vs = [.ref d] ∧ H d = some (.dT kvs) ∧ AllAlike (kvs.map fun c => keyP c.1) ∧ Sortable (kvs.map fun c => keyP c.1) ∧
  ∀ p bs, H p = none → IsKeys H kvs bs → Q (.ref p) (upd H p (.lst (refsOf (srt ((kvs.map (·.1)).zip bs)))))
theorem call_sortD (hc : X.calm = true) (hu : X.A.units + 64 < cLine) : CallR X (.builtin "sorted") rSortD := by
  intro pins s σ H vs us Q I r h
  obtain ⟨d, kvs, rfl, hd, hal, hk, q⟩ := h
  obtain ⟨u, rfl, rx⟩ := r.one
  cases rx
  obtain ⟨z, hs, ks, pr, o, es, ep, ho, hx, hdt, he, hn⟩ := dt_of I.hok hd
  have l1 : es.size = ks.length := size_of_entries he
  have l2 : kvs.length = ks.length := Paired.length pr
  have ik := isKeys_of pr
  obtain ⟨k1, k2, k3⟩ := keys_alike ik
  generalize eB : ks.map (fun x => x.2.1) = bs at ik k1 k2 k3
  refine Calls.call_function_entry kind_sorted plain_sorted
    entry_sorted (args_sorted1 _) ?_
  unfold Builtin.«sorted»
  refine wpAny_bind (m := checkCount "sorted" 1 1 _)
    (wpAny_pure (wpAny_bind (collect_keys (A := X.A.in1) (show X.A.in1.handled = none from I.ok.hd hc) hs hx hdt ho (by omega) fun h' tk vs kp big vl it => ?_)))
  have ev : vs = ((kvs.map (·.1)).zip bs).map fun q => Value.ref q.2 := by
    have : ((kvs.map (·.1)).zip bs).map (fun q => Value.ref q.2) = (((kvs.map (·.1)).zip bs).map (·.2)).map Value.ref := by rw [List.map_map]; rfl
    rw [this, k2, ← eB, List.map_map]
    apply List.ext_getElem?
    intro j
    rw [List.getElem?_map]
    cases hj : vs[j]? with
    | none =>
      have h1 := List.getElem?_eq_none_iff.mp hj
      rw [List.getElem?_eq_none (by omega)]
      all_goals rfl
    | some v =>
      obtain ⟨en, hen, hv⟩ := it j v hj
      have qe := entry_at he j
      rw [hen] at qe
      cases hb : ks[j]? with
      | none =>
        rw [hb] at qe
        exact nomatch (show some en = none from qe)
      | some b =>
        rw [hb] at qe
        have e2 : en = entryOfKey (tupleKind (mixKind X.prog X.w)) b := Option.some.inj qe
        rw [hv, e2]
        all_goals rfl
  have hz : ((kvs.map (·.1)).zip bs).length = kvs.length := by rw [← List.length_map (f := (·.1)), k1, List.length_map]
  have el : vs.length = kvs.length := by rw [ev, List.length_map, hz]
  refine wpAny_bind (wpAny_newList ?_ (by omega))
  have al2 : ((kvs.map (·.1)).zip bs).map (fun q => keyP q.1) = kvs.map fun c => keyP c.1 := by
    have : ((kvs.map (·.1)).zip bs).map (fun q => keyP q.1) = (((kvs.map (·.1)).zip bs).map (·.1)).map keyP := by rw [List.map_map]; rfl
    rw [this, k1, List.map_map]
    rfl
  have rd : ∀ q ∈ (kvs.map (·.1)).zip bs, ∃ as, Reads h' (.ref q.2) (keyP q.1) as := fun q hq => by
    obtain ⟨as, r⟩ := Dp.reads I _ _ _ (dp_key (SqT.of (k3 q hq))) rfl
    exact ⟨as, PyProof.Rows.Reads.keeps kp r⟩
  refine wpAny_bind (wpAny_holding (sort_fresh (s := { s with heap := h', toks := tk }) ev rd (by rw [al2]; exact hal) (by rw [al2]; exact hk) (by omega) (by show X.A.units + 1 + 3 < cLine; omega) fun h2 out n rv kp2 at2 => ?_))
  refine wpAny_pure ⟨_, rfl, .ref h'.objs.size, upd H h'.objs.size (.lst (refsOf (srt ((kvs.map (·.1)).zip bs)))), ?_, rfl, q _ bs (I.hok.fresh ?_) ik⟩
  · refine I.laid (t' := tk) (fun b u e => kp2 b u (kp b u e)) ?_ ⟨?_, out, n, rv, at2⟩
    · exact big
    · unfold refsOf srt
      rw [List.length_map, List.length_mergeSort]
      omega
  · exact big
end
end Ew

set_option Elab.async false
set_option linter.all false
set_option maxRecDepth 100000
set_option maxHeartbeats 4000000
namespace Ew
open PySem PySem.Spec PyProof.Rows L2
section
variable {F H F' H' F2 H2 : Hp} {J : It} {n : Nat} {G : Hp → Prop} {Y : Nat → Hp → V → Hp → Prop}
/-- [.. for x in xs if ..], nothing is changed: the turns that are kept give an item each -/
theorem lcF (w : Walk J n G Y) {g : TG} {tt : TT} {te : TE} {vs : List Nat} {σ : L2.St} {D : Addr} {Qd : Hp → Prop} (keep : Nat → Bool) (hf : Same F H) (hD : H D = none) (R : Nat → Hp → V → Prop) (hR : ∀ i F F' y, Same F F' → R i F y → R i F' y)
    (hn : n ≤ 1000000) (hG : ∀ F' H', Same F F' → Same F' H' → G H')
    (hs : ∀ i x F' H' H'' (Kt : VK) (Kn : Hp → Prop), i < n → Stp F H F' H' → Y i H' x H'' → (keep i = true → ∀ y F4 H4, Stp F' H' F4 H4 → R i F4 y → Kt y H4) → (keep i = false → ∀ F4 H4, Stp F' H' F4 H4 → Kn H4) →
      g x (wipe σ vs) H'' fun σ2 H2 => wipe σ2 vs = wipe σ vs ∧ tt σ2 H2 fun b H3 => if b = true then te σ2 H3 Kt else Kn H3)
    (hd : ∀ F' H' ys, Stp F H F' H' → F' D = some (.lst ys) → Paired (fun y i => R i F' y) ys ((List.range n).filter keep) → Qd H') :
    ∃ W : Nat → Nat → Hp → Prop, (∃ k, W 0 k (upd H D (.lst []))) ∧ ∀ i k H, W i k H →
      (J.stop i H ∧ Qd H) ∨ (J.go i H ∧ ∃ Nx : Hp → Prop, (∀ H', Nx H' → ∃ k', k' < k ∧ W (i + 1) k' H') ∧ ∀ x H', J.yld i H x H' → g x (wipe σ vs) H' fun σ2 H2 => wipe σ2 vs = wipe σ vs ∧ tt σ2 H2 fun b H3 =>
        if b = true then te σ2 H3 fun y H4 => ∃ acc, H4 D = some (.lst acc) ∧ acc.length < sizeLine ∧ Nx (upd H4 D (.lst (acc ++ [y]))) else Nx H3) := by
  have fD : F D = none := hf.free hD
  have step : ∀ i, (List.range (i + 1)).filter keep = (List.range i).filter keep ++ if keep i = true then [i] else [] := fun i => by
    rw [List.range_succ, List.filter_append]
    congr 1
    cases q : keep i <;> simp [q]
  refine lc_it w (fun i H' => ∃ F' acc, Stp F H F' H' ∧ F' D = none ∧ H' D = some (.lst acc) ∧ Paired (fun y i => R i F' y) acc ((List.range i).filter keep)) ?_ ?_ ?_ ?_
  · exact ⟨F, [], (Stm.refl hf).raw hD hD, fD, upd_same, .nil⟩
  · rintro i H' _ ⟨F', acc, s, _⟩
    exact hG F' H' s.ff s.fh
  · rintro i x H' H'' hi ⟨F', acc, s, f', h', pr⟩ y
    refine hs i x F' H' H'' _ _ hi s y (fun kp y F4 H4 s4 r4 => ?_) fun kp F4 H4 s4 => ?_
    · have f4 : F4 D = none := s4.nw D f' (by rw [h']; exact fun z => nomatch z)
      have h4 : H4 D = some (.lst acc) := s4.hh D _ (fun z => z) h'
      have al : acc.length ≤ i := by
        have e := Paired.length pr
        have := List.length_filter_le keep (List.range i)
        rw [List.length_range] at this
        omega
      refine ⟨acc, h4, by rw [sizeLine_eq]; omega, F4, acc ++ [y], (s.transP s4).mut f4 hD, f4, upd_same, ?_⟩
      rw [step i, if_pos kp]
      exact Paired.snoc (Paired.mapP pr fun a b z => hR _ _ _ _ s4.ff z) r4
    · refine ⟨F4, acc, s.transP s4, s4.nw D f' (by rw [h']; exact fun z => nomatch z), s4.hh D _ (fun z => z) h', ?_⟩
      rw [step i, if_neg (by rw [kp]; decide), List.append_nil]
      exact Paired.mapP pr fun a b z => hR _ _ _ _ s4.ff z
  · rintro H' ⟨F', acc, s, f', h', pr⟩
    exact hd (upd F' D (.lst acc)) H' acc (s.freeze f' hD h') upd_same (Paired.mapP pr fun a b z => hR _ _ _ _ (same_new f') z)
end
end Ew

set_option Elab.async false
set_option linter.all false
set_option maxRecDepth 100000
set_option maxHeartbeats 4000000
namespace K49
open PySem PySem.Spec PyProof.Rows L2 Ew
section
variable {P : Program} {w : World} {K : PySem.W.Frag} {mg : Str → Option Value} {base : Heap} {a : Ad}
theorem Sps.at_ {t : Bool} {H : Hp} {p : Addr} {ps : List Spot} (h : Sps K t H p ps) {i : Nat} (hi : i < ps.length) : ∃ us u s, Sq K t H p us ∧ us.length = ps.length ∧ ps[i]? = some s ∧ Spt K H u s ∧ atI us ((0 : Int) + (i : Nat)) = some u := by
  obtain ⟨us, h1, h2⟩ := h
  have hl := Paired.length h2
  obtain ⟨u, hu⟩ : ∃ u, us[i]? = some u := ⟨_, List.getElem?_eq_getElem (by omega)⟩
  obtain ⟨s, hs, hq⟩ := paired_get h2 hu
  refine ⟨us, u, s, h1, hl, hs, hq, atI_int (by omega) (by omega) ?_⟩
  have : ((0 : Int) + (i : Nat)).toNat = i := by omega
  rw [this, hu]
theorem Tb.at_ {t : Bool} {H : Hp} {p : Addr} {n : Nat} {f : Tb2} (h : Tb K t H (.ref p) n f) {i : Nat} (hi : i < n) : ∃ us q, Sq K t H p us ∧ us.length = n ∧ Sq K t H q (rowV n (f i)) ∧ atI us ((0 : Int) + (i : Nat)) = some (.ref q) := by
  obtain ⟨_, us, er, h1, hl, h2⟩ := h
  cases er
  obtain ⟨u, hu⟩ : ∃ u, us[i]? = some u := ⟨_, List.getElem?_eq_getElem (by omega)⟩
  obtain ⟨q, rfl, hq⟩ := h2 i u hu
  refine ⟨us, q, h1, hl, hq, atI_int (by omega) (by omega) ?_⟩
  have : ((0 : Int) + (i : Nat)).toNat = i := by omega
  rw [this, hu]
theorem small63 {n : Nat} (h : n ≤ 1000) : ((n : Nat) : Int) < 2 ^ 63 := by
  have : (2 : Int) ^ 63 = 9223372036854775808 := by decide
  omega
theorem filter_no : ∀ l : List Nat, l.filter (fun _ => false) = []
  | [] => rfl
  | _ :: l => by rw [List.filter_cons]; exact filter_no l
theorem sps_all {H : Hp} {us : List V} {ps : List Spot} (h : Paired (fun v q => Spt K H v q) us ps) : DpAll K H us (ps.map spD) := by
  refine dp_of (by rw [List.length_map, Paired.length h]) fun i u d e1 e2 => ?_
  obtain ⟨s, hs, hq⟩ := paired_get h e1
  rw [List.getElem?_map, hs] at e2
  cases e2
  exact hq.dp
def sp__law_right_card (P : Program) (w : World) (K : PySem.W.Frag) (a : Ad) : Sp := fun vs H Q _ => ∃ (c v : V) (p : Addr) (ps : List Spot) (f : Tb2), vs = [c, .ref p, v] ∧ Cd P w K a.Card H c ps f ∧ Sps K false H p ps ∧ OkS ps ∧ Tb K false H v ps.length f ∧ ∀ H', Same H H' → Q (.bl true) H'
theorem c__law_right_card (T : Txt K mg a) : Cl P w K mg base 7 "_law_right_card" P__law_right_card (sp__law_right_card P w K a) [] :=
  T.d__law_right_card.cl sc__law_right_card (fun vs H Q E h => by obtain ⟨c, v, p, ps, f, rfl, _⟩ := h; rfl) fun f cdv A outer s H vs Q E hr h => by
    obtain ⟨c, v, p, ps, f, rfl, cd, hps, ok, tb, k⟩ := h
    obtain ⟨x, dx, sp, d, rw, rfl, hx, h1, h2, h3⟩ := id cd
    obtain ⟨r, rs, rfl, hr0, hrl, hrs⟩ := id tb
    obtain ⟨us, hus, hpr⟩ := id hps
    have hul : us.length = ps.length := Paired.length hpr
    have hus : SqL K H p us := hus
    obtain ⟨ss, hss, hsp⟩ := id h1
    have hss : SqT K H sp ss := hss
    have hsl := Paired.length hsp
    have nd := ok.nd
    have flN : Fl 2 (.list (ps.map spD)) := Fl.lst (FlA.all fun d hd => by
      obtain ⟨s, hs, rfl⟩ := List.mem_map.mp hd
      exact fl_sp (ok.ok s hs))
    obtain ⟨_, ts, er, hts, htl, _⟩ := id h3
    cases er
    have n1000 := ok.le
    refine ⟨_, ((pss_cons (ps_if (PW.pt (pw_or (pt_not (pt_val (pe_callB call_isi (by rfl) T.n_isinstance (by decide +kernel) (pa_cons (pv 0) (pa_cons (pe_glob (v := .ref a.Card) rfl T.g_Card rfl) pa_nil))))) (pw_or (pt_not (pt_val (pe_callB call_isi (by rfl) T.n_isinstance (by decide +kernel) (pa_cons (pe_fld (pv 0) rfl) (pa_cons (pe_bltn (v := .ty "tuple") (by rfl) T.n_tuple (by decide +kernel) rfl) pa_nil))))) (pw_or1 (pt_not (pt_val (pe_callB call_isi (by rfl) T.n_isinstance (by decide +kernel) (pa_cons (pe_fld (pv 0) rfl) (pa_cons (pe_bltn (v := .ty "tuple") (by rfl) T.n_tuple (by decide +kernel) rfl) pa_nil)))))))))
 (pss_one (ps_ret pe_bl))
 pss_nil)
 (pss_cons (ps_if (PW.pt (pw_or (pt_cmpR (op_neD hr.units) (pe_fld (pv 0) rfl) (pe_callTy call_tupS (by rfl) T.n_tuple (by decide +kernel) (pa_cons (pv 1) pa_nil)) (nomark _)) (pw_or (pt_cmpR op_ne (pe_callB call_len_seq (by rfl) T.n_len (by decide +kernel) (pa_cons (pe_fld (pv 0) rfl) pa_nil)) (pe_callB call_len_seq (by rfl) T.n_len (by decide +kernel) (pa_cons (pv 1) pa_nil)) (nomark _)) (pw_or1 (pt_cmpR op_ne (pe_callB (call_lenC (o_Card_len T) hr (by decide)) (by rfl) T.n_len (by decide +kernel) (pa_cons (pv 0) pa_nil)) (pe_callB call_len_seq (by rfl) T.n_len (by decide +kernel) (pa_cons (pv 1) pa_nil)) (nomark _))))))
 (pss_one (ps_ret pe_bl))
 pss_nil)
 (pss_cons (ps_if (pt_cmpR (op_neD hr.units) (pe_callTy (T := "list") (call_listT rfl (it_Card T) (o_Card_len T) hr (by decide)) (by rfl) T.n_list (by decide +kernel) (pa_cons (pv 0) pa_nil)) (pe_callTy call_list_of (by rfl) T.n_list (by decide +kernel) (pa_cons (pv 1) pa_nil)) (nomark _))
 (pss_one (ps_ret pe_bl))
 pss_nil)
 (pss_cons (ps_for (passes_of rfl) rfl (pi_range1 (by rfl) T.n_range (pa_cons (pe_callB call_len_seq (by rfl) T.n_len (by decide +kernel) (pa_cons (pv 1) pa_nil)) pa_nil)) (pg_name (i := 3) sc__law_right_card.nd rfl (Or.inl rfl))
 (pss_cons (ps_set (i := 4) sc__law_right_card.nd rfl (Or.inl rfl) (pe_ix ix_tup (pe_fld (pv 0) rfl) (pv 3) (fun _ _ => rfl)))
 (pss_cons (ps_if (PW.pt (pw_or (pt_not (pt_val (pe_callB call_isi (by rfl) T.n_isinstance (by decide +kernel) (pa_cons (pv 4) (pa_cons (pe_bltn (v := .ty "tuple") (by rfl) T.n_tuple (by decide +kernel) rfl) pa_nil))))) (pw_or1 (pt_cmpR (op_neD hr.units) (pe_lc (own := [("_law_one", 7)]) (g := (gName 7)) (by rfl) sc__law_right_card.nd (pi_tup (pv 4)) (blkOk_by (own := [("_law_one", 7)]) (N := N__law_right_card) (sc := defScope s__law_right_card) (by decide +kernel)) (fun _ _ _ _ _ => (pg_name (i := 7) sc__law_right_card.nd rfl (Or.inl rfl) (hf := .inr rfl))) (fun _ _ _ _ _ => (pts_one (pt_not (pt_val (pe_f (c__law_integer T) takes0 hr (by decide) rfl (pa_cons (pv 7) pa_nil)))))) (fun _ _ _ _ _ => (pv 7))) (pe_lst pa_nil) (nomark _)))))
 (pss_one (ps_ret pe_bl))
 pss_nil)
 (pss_cons (ps_if (PW.pt (pw_or (pt_cmpR (op_neD hr.units) (pv 4) (pe_callTy call_tupS (by rfl) T.n_tuple (by decide +kernel) (pa_cons (pe_ix ix_list (pv 2) (pv 3) (fun _ _ => rfl)) pa_nil)) (nomark _)) (pw_or1 (pt_cmp (pc_ninC (o_Card_contains T) (takes_of rfl rfl rfl rfl) hr (by decide) (pe_ix ix_list (pv 1) (pv 3) (fun _ _ => rfl)) (pv 0)) rfl))))
 (pss_one (ps_ret pe_bl))
 pss_nil)
 (pss_one (ps_for (passes_of rfl) rfl (pi_range1 (by rfl) T.n_range (pa_cons (pe_callB call_len_seq (by rfl) T.n_len (by decide +kernel) (pa_cons (pv 1) pa_nil)) pa_nil)) (pg_name (i := 5) sc__law_right_card.nd rfl (Or.inl rfl))
 (pss_cons (ps_set (i := 6) sc__law_right_card.nd rfl (Or.inl rfl) (pe_ixC (o_Card_getitem T) (takes_of rfl rfl rfl rfl) hr (by decide) (pv 0) (pe_tup (pa_cons (pe_ix ix_list (pv 1) (pv 3) (fun _ _ => rfl)) (pa_cons (pe_ix ix_list (pv 1) (pv 5) (fun _ _ => rfl)) pa_nil))) (fun _ _ => rfl)))
 (pss_one (ps_if (PW.pt (pw_or (pt_not (pt_val (pe_f (c__law_integer T) (takes_of rfl rfl rfl rfl) hr (by decide) rfl (pa_cons (pv 6) pa_nil)))) (pw_or1 (pt_cmpR op_ne (pv 6) (pe_ix ix_list (pe_ix ix_list (pv 2) (pv 3) (fun _ _ => rfl)) (pv 5) (fun _ _ => rfl)) (nomark _)))))
 (pss_one (ps_ret pe_bl))
 pss_nil)))))))))
 (pss_one (ps_ret pe_bl))))))), ?_⟩
    refine ⟨_, rfl, _, _, _, _, true, rfl, .own _, ty_card T hx, kit_same, true, rfl, iteF ?_⟩
    refine ⟨_, rfl, x, a.Card, dx, _, _, rfl, hx, T.ki.cl, T.nS, rfl, _, _, _, _, true, rfl, .ty _, ty_sqT hss, kit_ty (by decide +kernel), true, rfl, iteF ?_⟩
    refine ⟨_, rfl, x, a.Card, dx, _, _, rfl, hx, T.ki.cl, T.nR, rfl, _, _, _, _, true, rfl, .ty _, ty_sqT hts, kit_ty (by decide +kernel), true, rfl, iteF ?_⟩
    refine ⟨_, rfl, x, a.Card, dx, _, _, rfl, hx, T.ki.cl, T.nS, rfl, _, rfl, ?_⟩
    dsimp only [tNil]
    refine tuple_of (t := false) hus fun H1 q1 e1 hq1 => ?_
    have sp1 : Sps K true H1 q1 ps := ⟨us, hq1, Paired.mapP hpr fun _ _ z => z.up e1⟩
    refine ⟨spsD ps, spsD ps, (h1.up e1).dp, sp1.dp, (fl_sps ok.ok).sh (by decide), (fl_sps ok.ok).sh (by decide), _, rfl, ?_⟩
    rw [eqv_sps, decide_eq_true rfl]
    refine iteF ?_
    refine ⟨_, rfl, x, a.Card, dx, _, _, rfl, e1 _ _ hx, T.ki.cl, T.nR, rfl, rw, ts, rfl, .inr (upT e1 hts), _, rfl, p, us, rfl, .inl (upL e1 hus), rfl, _, rfl, iteN (by simp [htl, hul]) ?_⟩
    refine ⟨_, rfl, x, dx, _, rfl, e1 _ _ hx, _, ps, f, rfl, cd.up e1, _, rfl, by omega, small63 n1000, _, rfl, p, us, rfl, .inl (upL e1 hus), rfl, _, rfl, iteN (by simp [hul]) ?_⟩
    refine ⟨_, rfl, x, dx, _, sp, ss, rfl, e1 _ _ hx, rfl, upT e1 hss, fun q nq => ⟨_, ps, f, rfl, cd.up (e1.trans (same_new nq)), ps.length, rfl, by rw [sizeLine_eq]; omega, rfl⟩, fun q2 n2 => ?_⟩
    have e12 := e1.trans (same_new (o := .lst ss) n2)
    refine ⟨_, rfl, p, us, rfl, .inl (upL e12 hus), fun q3 n3 => ?_⟩
    have e13 := e12.trans (same_new (o := .lst us) n3)
    refine ⟨.list (ps.map spD), .list (ps.map spD), .lst (SqL.of (same_new n3 _ _ upd_same)) (sps_all (Paired.mapP hsp fun _ _ z => z.up e13)), .lst (SqL.of upd_same) (sps_all (Paired.mapP hpr fun _ _ z => z.up e13)), flN.sh (by decide), flN.sh (by decide), _, rfl, ?_⟩
    rw [PyData.eqv, eqvAll_map eqv_sp, decide_eq_true rfl]
    refine iteF ?_
    generalize upd (upd H1 q2 (.lst ss)) q3 (.lst us) = H1' at e13
    have e1 := e13
    refine ⟨_, rfl, p, us, rfl, .inl (upL e1 hus), _, rfl, by omega, by omega, ?_⟩
    rw [show (((us.length : Nat) : Int)).toNat = ps.length by omega]
    refine for_it walk_range (fun i σ' H' => ∃ c3 c4 c5 c6 c7, σ' = [some (.ref x), some (.ref p), some (.ref r), c3, c4, c5, c6, c7] ∧ Same H H') ?_ (fun _ _ _ _ _ => trivial) ?_ ?_
    · exact ⟨none, none, none, none, none, rfl, e1⟩
    · rintro i _ _ _ H2 hi ⟨c3, c4, c5, c6, c7, rfl, e2⟩ ⟨rfl, rfl⟩
      obtain ⟨ts2, qt, ht2, _, hqt, att⟩ := (h3.up e2).at_ hi
      obtain ⟨rs2, qr, hr2, _, hqr, atr⟩ := (tb.up e2).at_ hi
      refine ⟨_, rfl, x, a.Card, dx, _, _, rfl, e2 _ _ hx, T.ki.cl, T.nR, rfl, _, rfl, rw, _, _, _, rfl, rfl, ht2, att, ?_⟩
      refine ⟨_, rfl, _, _, _, _, true, rfl, .ty _, ty_sqT hqt, kit_ty (by decide +kernel), true, rfl, iteF ?_⟩
      refine ⟨_, rfl, qt, rfl, ⟨_, hqt⟩, fun D hD => ?_⟩
      refine lcF walk_tup (fun _ => false) (.refl H2) hD (fun _ _ _ => True) (fun _ _ _ _ _ _ => trivial) (by rw [rowV_len]; omega) (fun F' H' g1 g2 => upT (g1.trans g2) hqt) ?_ ?_
      · rintro j y F' _ H4 Kt Kn hj s4 ⟨rfl, hy⟩ _ kn
        obtain ⟨_, rfl⟩ := rowV_get hy
        refine ⟨rfl, _, rfl, _, rfl, .inl ⟨_, rfl, true, rfl, ?_⟩⟩
        exact kn rfl _ _ (.refl s4.fh)
      · intro F3 H3 ys s3 hD3 pr3
        have yn : ys = [] := by
          have e := Paired.length pr3
          rw [filter_no] at e
          exact List.length_eq_zero_iff.mp e
        subst yn
        have e3 := s3.ff.trans s3.fh
        refine ⟨by show 0 ≤ sizeLine; decide, fun D2 n2 => ?_⟩
        have e4 := e3.trans (same_new (o := .lst []) n2)
        refine ⟨.list [], .list [], .lst (SqL.of (same_new n2 _ _ (s3.fh _ _ hD3))) .nil, .lst (SqL.of upd_same) .nil, (Fl.lst (n := 0) .nil).sh (by decide), (Fl.lst (n := 0) .nil).sh (by decide), _, rfl, ?_⟩
        rw [show PyData.eqv (.list []) (.list []) = true by simp [PyData.eqv, PyData.eqvAll]]
        refine iteF ?_
        generalize upd H3 D2 (.lst []) = H5 at e4
        have e25 := e2.trans e4
        refine ⟨_, rfl, _, rfl, _, rfl, r, rs2, _, _, rfl, rfl, upL e4 hr2, atr, ?_⟩
        dsimp only [tNil]
        refine tuple_of (t := false) (upL e4 hqr) fun H6 q6 e6 hq6 => ?_
        refine ⟨_, _, dp_row (upT e6 (upT e4 hqt)), dp_row hq6, (fl_ints _).sh (by decide), (fl_ints _).sh (by decide), _, rfl, ?_⟩
        rw [eqv_ints, decide_eq_true rfl]
        refine iteF ?_
        have e26 := e25.trans e6
        obtain ⟨u0, v0, s0, x1, _, x2, x3, x4⟩ := (hps.up e26).at_ hi
        refine ⟨_, rfl, _, rfl, p, _, _, _, rfl, rfl, x1, x4, _, rfl, x, dx, _, rfl, e26 _ _ hx, _, _, ps, f, spD s0, rfl, cd.up e26, nd, x3.dp, _, rfl, ?_⟩
        rw [inC_sp, decide_eq_true (List.mem_of_getElem? x2)]
        refine ⟨_, rfl, iteF ?_⟩
        refine ⟨_, rfl, p, us, rfl, .inl (upL e26 hus), _, rfl, by omega, by omega, ?_⟩
        rw [show (((us.length : Nat) : Int)).toNat = ps.length by omega]
        refine for_it walk_range (fun j σ' H' => ∃ c5 c6 c7, σ' = [some (.ref x), some (.ref p), some (.ref r), some (.int (0 + (i : Nat))), some (.ref qt), c5, c6, c7] ∧ Same H H') ?_ (fun _ _ _ _ _ => trivial) ?_ ?_
        · exact ⟨_, _, _, rfl, e26⟩
        · rintro j _ _ _ H7 hj ⟨c5, c6, c7, rfl, e7⟩ ⟨rfl, rfl⟩
          obtain ⟨u1, v1, s1, z1, _, z2, z3, z4⟩ := (hps.up e7).at_ hi
          obtain ⟨u2, v2, s2, y1, _, y2, y3, y4⟩ := (hps.up e7).at_ hj
          obtain ⟨rs3, qr3, hr3, _, hqr3, atr3⟩ := (tb.up e7).at_ hi
          refine ⟨_, rfl, ⟨_, rfl, _, rfl, p, _, _, _, rfl, rfl, z1, z4, _, rfl, _, rfl, p, _, _, _, rfl, rfl, y1, y4, by show 2 ≤ sizeLine; decide, fun q8 n8 => ?_⟩⟩
          have e8 := same_new (o := .tup [v1, v2]) n8
          refine ⟨x, dx, _, rfl, (e7.trans e8) _ _ hx, _, v1, v2, q8, ps, f, spD s1, spD s2, rfl, cd.up (e7.trans e8), nd, sq_new, (z3.up e8).dp, (y3.up e8).dp, fun i' j' t1 t2 et1 et2 hi' hj' => ?_, fun z => (by rw [inC_sp, decide_eq_true (List.mem_of_getElem? z2)] at z; cases z), fun _ z => (by rw [inC_sp, decide_eq_true (List.mem_of_getElem? y2)] at z; cases z)⟩
          obtain rfl := spD_inj et1
          obtain rfl := spD_inj et2
          obtain rfl : i = i' := (List.getElem?_inj (List.getElem?_eq_some_iff.mp z2).1 nd).mp (z2.trans hi'.symm)
          obtain rfl : j = j' := (List.getElem?_inj (List.getElem?_eq_some_iff.mp y2).1 nd).mp (y2.trans hj'.symm)
          refine gn ?_
          refine ⟨_, rfl, _, rfl, .inl ⟨_, rfl, true, rfl, iteF ?_⟩⟩
          refine ⟨_, rfl, _, rfl, _, rfl, r, rs3, _, _, rfl, rfl, upL e8 hr3, atr3, _, rfl, qr3, _, _, _, rfl, rfl, upL e8 hqr3, row_at hj, rfl, _, rfl, iteN (by simp) ?_⟩
          exact ⟨_, _, _, rfl, e7.trans e8⟩
        · rintro _ H7 ⟨c5, c6, c7, rfl, e7⟩
          exact ⟨_, _, _, _, _, rfl, e7⟩
    · rintro _ H2 ⟨c3, c4, c5, c6, c7, rfl, e2⟩
      exact k _ e2
end
end K49

set_option Elab.async false
set_option linter.all false
set_option maxRecDepth 100000
set_option maxHeartbeats 4000000
namespace K49
open PySem PySem.Spec PyProof.Rows L2 Ew
section
variable {P : Program} {w : World} {K : PySem.W.Frag} {mg : Str → Option Value} {base : Heap} {a : Ad}
theorem any_sp (ss : List Spot) (s : Spot) : ((ss.map spD).any fun z => PyData.eqv z (spD s)) = decide (s ∈ ss) := by
  induction ss with
  | nil => simp
  | cons m ls ih =>
    rw [List.map_cons, List.any_cons, ih, eqv_sp]
    by_cases h : m = s <;> by_cases h2 : s ∈ ls <;> simp [h, h2]
    exact fun z => h z.symm
theorem dps {R : V → Spot → Prop} {H : Hp} {ys : List V} {ls : List Spot} (h : Paired R ys ls) (k : ∀ v l, R v l → Dp K H v (spD l)) : DpAll K H ys (ls.map spD) := by
  induction h with
  | nil => exact .nil
  | cons h _ ih => exact .cons (k _ _ h) ih
end
end K49

set_option Elab.async false
set_option linter.all false
set_option maxRecDepth 100000
set_option maxHeartbeats 4000000
namespace K49
open PySem PySem.Spec PyProof.Rows L2 Ew
open SX (S)
def wordL : List (List Nat) := (["days", "base", "unit", "device", "feature", "role", "job", "procedure", "takes", "uses", "read", "by", "let", "be", "tell", "in", "judge", "good", "bad", "choose", "passed", "failed", "open", "repeat", "leave", "call", "stop", "end", "size", "offset", "news", "cert", "stand", "jolt", "edition", "strike", "told", "within", "sum", "product", "quotient", "card", "spot", "row", "ground", "nobody"] : List String).map fun x => x.toList.map Char.toNat
theorem e32 : (" " : Str) = S [32] := by decide +kernel
theorem e0 : ("" : Str) = S [] := by decide +kernel
/-- a row of texts -/
def tsL (ns : List (List Nat)) : List V := ns.map fun l => V.str (S l)
theorem inV_ts (n : List Nat) (ns : List (List Nat)) : inV (.str (S n)) (tsL ns) = decide (n ∈ ns) := by
  unfold inV tsL
  rw [List.any_map]
  induction ns with
  | nil => rfl
  | cons m r ih =>
    rw [List.any_cons, ih]
    show (S m == S n || _) = _
    rw [SX.S_beq_eq]
    by_cases h : m = n
    · subst h; simp
    · have h' : ¬ n = m := fun z => h z.symm
      simp [h, h']
theorem flat_ts (ns : List (List Nat)) : (tsL ns).all flatV = true := by
  unfold tsL
  rw [List.all_map, List.all_eq_true]
  intro _ _
  rfl
theorem join_flat : ∀ l : List (List Nat), TL.joinL [] l = l.flatten
  | [] => rfl
  | [p] => by simp [TL.joinL]
  | p :: q :: r => by
    show p ++ ([] ++ TL.joinL [] (q :: r)) = _
    rw [join_flat (q :: r)]
    simp
def Lt (n : List Nat) : Prop := ∀ c ∈ n, 97 ≤ c ∧ c ≤ 122
/-! ### names drawn -/
structure Nm (n : List Nat) : Prop where
  lt : Lt n
  ne : n ≠ []
  le : n.length ≤ 12
  nw : n ∉ wordL
def Nams (ns : List (List Nat)) : Prop := ns.Nodup ∧ ∀ n ∈ ns, Nm n
def alt (d : List Nat) (k s : Nat) : List Nat := d.take 2 ++ List.replicate (s + 1) 122 ++ [97 + k] ++ [97]
def nth (d : List Nat) (k : Nat) : Nat → List Nat
  | 0 => d
  | s + 1 => alt d k s
def Al6 (n : List Nat) (k : Nat) : Prop := n.length ≤ 6 ∨ ∃ p, n = p ++ [97 + k] ++ [97]
structure Nm8 (n : List Nat) : Prop where
  lt : Lt n
  ne : n ≠ []
  le : n.length ≤ 8
theorem alt_len (d : List Nat) (k s : Nat) : (alt d k s).length = (d.take 2).length + (s + 3) := by
  unfold alt
  simp
theorem alt_lt {d : List Nat} (h : Lt d) {k : Nat} (hk : k < 26) (s : Nat) : Lt (alt d k s) := by
  unfold alt
  intro c hc
  simp only [List.mem_append, List.mem_singleton, List.mem_replicate] at hc
  rcases hc with ((hc | hc) | hc) | hc
  · exact h c (List.mem_of_mem_take hc)
  · omega
  · omega
  · omega
theorem alt_nw (d : List Nat) (k s : Nat) : alt d k s ∉ wordL := by
  have key : ∀ x ∈ wordL, x.getLast? ≠ some 97 := by decide +kernel
  intro h
  refine key _ h ?_
  unfold alt
  rw [List.getLast?_append]
  rfl
theorem nth_nm {d : List Nat} (h : Lt d) (h0 : d ≠ []) (h6 : d.length ≤ 6) {k : Nat} (hk : k < 26) {i : Nat} (hi : i ≤ 4) : Nm8 (nth d k i) ∧ Al6 (nth d k i) k := by
  cases i with
  | zero => exact ⟨⟨h, h0, by show d.length ≤ 8; omega⟩, .inl h6⟩
  | succ s =>
    have hl := alt_len d k s
    have : (d.take 2).length ≤ 2 := by rw [List.length_take]; omega
    refine ⟨⟨alt_lt h hk s, ?_, by show (alt d k s).length ≤ 8; omega⟩, .inr ⟨_, rfl⟩⟩
    intro z
    have z : alt d k s = [] := z
    rw [z] at hl
    simp at hl
/-- the fifth name is new -/
theorem fifth {d : List Nat} (h0 : d ≠ []) {k : Nat} {ns : List (List Nat)} (hn : ∀ (i : Nat) n, ns[i]? = some n → Al6 n i) (hk : ns.length = k) : nth d k 4 ∉ wordL ++ ns := by
  intro h
  rcases List.mem_append.mp h with h | h
  · exact alt_nw d k 3 h
  · obtain ⟨i, hi⟩ := List.getElem?_of_mem h
    have lt : i < ns.length := (List.getElem?_eq_some_iff.mp hi).1
    rcases hn i _ hi with q | ⟨p, q⟩
    · have q : (alt d k 3).length ≤ 6 := q
      rw [alt_len] at q
      have : 0 < d.length := List.length_pos_iff.mpr h0
      rw [List.length_take] at q
      omega
    · have q : alt d k 3 = p ++ [97 + i] ++ [97] := q
      unfold alt at q
      have q2 := List.append_inj' q rfl
      have q3 := List.append_inj' q2.1 rfl
      have := q3.2
      simp at this
      omega
theorem letter_at : ∀ n : Fin 26, atI ("abcdefghijklmnopqrstuvwxyz" : Str).cps.toList ((n.val : Nat) : Int) = some (97 + n.val) := by decide +kernel
theorem letter_i {i : Int} (h0 : 0 ≤ i) (h1 : i < 26) : atI ("abcdefghijklmnopqrstuvwxyz" : Str).cps.toList i = some (97 + i.toNat) := by
  have := letter_at ⟨i.toNat, by omega⟩
  have e : ((i.toNat : Nat) : Int) = i := by omega
  dsimp only at this
  rw [e] at this
  exact this
theorem cut_from (xs : List V) {i : Nat} (h : i ≤ xs.length) : cutV xs (some (i : Int)) none = xs.drop i := by
  have e1 : HT.sIx xs.length 0 (some (i : Int)) = i := by rw [HT.sIx_nat]; omega
  have e2 : HT.sIx xs.length xs.length none = xs.length := rfl
  unfold cutV
  rw [e1, e2]
  exact List.take_of_length_le (by rw [List.length_drop]; omega)
def wl : List Nat := TL.joinL [32] wordL
theorem words_txt : (("days base unit device feature role job procedure takes uses read by let be tell in judge good bad choose " : Str) ++ "passed failed open repeat leave call stop end size offset news cert stand jolt edition strike told ") ++ "within sum product quotient card spot row ground nobody" = S wl := by decide +kernel
theorem words_split : Txt.split (S wl) (S [32]) = wordL.map S := by
  rw [SX.split_S (by simp) (by simp)]
  unfold wl
  rw [SX.spl_join (by decide) (by decide +kernel)]
section
variable {P : Program} {w : World} {K : PySem.W.Frag} {mg : Str → Option Value} {base : Heap} {a : Ad}
def sp__law_words : Sp := fun vs H Q _ => vs = [] ∧ ∀ p, H p = none → Q (.ref p) (upd H p (.lst (tsL wordL)))
theorem c__law_words (T : Txt K mg a) : Cl P w K mg base 1 "_law_words" P__law_words sp__law_words [] :=
  T.d__law_words.cl sc__law_words (fun vs H Q E h => by obtain ⟨rfl, _⟩ := h; rfl) fun f cdv A outer s H vs Q E hr h => by
    obtain ⟨rfl, k⟩ := h
    refine ⟨_, ((pss_cons (ps_set (i := 0) sc__law_words.nd rfl (Or.inl rfl) pe_str)
 (pss_cons (ps_set (i := 0) sc__law_words.nd rfl (Or.inl rfl) (pe_op op_add_str (pv 0) pe_str))
 (pss_one (ps_ret (pe_m1 PySem.F.slot_str_split PySem.F.type_str_split mt_split (pe_op op_add_str (pv 0) pe_str) pe_str)))))), ?_⟩
    refine ⟨_, rfl, _, _, rfl, rfl, by decide +kernel, _, rfl, _, _, rfl, rfl, by decide +kernel, ⟨_, rfl⟩, _, _, rfl, rfl, by decide +kernel, by decide +kernel, fun p hp => ?_⟩
    rw [words_txt, e32, words_split, List.map_map]
    exact k p hp
def sp__law_letters_of (K : PySem.W.Frag) : Sp := fun vs H Q _ => ∃ (F : Hp) (b : Addr) (many : Int), vs = [.ref b, .int many] ∧ Bag K b F H ∧ Same F H ∧ 0 ≤ many ∧ many ≤ 100 ∧
  ∀ F' H' L, Sb b F H F' H' → Bag K b F' H' → L.length = many.toNat → Lt L → Q (.str (S L)) H'
theorem txts_of : ∀ {ys : List V}, (∀ (j : Nat) y, ys[j]? = some y → ∃ c : Nat, y = V.str (S [c]) ∧ 97 ≤ c ∧ c ≤ 122) → ∃ L : List Nat, ys = (L.map fun c => S [c]).map V.str ∧ Lt L
  | [], _ => ⟨[], rfl, fun c h => by cases h⟩
  | y :: ys, h => by
    obtain ⟨c, rfl, h1⟩ := h 0 y rfl
    obtain ⟨L, rfl, h2⟩ := txts_of fun j z hz => h (j + 1) z hz
    exact ⟨c :: L, rfl, fun x hx => by rcases List.mem_cons.mp hx with rfl | hx; exact h1; exact h2 x hx⟩
theorem join_ones (L : List Nat) : Txt.join "" (L.map fun c => S [c]) = S L := by
  have : (L.map fun c => S [c]) = (L.map fun c => [c]).map S := by rw [List.map_map]; rfl
  rw [this, e0, SX.join_S, join_flat]
  congr 1
  induction L with
  | nil => rfl
  | cons c r ih => simp [ih]
theorem c__law_letters_of (T : Txt K mg a) : Cl P w K mg base 2 "_law_letters_of" P__law_letters_of (sp__law_letters_of K) [] :=
  T.d__law_letters_of.cl sc__law_letters_of (fun vs H Q E h => by obtain ⟨F, b, m, rfl, _⟩ := h; rfl) fun f cdv A outer s H vs Q E hr h => by
    obtain ⟨F, b, many, rfl, hB, hf, m0, m1, k⟩ := h
    refine ⟨_, ((pss_one (ps_ret (pe_m1 PySem.F.slot_str_join PySem.F.type_str_join mt_join pe_str (pe_lc (own := [("_law_k", 2)]) (g := (gName 2)) (by rfl) sc__law_letters_of.nd (pi_range1 (by rfl) T.n_range (pa_cons (pv 1) pa_nil)) (blkOk_by (own := [("_law_k", 2)]) (N := N__law_letters_of) (sc := defScope s__law_letters_of) (by decide +kernel)) (fun _ _ _ _ _ => (pg_name (i := 2) sc__law_letters_of.nd rfl (Or.inl rfl) (hf := .inr rfl))) (fun _ _ _ _ _ => pts_nil) (fun _ _ _ _ _ => (pe_ix (r := rIxS) ix_str pe_str (pe_f (c__law_pick T) takes0 hr (by decide) rfl (pa_cons (pv 0) (pa_cons pe_int pa_nil))) (fun _ _ => rfl)))))))), ?_⟩
    refine ⟨⟨_, rfl⟩, _, rfl, _, rfl, by omega, by omega, fun D hD => ?_⟩
    refine lcM (memB K b) walk_range hf hB hD (fun i _ y => ∃ c : Nat, y = V.str (S [c]) ∧ 97 ≤ c ∧ c ≤ 122) (fun _ _ _ _ _ z => z) (by omega) (fun F' H' e1 e2 => trivial) ?_ ?_
    · rintro j y F2 H2 H'' Kt Kn hi s2 B2 ⟨rfl, rfl⟩ kk
      refine ⟨rfl, lc_yes ⟨_, rfl, F2, b, _, rfl, B2, s2.fh, by decide, sz_of 5 (by decide) (by decide), fun H3 t s3 B3 t0 t1 => ?_⟩⟩
      exact ⟨_, _, _, rfl, rfl, by decide +kernel, letter_i t0 t1, kk _ _ _ s3 B3 ⟨97 + t.toNat, rfl, by omega, by omega⟩⟩
    · intro F2 H2 ys s2 B2 hD' hy hr'
      obtain ⟨L, rfl, hL⟩ := txts_of hr'
      rw [List.length_map, List.length_map] at hy
      refine ⟨_, D, (L.map fun c => S [c]), rfl, rfl, .inl (SqL.of (s2.fh D _ hD')), ?_, ?_⟩
      · have : ((L.map fun c => S [c]).map (·.length)).sum ≤ L.length := by
          clear hD' hr' hy hL
          induction L with
          | nil => simp
          | cons c r ih => rw [List.map_cons, List.map_cons, List.sum_cons, List.length_cons]; show 1 + _ ≤ _; omega
        rw [List.length_map]
        show _ + _ * 0 ≤ _
        omega
      · rw [join_ones]
        exact k F2 H2 L s2 B2 hy hL
end
end K49

set_option Elab.async false
set_option linter.all false
set_option maxRecDepth 100000
set_option maxHeartbeats 4000000
namespace K49
open PySem PySem.Spec PyProof.Rows L2 Ew
open SX (S)
section
variable {P : Program} {w : World} {K : PySem.W.Frag} {mg : Str → Option Value} {base : Heap} {a : Ad}
/-- names so far -/
structure Sof (ns : List (List Nat)) : Prop where
  nd : ns.Nodup
  nm : ∀ n ∈ ns, Nm8 n ∧ n ∉ wordL
  al : ∀ (i : Nat) n, ns[i]? = some n → Al6 n i
theorem Sof.snoc {ns : List (List Nat)} (h : Sof ns) {n : List Nat} (h1 : Nm8 n) (h2 : Al6 n ns.length) (h3 : n ∉ wordL ++ ns) : Sof (ns ++ [n]) := by
  rw [List.mem_append, not_or] at h3
  refine ⟨?_, fun m hm => ?_, fun i m hm => ?_⟩
  · rw [List.nodup_append]
    refine ⟨h.nd, by simp, fun x hx y hy => ?_⟩
    rw [List.mem_singleton] at hy
    subst hy
    exact fun z => h3.2 (z ▸ hx)
  · rcases List.mem_append.mp hm with hm | hm
    · exact h.nm m hm
    · rw [List.mem_singleton] at hm
      subst hm
      exact ⟨h1, h3.1⟩
  · rcases Nat.lt_or_ge i ns.length with hi | hi
    · rw [List.getElem?_append_left hi] at hm
      exact h.al i m hm
    · rw [List.getElem?_append_right hi] at hm
      have e : i - ns.length = 0 := by
        rcases Nat.eq_zero_or_pos (i - ns.length) with h0 | h0
        · exact h0
        · rw [List.getElem?_eq_none (by simp; omega)] at hm; cases hm
      rw [e] at hm
      cases hm
      rw [show i = ns.length by omega]
      exact h2
theorem Sof.nams {ns : List (List Nat)} (h : Sof ns) : Nams ns := ⟨h.nd, fun n hn => by
  obtain ⟨h1, h2⟩ := h.nm n hn
  exact ⟨h1.lt, h1.ne, Nat.le_trans h1.le (by decide), h2⟩⟩
def sp__law_names_of (K : PySem.W.Frag) : Sp := fun vs H Q _ => ∃ (F : Hp) (b : Addr) (many : Int), vs = [.ref b, .int many] ∧ Bag K b F H ∧ Same F H ∧ 0 ≤ many ∧ many ≤ 20 ∧
  ∀ F' H' p ns, Sb b F H F' H' → Bag K b F' H' → F' p = some (.lst (tsL ns)) → ns.length = many.toNat → Nams ns → Q (.ref p) H'
theorem tsL_app (a b : List (List Nat)) : tsL (a ++ b) = tsL a ++ tsL b := by unfold tsL; rw [List.map_append]
theorem tsL_len (a : List (List Nat)) : (tsL a).length = a.length := by simp [tsL]
theorem ez : ("z" : Str) = S [122] := by decide +kernel
theorem wordL_len : wordL.length = 46 := by decide +kernel
theorem c__law_names_of (T : Txt K mg a) : Cl P w K mg base 3 "_law_names_of" P__law_names_of (sp__law_names_of K) [] :=
  T.d__law_names_of.cl sc__law_names_of (fun vs H Q E h => by obtain ⟨F, b, m, rfl, _⟩ := h; rfl) fun f cdv A outer s H vs Q E hr h => by
    obtain ⟨F, b, many, rfl, hB, hf, m0, m1, k⟩ := h
    refine ⟨_, ((pss_cons (ps_set (i := 2) sc__law_names_of.nd rfl (Or.inl rfl) (pe_f0 (c__law_words T) hr (by decide) rfl))
 (pss_cons (ps_set (i := 3) sc__law_names_of.nd rfl (Or.inl rfl) pe_str)
 (pss_cons (ps_for (passes_of rfl) rfl (pi_range1 (by rfl) T.n_range (pa_cons (pv 1) pa_nil)) (pg_name (i := 4) sc__law_names_of.nd rfl (Or.inl rfl))
 (pss_cons (ps_set (i := 5) sc__law_names_of.nd rfl (Or.inl rfl) (pe_f (c__law_letters_of T) (takes_of rfl rfl rfl rfl) hr (by decide) rfl (pa_cons (pv 0) (pa_cons (pe_op op_add pe_int (pe_f (c__law_pick T) (takes_of rfl rfl rfl rfl) hr (by decide) rfl (pa_cons (pv 0) (pa_cons pe_int pa_nil)))) pa_nil))))
 (pss_cons (ps_set (i := 6) sc__law_names_of.nd rfl (Or.inl rfl) (pv 5))
 (pss_cons (ps_for (passes_of rfl) rfl (pi_range1 (by rfl) T.n_range (pa_cons pe_int pa_nil)) (pg_name (i := 7) sc__law_names_of.nd rfl (Or.inl rfl))
 (pss_cons (ps_if (pt_cmpR op_notIn_seq (pv 6) (pv 2) (by rfl))
 (pss_one ps_break)
 pss_nil)
 (pss_one (ps_set (i := 6) sc__law_names_of.nd rfl (Or.inl rfl) (pe_op op_add_str (pe_op op_add_str (pe_op op_add_str (pe_slice C8.sl_txt (pv 5) po_none (po_some pe_int)) (pe_op op_repS pe_str (pe_op op_add (pv 7) pe_int))) (pe_ix ix_str (pv 3) (pe_op op_mod (pe_callTy call_int1 (by rfl) T.n_int (by decide +kernel) (pa_cons (pv 4) pa_nil)) pe_int) (fun _ _ => rfl))) (pe_ix ix_str (pv 3) (pe_op op_mod (pe_callTy call_int1 (by rfl) T.n_int (by decide +kernel) (pa_cons (pe_op op_fdiv (pv 4) pe_int) pa_nil)) pe_int) (fun _ _ => rfl)))))))
 (pss_one (ps_expr (pe_bm PySem.F.plainAttrs_list PySem.F.slot_list_append PySem.F.type_list_append mt_append (pv 2) (pa_cons (pv 6) pa_nil))))))))
 (pss_one (ps_ret (pe_slice sl_list (pv 2) (po_some (pe_callB call_len_seq (by rfl) T.n_len (by decide +kernel) (pa_cons (pe_f0 (c__law_words T) hr (by decide) rfl) pa_nil))) po_none))))))), ?_⟩
    refine ⟨rfl, fun L hL => ?_⟩
    have nLb : ¬ L = b := fun z => (memB K b).there hB z hL
    have s0 : Sb b F H F (upd H L (.lst (tsL wordL))) := (Stm.refl hf).raw hL hL
    have B0 : Bag K b F (upd H L (.lst (tsL wordL))) := (memB K b).put hB nLb
    have fL : F L = none := hf.free hL
    refine ⟨_, rfl, many, rfl, by omega, by omega, ?_⟩
    refine for_range (lo := 0) (n := many.toNat) (fun i σ' H' => ∃ F' ns c4 c5 c6 c7, σ' = [some (.ref b), some (.int many), some (.ref L), some (.str "abcdefghijklmnopqrstuvwxyz"), c4, c5, c6, c7] ∧ Sb b F H F' H' ∧ Bag K b F' H' ∧ F' L = none ∧ H' L = some (.lst (tsL (wordL ++ ns))) ∧ ns.length = i ∧ Sof ns) ?_ ?_ ?_
    · exact ⟨F, [], none, none, none, none, rfl, s0, B0, fL, by rw [upd_same, List.append_nil], rfl, ⟨by simp, fun n h => by (cases h), fun i n h => by simp at h⟩⟩
    · rintro i _ H1 hi ⟨F1, ns, c4, c5, c6, c7, rfl, s1, B1, f1, h1, hn, sof⟩
      refine ⟨_, rfl, _, rfl, F1, b, _, rfl, B1, s1.fh, by decide, sz_of 3 (by decide) (by decide), fun H2 x s2 B2 x0 x1 => ?_⟩
      refine ⟨_, _, rfl, rfl, F1, b, _, rfl, B2, s2.fh, by omega, by omega, fun F3 H3 d s3 B3 hd hlt => ?_⟩
      have h2 : H2 L = some (.lst (tsL (wordL ++ ns))) := s2.hh L _ nLb h1
      have h3 : H3 L = some (.lst (tsL (wordL ++ ns))) := s3.hh L _ nLb h2
      have f3 : F3 L = none := s3.nw L f1 (by rw [h2]; exact fun z => nomatch z)
      have s3 := seqB s1 B1 (seqB s2 B2 s3)
      have d6 : d.length ≤ 6 := by omega
      have d0 : d ≠ [] := fun z => by rw [z] at hd; simp at hd; omega
      refine ⟨_, rfl, ?_⟩
      refine seq_with (fun σ' H' => ([some (V.ref b), some (.int many), some (.ref L), some (.str "abcdefghijklmnopqrstuvwxyz"), some (.int (0 + (i : Int))), some (.str (S d)), some (.str (S d)), c7] : List (Option V)) = σ' ∧ H3 = H') (fun u hu => hu _ _ ⟨rfl, rfl⟩) ?_
      rintro _ _ ⟨rfl, rfl⟩
      refine seq_with (fun σ' H' => ∃ n c7, ([some (V.ref b), some (.int many), some (.ref L), some (.str "abcdefghijklmnopqrstuvwxyz"), some (.int (0 + (i : Int))), some (.str (S d)), some (.str (S n)), c7] : List (Option V)) = σ' ∧ H3 = H' ∧ n ∉ wordL ++ ns ∧ Nm8 n ∧ Al6 n i) (fun u hu => ?_) ?_
      · refine ⟨9, rfl, by decide, by decide, ?_⟩
        have five : ∀ j, (∀ l, l < j → nth d i l ∈ wordL ++ ns) → j ≤ 4 := fun j hj => by
          rcases Nat.lt_or_ge 4 j with h | h
          · exact absurd (hj 4 h) (fifth d0 sof.al hn)
          · exact h
        refine for_range (lo := 0) (n := 9) (fun j σ' H' => ∃ c7, ([some (V.ref b), some (.int many), some (.ref L), some (.str "abcdefghijklmnopqrstuvwxyz"), some (.int (0 + (i : Int))), some (.str (S d)), some (.str (S (nth d i j))), c7] : List (Option V)) = σ' ∧ H3 = H' ∧ ∀ l, l < j → nth d i l ∈ wordL ++ ns) ?_ ?_ ?_
        · exact ⟨c7, rfl, rfl, fun l hl => absurd hl (Nat.not_lt_zero _)⟩
        · rintro j _ _ hj ⟨c7, rfl, rfl, hl⟩
          refine ⟨_, rfl, _, rfl, L, tsL (wordL ++ ns), rfl, .inl (SqL.of h3), rfl, flat_ts _, _, rfl, ?_⟩
          rw [if_pos rfl, inV_ts]
          have j4 := five j hl
          by_cases hm : nth d i j ∈ wordL ++ ns
          · refine iteN (by rw [decide_eq_true hm]; decide) ?_
            have j3 : j + 1 ≤ 4 := five (j + 1) fun l h => by
              rcases Nat.lt_or_ge l j with q | q
              · exact hl l q
              · rw [show l = j by omega]; exact hm
            have dl : (d.take 2).length ≤ 2 := by rw [List.length_take]; omega
            refine ⟨_, rfl, _, rfl, _, rfl, by rw [SX.S_len, sizeLine_eq]; omega, ?_⟩
            rw [SX.slice_to (by decide), show (2 : Int).toNat = 2 from rfl]
            refine ⟨_, rfl, _, _, rfl, rfl, [122], _, (congrArg V.str ez), rfl, by omega, by omega, by simp, by simp, ?_⟩
            refine ⟨_, _, rfl, rfl, by rw [SX.S_len, SX.S_len, rep_len, sizeLine_eq]; simp; omega, ?_⟩
            refine ⟨_, rfl, _, rfl, .inl ⟨_, rfl, _, _, rfl, rfl, (by decide : (0 : Int) < 26), ?_⟩⟩
            refine ⟨_, _, _, rfl, rfl, by decide +kernel, letter_i (Int.emod_nonneg _ (by decide)) (Int.emod_lt_of_pos _ (by decide)), ?_⟩
            refine ⟨_, _, rfl, rfl, ?_, ?_⟩
            · rw [PySem.Str.length_append, SX.S_len, SX.S_len, rep_len, sizeLine_eq]; show _ + 1 ≤ _; simp; omega
            refine ⟨_, rfl, _, rfl, _, _, rfl, rfl, ⟨by decide, by decide⟩, .inl ⟨_, rfl, _, _, rfl, rfl, (by decide : (0 : Int) < 26), ?_⟩⟩
            refine ⟨_, _, _, rfl, rfl, by decide +kernel, letter_i (Int.emod_nonneg _ (by decide)) (Int.emod_lt_of_pos _ (by decide)), ?_⟩
            refine ⟨_, _, rfl, rfl, ?_, ?_⟩
            · rw [PySem.Str.length_append, PySem.Str.length_append, SX.S_len, SX.S_len, rep_len, sizeLine_eq]; show _ + 1 + 1 ≤ _; simp; omega
            refine ⟨some (.int (0 + (j : Int))), ?_, rfl, fun l h => ?_⟩
            · have e1 : (S (d.take 2) ++ S (rep ((0 + (j : Int)) + 1).toNat [122]) ++ (⟨#[97 + ((0 + (i : Int)) % 26).toNat]⟩ : Str) ++ (⟨#[97 + ((0 + (i : Int)) / 26 % 26).toNat]⟩ : Str)) = S (nth d i (j + 1)) := by
                have x1 : ((0 + (i : Int)) % 26).toNat = i := by omega
                have x2 : ((0 + (i : Int)) / 26 % 26).toNat = 0 := by omega
                have x3 : ((0 + (j : Int)) + 1).toNat = j + 1 := by omega
                rw [x1, x2, x3]
                show S (d.take 2) ++ S (rep (j + 1) [122]) ++ S [97 + i] ++ S [97] = S (alt d i j)
                rw [SX.S_cat, SX.S_cat, SX.S_cat]
                have er : rep (j + 1) [122] = List.replicate (j + 1) 122 := List.flatten_replicate_singleton
                rw [er]
                rfl
              exact congrArg (fun x => ([some (V.ref b), some (.int many), some (.ref L), some (.str "abcdefghijklmnopqrstuvwxyz"), some (.int (0 + (i : Int))), some (.str (S d)), some (.str x), some (.int (0 + (j : Int)))] : List (Option V))) e1.symm
            · rcases Nat.lt_or_ge l j with q | q
              · exact hl l q
              · rw [show l = j by omega]; exact hm
          · refine iteY (by rw [decide_eq_false hm]; rfl) ?_
            obtain ⟨g1, g2⟩ := nth_nm hlt d0 d6 (k := i) (by omega) j4
            exact hu _ _ ⟨_, _, rfl, rfl, hm, g1, g2⟩
        · rintro _ _ ⟨c7, rfl, rfl, hl⟩
          exact absurd (five 9 hl) (by decide)
      rintro _ _ ⟨n, c7', rfl, rfl, hm, g1, g2⟩
      refine ⟨_, rfl, .inl ⟨rfl, _, SqL.of h3⟩, _, rfl, L, _, _, rfl, rfl, h3, ?_, ?_⟩
      · rw [tsL_len, List.length_append, sizeLine_eq, wordL_len]; omega
      · refine ⟨F3, ns ++ [n], _, _, _, _, rfl, s3.mut f3 hL, (memB K b).put B3 nLb, f3, ?_, by simp [hn], sof.snoc g1 (by rw [hn]; exact g2) hm⟩
        rw [upd_same, ← List.append_assoc, tsL_app (wordL ++ ns)]
        rfl
    · rintro _ H1 ⟨F1, ns, c4, c5, c6, c7, rfl, s1, B1, f1, h1, hn, sof⟩
      refine ⟨_, rfl, rfl, fun p hp => ?_⟩
      obtain ⟨s2, B2⟩ := newB (o := .lst (tsL wordL)) s1 B1 hp
      have nLp : L ≠ p := fun z => by rw [z, hp] at h1; cases h1
      refine ⟨p, _, rfl, .inl (SqL.of upd_same), _, rfl, L, _, rfl, SqL.of (by rw [upd_ne nLp]; exact h1), fun q hq => ?_⟩
      obtain ⟨s3, B3⟩ := newB (o := .lst (tsL ns)) s2 B2 hq
      have ec : cutV (tsL (wordL ++ ns)) (some ((tsL wordL).length : Int)) none = tsL ns := by
        rw [cut_from _ (by rw [tsL_len, tsL_len, List.length_append]; omega), tsL_app, List.drop_left]
      rw [ec]
      exact k _ _ q ns s3 B3 upd_same hn sof.nams
end
end K49

set_option Elab.async false
set_option linter.all false
set_option maxRecDepth 100000
set_option maxHeartbeats 4000000
namespace K49
open PySem PySem.Spec PyProof.Rows L2 Ew
section
variable {K : PySem.W.Frag} {b p : Addr} {F H F' H' : Hp} {o : HO}
theorem rawB (s : Sb b F H F' H') (B : Bag K b F' H') (hp : H' p = none) : Sb b F H F' (upd H' p o) ∧ Bag K b F' (upd H' p o) := by
  have nb : ¬ p = b := fun z => (memB K b).there B z hp
  exact ⟨s.raw hp (s.fresh (fun x z => (memB K b).there B z) hp), (memB K b).put B nb⟩
theorem mutB (s : Sb b F H F' H') (B : Bag K b F' H') (hf : F' p = none) (h0 : H p = none) (nb : p ≠ b) : Sb b F H F' (upd H' p o) ∧ Bag K b F' (upd H' p o) := ⟨s.mut hf h0, (memB K b).put B nb⟩
theorem freezeB (s : Sb b F H F' H') (B : Bag K b F' H') (hf : F' p = none) (h0 : H p = none) (nb : p ≠ b) (e : H' p = some o) : Sb b F H (upd F' p o) H' ∧ Bag K b (upd F' p o) H' := by
  refine ⟨s.freeze hf h0 e, (memB K b).grow B (same_new hf) fun x z => ?_⟩
  rw [upd_ne (fun q => nb (by rw [← q]; exact z))]
  exact (memB K b).off B z
end
section
variable {P : Program} {w : World} {K : PySem.W.Frag} {mg : Str → Option Value} {base : Heap} {a : Ad}
def sp__law_one_in (K : PySem.W.Frag) : Sp := fun vs H Q _ => ∃ (F : Hp) (b : Addr) (many : Int), vs = [.ref b, .int many] ∧ Bag K b F H ∧ Same F H ∧ 0 < many ∧ Sz 8000 many ∧
  ∀ H' (c : Bool), Sb b F H F H' → Bag K b F H' → Q (.bl c) H'
theorem c__law_one_in (T : Txt K mg a) : Cl P w K mg base 2 "_law_one_in" P__law_one_in (sp__law_one_in K) [] :=
  T.d__law_one_in.cl sc__law_one_in (fun vs H Q E h => by obtain ⟨F, b, u, rfl, _⟩ := h; rfl) fun f cdv A outer s H vs Q E hr h => by
    obtain ⟨F, b, many, rfl, hB, hf, h0, hz, k⟩ := h
    refine ⟨_, ((pss_one (ps_ret (pe_cmpR op_eq (pe_f (c__law_pick T) (takes_of rfl rfl rfl rfl) hr (by decide) rfl (pa_cons (pv 0) (pa_cons (pv 1) pa_nil))) pe_int (nomark _))))), ?_⟩
    exact ⟨_, rfl, _, rfl, F, b, _, rfl, hB, hf, h0, hz, fun H' i s1 B1 h1 h2 => ⟨rfl, k H' _ s1 B1⟩⟩

end
theorem int_item {ns : List Int} {i : Nat} {x : V} (h : (ns.map V.int)[i]? = some x) : ∃ d, ns[i]? = some d ∧ x = V.int d := by
  rw [List.getElem?_map, Option.map_eq_some_iff] at h
  obtain ⟨d, h1, h2⟩ := h
  exact ⟨d, h1, h2.symm⟩
section
variable {P : Program} {w : World} {K : PySem.W.Frag} {mg : Str → Option Value} {base : Heap} {a : Ad}
def sp__law_bag_of (K : PySem.W.Frag) : Sp := fun vs H Q _ => ∃ (F : Hp) (p : Addr) (ns : List Int), vs = [.ref p] ∧ SqL K F p (ns.map V.int) ∧ ns.length ≤ 1000 ∧ Same F H ∧ ∀ F' H' b, Stp F H F' H' → Bag K b F' H' → Q (.ref b) H'
theorem c__law_bag_of (T : Txt K mg a) : Cl P w K mg base 1 "_law_bag_of" P__law_bag_of (sp__law_bag_of K) [] :=
  T.d__law_bag_of.cl sc__law_bag_of (fun vs H Q E h => by obtain ⟨F, p, ns, rfl, _⟩ := h; rfl) fun f cdv A outer s H vs Q E hr h => by
    obtain ⟨F, p, ns, rfl, hp, hn, hf, k⟩ := h
    refine ⟨_, ((pss_cons (ps_set (i := 1) sc__law_bag_of.nd rfl (Or.inl rfl) pe_int)
 (pss_cons (ps_for (passes_of rfl) rfl (pi_list (pv 0)) (pg_name (i := 2) sc__law_bag_of.nd rfl (Or.inl rfl))
 (pss_one (ps_set (i := 1) sc__law_bag_of.nd rfl (Or.inl rfl) (pe_op op_mod (pe_callTy call_int1 (by rfl) T.n_int (by decide +kernel) (pa_cons (pe_op op_add (pe_op op_add (pe_op op_mul (pv 1) pe_int) (pv 2)) pe_int) pa_nil)) pe_int))))
 (pss_one (ps_ret (pe_disp (pps_cons pe_str (pe_lc (own := [("_law_cell", 2)]) (g := (gName 2)) (by rfl) sc__law_bag_of.nd (pi_list (pv 0)) (blkOk_by (own := [("_law_cell", 2)]) (N := N__law_bag_of) (sc := defScope s__law_bag_of) (by decide +kernel)) (fun _ _ _ _ _ => (pg_name (i := 2) sc__law_bag_of.nd rfl (Or.inl rfl) (hf := .inr rfl))) (fun _ _ _ _ _ => pts_nil) (fun _ _ _ _ _ => (pv 2))) (pps_cons pe_str pe_int (pps_cons pe_str pe_int (pps_cons pe_str (pv 1) (pps_cons pe_str pe_int pps_nil))))) (by rfl) (by rfl) (fun z => by cases z) (by decide))))))), ?_⟩
    refine ⟨_, rfl, p, rfl, ⟨_, upL hf hp⟩, ?_⟩
    refine for_list (fun i σ' H' => H = H' ∧ ∃ (m : Int) (c : Option V), σ' = [some (.ref p), some (.int m), c]) ⟨rfl, 7, none, rfl⟩ (fun i σ' H' _ q => by rw [← q.1]; exact upL hf hp) ?_ ?_
    · rintro i x _ _ hx ⟨rfl, m, c, rfl⟩
      obtain ⟨d, hd, rfl⟩ := int_item hx
      refine ⟨_, rfl, _, _, rfl, rfl, .inr ⟨by decide, by decide⟩, _, rfl, _, _, rfl, rfl, _, _, rfl, rfl, .inl ⟨_, rfl, _, _, rfl, rfl, (by decide : (0 : Int) < 1000003), ?_⟩⟩
      exact ⟨rfl, _, _, rfl⟩
    · rintro _ _ ⟨rfl, m, c, rfl⟩
      intro b hb
      have s0 : Stp F H F (upd H b (.dK [])) := (Stm.refl hf).raw hb hb
      refine ⟨_, rfl, p, rfl, ⟨_, upL s0.fh hp⟩, fun D hD => ?_⟩
      refine lcM memP walk_list s0.fh trivial hD (fun i _ y => ∃ d, ns[i]? = some d ∧ y = V.int d) (fun _ _ _ _ _ z => z) (by rw [List.length_map]; omega) (fun F' H' e1 e2 => upL e2 (upL e1 hp)) ?_ ?_
      · rintro i x F' H1 H'' Kt Kn hi s1 _ ⟨rfl, hx⟩ kk
        obtain ⟨d, hd, rfl⟩ := int_item hx
        exact ⟨rfl, lc_yes ⟨_, rfl, kk _ _ _ (.refl s1.fh) trivial ⟨d, hd, rfl⟩⟩⟩
      · intro F' H1 ys s1 _ hD' hy hr'
        rw [List.length_map] at hy
        obtain rfl := map_of hy hr'
        have fb : F' b = none := s1.nw b (hf.free hb) (by rw [upd_same]; exact fun z => nomatch z)
        refine ⟨_, rfl, s1.same b _ upd_same, bk D 0 0 m 0, rfl, (by show 5 ≤ 15; decide), ?_⟩
        refine k F' _ b ((s0.transP s1).mut fb hb) ⟨fb, D, ns, 0, 0, m, 0, by decide, hn, SqL.of hD', ?_⟩
        rw [upd_same]
        rfl
end
end K49

set_option Elab.async false
set_option linter.all false
set_option maxRecDepth 100000
set_option maxHeartbeats 4000000
namespace K49
open PySem PySem.Spec PyProof.Rows L2 Ew
open SX (S)
theorem strOk_S {L : List Nat} (h : ∀ c ∈ L, c < 1114112) : PyData.strOk (S L) = true := by
  unfold PyData.strOk
  show L.toArray.all _ = true
  rw [List.all_toArray, List.all_eq_true]
  intro c hc
  exact decide_eq_true (h c hc)
theorem S_inj {m n : List Nat} (h : S m = S n) : m = n := by
  have e := SX.S_beq_eq (a := m) (b := n)
  rw [h, beq_self_eq_true] at e
  exact of_decide_eq_true e.symm
def gL : List Nat := [103, 114, 111, 117, 110, 100]
theorem g_S : ground.1 = S gL := by decide +kernel
/-- a text, another one than the spare name -/
def Oth3 (n3 : List Nat) (z : Str) : Prop := ∃ L, z = S L ∧ (∀ c ∈ L, c < 1114112) ∧ L ≠ n3
theorem Oth3.ok {n3 : List Nat} {z : Str} (h : Oth3 n3 z) : PyData.strOk z = true := by
  obtain ⟨L, rfl, h1, _⟩ := h
  exact strOk_S h1
theorem oth_of {n3 : List Nat} (h : Nm n3) {z : Str} (L : List Nat) (e : z = S L) (k1 : L.all (fun c => decide (c < 1114112)) = true) (k2 : L = [] ∨ L ∈ wordL ∨ L.any (fun c => decide (c < 97)) = true) : Oth3 n3 z := by
  refine ⟨L, e, fun c hc => of_decide_eq_true (List.all_eq_true.mp k1 c hc), ?_⟩
  rintro rfl
  rcases k2 with k | k | k
  · exact h.ne k
  · exact h.nw k
  · obtain ⟨c, hc, k⟩ := List.any_eq_true.mp k
    have := (h.lt c hc).1
    have := of_decide_eq_true k
    omega
def oddN : List V := [.str "", .str "Ground", .str "ground", .str "a b", .str "x1", .str "size"]
theorem oddN_oth {n3 : List Nat} (h : Nm n3) {x : V} {i : Nat} (hx : oddN[i]? = some x) : ∃ z, x = .str z ∧ Oth3 n3 z := by
  have hm := List.mem_of_getElem? hx
  unfold oddN at hm
  simp only [List.mem_cons, List.not_mem_nil, or_false] at hm
  rcases hm with rfl | rfl | rfl | rfl | rfl | rfl
  · exact ⟨_, rfl, oth_of h [] (by decide +kernel) (by decide) (.inl rfl)⟩
  · exact ⟨_, rfl, oth_of h [71, 114, 111, 117, 110, 100] (by decide +kernel) (by decide) (.inr (.inr (by decide)))⟩
  · exact ⟨_, rfl, oth_of h [103, 114, 111, 117, 110, 100] (by decide +kernel) (by decide) (.inr (.inl (by decide +kernel)))⟩
  · exact ⟨_, rfl, oth_of h [97, 32, 98] (by decide +kernel) (by decide) (.inr (.inr (by decide)))⟩
  · exact ⟨_, rfl, oth_of h [120, 49] (by decide +kernel) (by decide) (.inr (.inr (by decide)))⟩
  · exact ⟨_, rfl, oth_of h [115, 105, 122, 101] (by decide +kernel) (by decide) (.inr (.inl (by decide +kernel)))⟩
section
variable {P : Program} {w : World} {K : PySem.W.Frag} {mg : Str → Option Value} {base : Heap} {a : Ad}
def sp__law_ground : Sp := fun vs H Q _ => vs = [] ∧ ∀ p, H p = none → Q (.ref p) (upd H p (.tup (spV ground)))
theorem c__law_ground (T : Txt K mg a) : Cl P w K mg base 1 "_law_ground" P__law_ground sp__law_ground [] :=
  T.d__law_ground.cl sc__law_ground (fun vs H Q E h => by obtain ⟨rfl, _⟩ := h; rfl) fun f cdv A outer s H vs Q E hr h => by
    obtain ⟨rfl, k⟩ := h
    exact ⟨_, ((pss_one (ps_ret (pe_tup (pa_cons pe_str (pa_cons pe_int (pa_cons pe_int pa_nil))))))), by show 3 ≤ sizeLine; decide, fun p hp => k p hp⟩
def sp__law_few_spots (K : PySem.W.Frag) : Sp := fun vs H Q _ => ∃ (F : Hp) (b : Addr) (many : Int), vs = [.ref b, .int many] ∧ Bag K b F H ∧ Same F H ∧ 0 ≤ many ∧ many ≤ 20 ∧
  ∀ F' H' r l t nm ps, Sb b F H F' H' → Bag K b F' H' → SqT K F' r [.ref l, .ref t] → Sps K false F' l ps → OkS ps → ps.length ≤ 21 → SqT K F' t (spV (nm, 0, 0)) → PyData.strOk nm = true → (nm, 0, 0) ∉ ps → (nm, 1, 0) ∉ ps → Q (.ref r) H'
theorem c__law_few_spots (T : Txt K mg a) : Cl P w K mg base 4 "_law_few_spots" P__law_few_spots (sp__law_few_spots K) [] :=
  T.d__law_few_spots.cl sc__law_few_spots (fun vs H Q E h => by obtain ⟨F, b, m, rfl, _⟩ := h; rfl) fun f cdv A outer s H vs Q E hr h => by
    obtain ⟨F, b, many, rfl, hB, hf, m0, m1, k⟩ := h
    refine ⟨_, ((pss_cons (ps_set (i := 2) sc__law_few_spots.nd rfl (Or.inl rfl) (pe_f (c__law_names_of T) (takes_of rfl rfl rfl rfl) hr (by decide) rfl (pa_cons (pv 0) (pa_cons pe_int pa_nil))))
 (pss_cons (ps_set (i := 3) sc__law_few_spots.nd rfl (Or.inl rfl) (pe_lst (pa_cons pe_str (pa_cons pe_str (pa_cons pe_str (pa_cons pe_str (pa_cons pe_str (pa_cons pe_str pa_nil))))))))
 (pss_cons (ps_set (i := 4) sc__law_few_spots.nd rfl (Or.inl rfl) (pe_lst (pa_cons (pe_f0 (c__law_ground T) hr (by decide) rfl) pa_nil)))
 (pss_cons (ps_for (passes_of rfl) rfl (pi_range1 (by rfl) T.n_range (pa_cons (pv 1) pa_nil)) (pg_name (i := 5) sc__law_few_spots.nd rfl (Or.inl rfl))
 (pss_cons (ps_set (i := 6) sc__law_few_spots.nd rfl (Or.inl rfl) (pe_ix ix_list (pv 2) (pe_f (c__law_pick T) (takes_of rfl rfl rfl rfl) hr (by decide) rfl (pa_cons (pv 0) (pa_cons pe_int pa_nil))) (fun _ _ => rfl)))
 (pss_cons (ps_if (pt_val (pe_f (c__law_one_in T) (takes_of rfl rfl rfl rfl) hr (by decide) rfl (pa_cons (pv 0) (pa_cons pe_int pa_nil))))
 (pss_one (ps_set (i := 6) sc__law_few_spots.nd rfl (Or.inl rfl) (pe_f (c__law_choice T) (takes_of rfl rfl rfl rfl) hr (by decide) rfl (pa_cons (pv 0) (pa_cons (pv 3) pa_nil)))))
 pss_nil)
 (pss_cons (ps_set (i := 7) sc__law_few_spots.nd rfl (Or.inl rfl) (pe_tup (pa_cons (pv 6) (pa_cons (pe_op op_sub (pe_f (c__law_pick T) (takes_of rfl rfl rfl rfl) hr (by decide) rfl (pa_cons (pv 0) (pa_cons pe_int pa_nil))) pe_int) (pa_cons (pe_op op_sub (pe_f (c__law_pick T) (takes_of rfl rfl rfl rfl) hr (by decide) rfl (pa_cons (pv 0) (pa_cons pe_int pa_nil))) pe_int) pa_nil)))))
 (pss_cons (ps_if (pt_val (pe_f (c__law_one_in T) (takes_of rfl rfl rfl rfl) hr (by decide) rfl (pa_cons (pv 0) (pa_cons pe_int pa_nil))))
 (pss_one (ps_set (i := 7) sc__law_few_spots.nd rfl (Or.inl rfl) (pe_tup (pa_cons (pv 6) (pa_cons (pe_op op_pow pe_int pe_int) (pa_cons (pe_op op_sub (pe_f (c__law_pick T) (takes_of rfl rfl rfl rfl) hr (by decide) rfl (pa_cons (pv 0) (pa_cons pe_int pa_nil))) (pe_op op_pow pe_int pe_int)) pa_nil))))))
 pss_nil)
 (pss_one (ps_if (pt_cmpR (op_notInD (units5 hr)) (pv 7) (pv 4) (by rfl))
 (pss_one (ps_expr (pe_bm PySem.F.plainAttrs_list PySem.F.slot_list_append PySem.F.type_list_append mt_append (pv 4) (pa_cons (pv 7) pa_nil))))
 pss_nil)))))))
 (pss_one (ps_ret (pe_tup (pa_cons (pv 4) (pa_cons (pe_tup (pa_cons (pe_ix ix_list (pv 2) pe_int (fun _ _ => rfl)) (pa_cons pe_int (pa_cons pe_int pa_nil)))) pa_nil)))))))))), ?_⟩
    refine ⟨_, rfl, F, b, 4, rfl, hB, hf, by decide, by decide, fun F1 H1 pn ns s1 B1 hpn nl nams => ?_⟩
    obtain ⟨n0, n1, n2, n3, rfl⟩ : ∃ n0 n1 n2 n3, ns = [n0, n1, n2, n3] := by
      match ns, nl with
      | [n0, n1, n2, n3], _ => exact ⟨n0, n1, n2, n3, rfl⟩
    have nm3 := nams.2 n3 (by simp)
    refine gn ?_
    refine ⟨by show 6 ≤ sizeLine; decide, fun od hod => ?_⟩
    refine gn ?_
    have hpn := same_new (o := .lst oddN) (s1.fh.free hod) _ _ hpn
    obtain ⟨s1, B1⟩ := newB (o := .lst oddN) s1 B1 hod
    have hodF : (upd F1 od (.lst oddN)) od = some (.lst oddN) := upd_same
    have eo : ([V.str "", V.str "Ground", V.str "ground", V.str "a b", V.str "x1", V.str "size"] : List V) = oddN := rfl
    rw [eo]
    generalize upd F1 od (.lst oddN) = F1 at s1 B1 hpn hodF
    generalize upd H1 od (.lst oddN) = H1 at s1 B1 ⊢
    refine ⟨rfl, fun t ht => ⟨by show 1 ≤ sizeLine; decide, fun l hl => ?_⟩⟩
    obtain ⟨s2, B2⟩ := newB (o := .tup (spV ground)) s1 B1 ht
    have sg : Spt K (upd F1 t (.tup (spV ground))) (.ref t) ground := ⟨t, rfl, SqT.of upd_same⟩
    have gt := same_new (o := .tup (spV ground)) (s1.fh.free ht)
    have hpn2 : (upd F1 t (.tup (spV ground))) pn = some (.lst (tsL [n0, n1, n2, n3])) := gt _ _ hpn
    have hod2 : (upd F1 t (.tup (spV ground))) od = some (.lst oddN) := gt _ _ hodF
    have nlb : l ≠ b := fun z => (memB K b).there B2 z hl
    have h0l : H l = none := s2.fresh (fun x z => (memB K b).there B2 z) hl
    have f2l := s2.fh.free hl
    obtain ⟨s3, B3⟩ := rawB (o := .lst [.ref t]) s2 B2 hl
    refine gn ?_
    refine ⟨_, rfl, many, rfl, by omega, by omega, ?_⟩
    have na : ∀ n, n ∈ [n0, n1, n2] → Oth3 n3 (S n) := fun n hn => by
      have m : n ∈ [n0, n1, n2] ++ [n3] := List.mem_append_left _ hn
      have ne : n ≠ n3 := by
        have nd : ([n0, n1, n2] ++ [n3]).Nodup := nams.1
        rw [List.nodup_append] at nd
        exact nd.2.2 n hn n3 (by simp)
      exact ⟨n, rfl, fun c hc => by have := (nams.2 n m).lt c hc; omega, ne⟩
    refine for_it walk_range (fun j σ' H' => ∃ F' xs ps c4 c5 c6, σ' = [some (.ref b), some (.int many), some (.ref pn), some (.ref od), some (.ref l), c4, c5, c6] ∧ Sb b F H F' H' ∧ Bag K b F' H' ∧ Same (upd F1 t (.tup (spV ground))) F' ∧ F' l = none ∧ H' l = some (.lst xs) ∧ Paired (fun v p => Spt K F' v p) xs ps ∧ ps.Nodup ∧ ps[0]? = some ground ∧ ps.length ≤ j + 1 ∧ ∀ p ∈ ps, Oth3 n3 p.1) ?_ (fun _ _ _ _ _ => trivial) ?_ ?_
    · exact ⟨_, [.ref t], [ground], none, none, none, rfl, s3, B3, .refl _, f2l, upd_same, .cons sg .nil, by simp, rfl, Nat.le_refl _, fun p hp => by rw [List.mem_singleton.mp hp]; exact oth_of nm3 gL g_S (by decide) (.inr (.inl (by decide +kernel)))⟩
    · rintro j _ _ _ H3 hj ⟨F3, xs, ps, c4, c5, c6, rfl, t3, C3, e3, f3, h3, pr, nd, hd, pl, al⟩ ⟨rfl, rfl⟩
      have hpn3 := e3 _ _ hpn2
      have hod3 := e3 _ _ hod2
      refine gn ?_
      refine ⟨_, rfl, _, rfl, F3, b, 3, rfl, C3, t3.fh, by decide, sz_of 2 (by decide) (by decide), fun H4 i s4 B4 i0 i1 => ?_⟩
      obtain ⟨z, hz, hzn⟩ : ∃ z, atI (tsL [n0, n1, n2, n3]) i = some (.str z) ∧ Oth3 n3 z := by
        have : i = 0 ∨ i = 1 ∨ i = 2 := by omega
        rcases this with rfl | rfl | rfl
        · exact ⟨S n0, rfl, na _ (by simp)⟩
        · exact ⟨S n1, rfl, na _ (by simp)⟩
        · exact ⟨S n2, rfl, na _ (by simp)⟩
      refine ⟨pn, _, _, _, rfl, rfl, SqL.of (s4.fh _ _ hpn3), hz, ?_⟩
      refine gn ?_
      try dsimp only
      refine seq_with (fun σ' H' => ∃ z', σ' = [some (.ref b), some (.int many), some (.ref pn), some (.ref od), some (.ref l), some (.int (0 + (j : Nat))), some (.str z'), c6] ∧ Sb b F3 H3 F3 H' ∧ Bag K b F3 H' ∧ Oth3 n3 z') (fun u hu => ?_) ?_
      · refine ⟨_, rfl, F3, b, 6, rfl, B4, s4.fh, by decide, sz_of 3 (by decide) (by decide), fun H5 c s5 B5 => ⟨c, rfl, ?_⟩⟩
        cases c with
        | false => exact iteF (hu _ _ ⟨z, rfl, seqB s4 B4 s5, B5, hzn⟩)
        | true =>
          refine iteT ⟨_, rfl, _, rfl, F3, b, _, oddN, rfl, .inl ⟨od, rfl, SqL.of hod3⟩, by simp [oddN], by decide, B5, s5.fh, fun H6 x i s6 B6 hx => ?_⟩
          obtain ⟨z', rfl, hz'⟩ := oddN_oth nm3 hx
          exact hu _ _ ⟨z', rfl, seqB (seqB s4 B4 s5) B5 s6, B6, hz'⟩
      rintro _ H5 ⟨z', rfl, s5, B5, hz'⟩
      refine ⟨_, rfl, _, rfl, F3, b, 4, rfl, B5, s5.fh, by decide, sz_of 3 (by decide) (by decide), fun H6 d1 s6 B6 _ _ => ⟨_, _, rfl, rfl, ?_⟩⟩
      refine ⟨_, rfl, F3, b, 5, rfl, B6, s6.fh, by decide, sz_of 3 (by decide) (by decide), fun H7 d2 s7 B7 _ _ => ⟨_, _, rfl, rfl, by show 3 ≤ sizeLine; decide, fun u hu => ?_⟩⟩
      have t7 := seqB (seqB t3 C3 (seqB s5 B5 s6)) B6 s7
      have h7 : H7 l = some (.lst xs) := s7.hh l _ nlb (s6.hh l _ nlb (s5.hh l _ nlb h3))
      refine gn ?_
      try dsimp only
      refine seq_with (fun σ' H' => ∃ F' u s, σ' = [some (.ref b), some (.int many), some (.ref pn), some (.ref od), some (.ref l), some (.int (0 + (j : Nat))), some (.str z'), some (.ref u)] ∧ Sb b F H F' H' ∧ Bag K b F' H' ∧ Same F3 F' ∧ F' l = none ∧ H' l = some (.lst xs) ∧ Spt K F' (.ref u) s ∧ Oth3 n3 s.1) (fun U hU => ?_) ?_
      · have one : ∀ {F4 H4 : Hp} {u : Addr} {s : Spot}, Sb b F H F4 H4 → Bag K b F4 H4 → Same F3 F4 → F4 l = none → H4 l = some (.lst xs) → H4 u = none → Sb b F H (upd F4 u (.tup (spV s))) (upd H4 u (.tup (spV s))) ∧ Bag K b (upd F4 u (.tup (spV s))) (upd H4 u (.tup (spV s))) ∧ Same F3 (upd F4 u (.tup (spV s))) ∧ (upd F4 u (.tup (spV s))) l = none ∧ (upd H4 u (.tup (spV s))) l = some (.lst xs) ∧ Spt K (upd F4 u (.tup (spV s))) (.ref u) s := fun {F4 H4 u s} t B e f h hu => by
          obtain ⟨t', B'⟩ := newB (o := .tup (spV s)) t B hu
          have nlu : l ≠ u := fun z => by rw [z, hu] at h; cases h
          exact ⟨t', B', e.trans (same_new (t.fh.free hu)), by rw [upd_ne nlu]; exact f, by rw [upd_ne nlu]; exact h, u, rfl, sq_new⟩
        obtain ⟨q1, q2, q3, q4, q5, q6⟩ := one (s := (z', d1 - 1, d2 - 1)) t7 B7 (.refl F3) f3 h7 hu
        refine ⟨_, rfl, _, b, 12, rfl, q2, q1.fh, by decide, sz_of 4 (by decide) (by decide), fun H8 c s8 B8 => ⟨c, rfl, ?_⟩⟩
        have t8 := seqB q1 q2 s8
        have h8 := s8.hh l _ nlb q5
        cases c with
        | false => exact iteF (hU _ _ ⟨_, u, _, rfl, t8, B8, q3, q4, h8, q6, hz'⟩)
        | true =>
          refine iteT ⟨_, rfl, _, _, rfl, rfl, ⟨by decide, by decide, by decide⟩, _, rfl, _, b, 3, rfl, B8, t8.fh, by decide, sz_of 2 (by decide) (by decide), fun H9 d3 s9 B9 _ _ => ?_⟩
          refine ⟨_, _, rfl, rfl, ⟨by decide, by decide, by decide⟩, _, _, rfl, rfl, by show 3 ≤ sizeLine; decide, fun u2 hu2 => ?_⟩
          obtain ⟨r1, r2, r3, r4, r5, r6⟩ := one (s := (z', (10 : Int) ^ (40 : Int).toNat, d3 - (10 : Int) ^ (40 : Int).toNat)) (seqB t8 B8 s9) B9 q3 q4 (s9.hh l _ nlb h8) hu2
          exact hU _ _ ⟨_, u2, _, rfl, r1, r2, r3, r4, r5, r6, hz'⟩
      rintro _ H8 ⟨F8, u8, s, rfl, t8, B8, e38, f8, h8, sp8, zal⟩
      have pr8 := Paired.mapP pr fun v p z => z.up e38
      have fz : Fl 2 (.list (ps.map spD)) := Fl.lst (FlA.all fun d hd => by
        obtain ⟨x, hx, rfl⟩ := List.mem_map.mp hd
        exact fl_sp (al x hx).ok)
      refine ⟨_, rfl, _, rfl, spD s, ps.map spD, (sp8.up t8.fh).dp, .lst (SqL.of h8) (dps pr8 fun v l y => (y.up t8.fh).dp), (fl_sp zal.ok).sh (by decide), fz.sh (by decide), _, rfl, ?_⟩
      rw [any_sp]
      have e8 := e3.trans e38
      by_cases q : s ∈ ps
      · rw [decide_eq_true q]
        exact iteF ⟨F8, xs, ps, _, _, _, rfl, t8, B8, e8, f8, h8, pr8, nd, hd, by omega, al⟩
      · rw [decide_eq_false q]
        refine iteT ⟨_, rfl, .inl ⟨rfl, _, SqL.of h8⟩, _, rfl, l, _, _, rfl, rfl, h8, ?_, ?_⟩
        · have := Paired.length pr8
          rw [sizeLine_eq]
          omega
        · obtain ⟨t9, B9⟩ := mutB (o := .lst (xs ++ [.ref u8])) t8 B8 f8 h0l nlb
          refine ⟨F8, xs ++ [.ref u8], ps ++ [s], _, _, _, rfl, t9, B9, e8, f8, upd_same, Paired.snoc pr8 sp8, ?_, ?_, by rw [List.length_append, List.length_singleton]; omega, ?_⟩
          · rw [List.nodup_append]
            refine ⟨nd, by simp, fun x hx y hy => ?_⟩
            rw [List.mem_singleton] at hy
            subst hy
            exact fun z => q (z ▸ hx)
          · rw [List.getElem?_append_left (List.getElem?_eq_some_iff.mp hd).1]
            exact hd
          · intro p hp
            rcases List.mem_append.mp hp with hp | hp
            · exact al p hp
            · rw [List.mem_singleton.mp hp]
              exact zal
    · rintro _ H3 ⟨F3, xs, ps, c4, c5, c6, rfl, t3, C3, e3, f3, h3, pr, nd, hd, pl, al⟩
      obtain ⟨t4, B4⟩ := freezeB t3 C3 f3 h0l nlb h3
      have e4 := e3.trans (same_new (o := .lst xs) f3)
      have pr4 := Paired.mapP pr fun v p z => z.up (same_new (o := .lst xs) f3)
      have h4 : SqL K (upd F3 l (.lst xs)) l xs := SqL.of upd_same
      generalize upd F3 l (.lst xs) = F4 at t4 B4 e4 pr4 h4
      refine ⟨_, rfl, _, rfl, pn, _, _, _, rfl, rfl, SqL.of (t4.fh _ _ (e4 _ _ hpn2)), rfl, by show 3 ≤ sizeLine; decide, fun t' ht' => ?_⟩
      obtain ⟨t5, B5⟩ := newB (o := .tup (spV (S n3, 0, 0))) t4 B4 ht'
      have g5 := same_new (o := .tup (spV (S n3, 0, 0))) (t4.fh.free ht')
      refine ⟨by show 2 ≤ sizeLine; decide, fun r hr' => ?_⟩
      obtain ⟨t6, B6⟩ := newB (o := .tup [.ref l, .ref t']) t5 B5 hr'
      have g6 := same_new (o := .tup [.ref l, .ref t']) (t5.fh.free hr')
      have no : ∀ d : Int, (S n3, d, 0) ∉ ps := fun d hm => by
        obtain ⟨L, h1, _, h2⟩ := al _ hm
        exact h2 (S_inj h1).symm
      exact k _ _ r l t' (S n3) ps t6 B6 sq_new ⟨xs, upL (g5.trans g6) h4, Paired.mapP pr4 fun v p z => z.up (g5.trans g6)⟩ ⟨nd, hd, fun p hp => (al p hp).ok, by omega⟩ (by omega) (upT g6 sq_new) (strOk_S fun c hc => by have := nm3.lt c hc; omega) (no 0) (no 1)
end
end K49

set_option Elab.async false
set_option linter.all false
set_option maxRecDepth 100000
set_option maxHeartbeats 4000000
namespace K49
open PySem PySem.Spec PyProof.Rows L2 Ew
theorem Raw.fz {K : PySem.W.Frag} {F H H' : Hp} {p : Addr} {qs : List Addr} {n : Nat} {f : Tb2} (h : Raw H H' p qs n f) : Tb K false (fz F H H') (.ref p) n f :=
  ⟨p, _, rfl, SqL.of ((fz_new h.p0).trans h.at_), by rw [List.length_map, h.len], fun i u hu => by
    rw [List.getElem?_map] at hu
    obtain ⟨q, h1, rfl⟩ := Option.map_eq_some_iff.mp hu
    exact ⟨q, rfl, SqL.of ((fz_new (h.q0 q (List.mem_of_getElem? h1))).trans (h.row i q h1))⟩⟩
/-- a table of the law's own draws -/
def tbl (R : List (List Int)) : Tb2 := fun a b => (R.getD a []).getD b 0
theorem row_tbl {n : Nat} {ws : List Int} (h : ws.length = n) : rowV n (fun b => ws.getD b 0) = ws.map V.int := by
  refine (rowV_of (by rw [List.length_map, h]) fun j y e => ?_).symm
  rw [List.getElem?_map] at e
  obtain ⟨d, h1, rfl⟩ := Option.map_eq_some_iff.mp e
  rw [List.getD_eq_getElem?_getD, h1]
  rfl
section
variable {P : Program} {w : World} {K : PySem.W.Frag} {mg : Str → Option Value} {base : Heap} {a : Ad}
theorem ints_of {P : Nat → Int → Prop} : ∀ {ys : List V}, (∀ (j : Nat) y, ys[j]? = some y → ∃ v : Int, y = V.int v ∧ P j v) → ∃ ws : List Int, ys = ws.map V.int ∧ ∀ (j : Nat) v, ws[j]? = some v → P j v := by
  intro ys
  induction ys generalizing P with
  | nil => exact fun _ => ⟨[], rfl, fun j q z => by simp at z⟩
  | cons y ys ih =>
    intro h
    obtain ⟨q, rfl, hq⟩ := h 0 y rfl
    obtain ⟨qs, rfl, hqs⟩ := ih (P := fun j q => P (j + 1) q) fun j y z => h (j + 1) y z
    exact ⟨q :: qs, rfl, fun j r z => by
      cases j with
      | zero => cases z; exact hq
      | succ j => exact hqs j r z⟩
theorem int_at {W : List Int} {j : Nat} (h : j < W.length) : atI (W.map V.int) ((0 : Int) + (j : Nat)) = some (.int (W.getD j 0)) := by
  refine atI_int (by omega) (by rw [List.length_map]; omega) ?_
  have : ((0 : Int) + (j : Nat)).toNat = j := by omega
  rw [this, List.getElem?_map, List.getElem?_eq_getElem h, List.getD_eq_getElem?_getD, List.getElem?_eq_getElem h]
  rfl
/-- what is true of a drawn row -/
structure RowOk (n : Nat) (sc : Int) (vl : Nat → Int) (i : Nat) (ws : List Int) : Prop where
  len : ws.length = n
  z : ws.getD i 0 = 0
  lo : ∀ j, j < n → sc * (vl j - vl i) ≤ ws.getD j 0
  hi : ∀ j, j < n → ws.getD j 0 ≤ sc * 100
def sp__law_drawn_rows (K : PySem.W.Frag) : Sp := fun vs H Q _ => ∃ (F : Hp) (b : Addr) (n : Nat), vs = [.ref b, .int (n : Nat)] ∧ Bag K b F H ∧ Same F H ∧ 1 ≤ n ∧ n ≤ 21 ∧
  ∀ F' H' v f, Sb b F H F' H' → Bag K b F' H' → Tb K false F' v n f → Cld n f → (∀ a b, a < n → b < n → f a b ≤ 10 ^ 30 * 100) → Q v H'
theorem c__law_drawn_rows (T : Txt K mg a) : Cl P w K mg base 3 "_law_drawn_rows" P__law_drawn_rows (sp__law_drawn_rows K) [] :=
  T.d__law_drawn_rows.cl sc__law_drawn_rows (fun vs H Q E h => by obtain ⟨F, b, m, rfl, _⟩ := h; rfl) fun f cdv A outer s H vs Q E hr h => by
    obtain ⟨F, b, n, rfl, hB, hf, n1, n21, k⟩ := h
    refine ⟨_, ((pss_cons (ps_set (i := 2) sc__law_drawn_rows.nd rfl (Or.inr rfl) (pe_f (c__law_choice T) (takes_of rfl rfl rfl rfl) hr (by decide) rfl (pa_cons (pv 0) (pa_cons (pe_lst (pa_cons pe_int (pa_cons pe_int (pa_cons pe_int (pa_cons pe_int (pa_cons pe_int (pa_cons pe_int (pa_cons pe_int (pa_cons (pe_op op_pow pe_int pe_int) pa_nil))))))))) pa_nil))))
 (pss_cons (ps_set (i := 3) sc__law_drawn_rows.nd rfl (Or.inr rfl) (pe_f (c__law_choice T) (takes_of rfl rfl rfl rfl) hr (by decide) rfl (pa_cons (pv 0) (pa_cons (pe_lst (pa_cons pe_int (pa_cons pe_int (pa_cons pe_int (pa_cons pe_int (pa_cons pe_int pa_nil)))))) pa_nil))))
 (pss_cons (ps_set (i := 4) sc__law_drawn_rows.nd rfl (Or.inr rfl) (pe_op op_cat (pe_lst (pa_cons pe_int pa_nil)) (pe_lc (own := [("_law_k", 8)]) (g := (gName 8)) (by rfl) sc__law_drawn_rows.nd (pi_range1 (by rfl) T.n_range (pa_cons (pe_op op_sub (pv 1) pe_int) pa_nil)) (blkOk_by (own := [("_law_k", 8)]) (N := N__law_drawn_rows) (sc := defScope s__law_drawn_rows) (by decide +kernel)) (fun _ _ _ _ _ => (pg_name (i := 8) sc__law_drawn_rows.nd rfl (Or.inl rfl) (hf := .inr rfl))) (fun _ _ _ _ _ => pts_nil) (fun _ _ _ _ _ => (pe_op op_sub (pe_f (c__law_pick T) takes0 hr (by decide) rfl (pa_cons (pv 0) (pa_cons pe_int pa_nil))) pe_int)))))
 (pss_cons (ps_set (i := 5) sc__law_drawn_rows.nd rfl (Or.inl rfl) (pe_lst pa_nil))
 (pss_cons (ps_for (passes_of rfl) rfl (pi_range1 (by rfl) T.n_range (pa_cons (pv 1) pa_nil)) (pg_name (i := 6) sc__law_drawn_rows.nd rfl (Or.inr rfl))
 (pss_cons (ps_setLc (i := 7) (own := [("_law_b", 9)]) (g := (gName 9)) (by rfl) sc__law_drawn_rows.nd rfl rfl (sw_true rfl rfl rfl (by decide +kernel)) (pi_range1 (by rfl) T.n_range (pa_cons (pv 1) pa_nil)) (blkOk_by (own := [("_law_b", 9)]) (N := N__law_drawn_rows) (sc := defScope s__law_drawn_rows) (by decide +kernel)) (fun _ _ _ _ _ => (pg_name (i := 9) sc__law_drawn_rows.nd rfl (Or.inl rfl) (hf := .inr rfl))) (fun _ _ _ _ _ => pts_nil) (fun _ _ _ _ _ => (pe_op op_mul (pv 2) (pe_op op_add (pe_op op_sub (pe_ix (r := rIxL K) ix_list (pv 4) (pv 9) (fun _ _ => rfl)) (pe_ix (r := rIxL K) ix_list (pv 4) (pv 6) (fun _ _ => rfl))) (pe_f (c__law_pick T) takes0 hr (by decide) rfl (pa_cons (pv 0) (pa_cons (pv 3) pa_nil)))))))
 (pss_cons (ps_asg pe_int (pg_sub (pv 7) (pv 6) set_list))
 (pss_one (ps_expr (pe_bm PySem.F.plainAttrs_list PySem.F.slot_list_append PySem.F.type_list_append mt_append (pv 5) (pa_cons (pv 7) pa_nil)))))))
 (pss_one (ps_ret (pe_f (c__law_closing T) (takes_of rfl rfl rfl rfl) hr (by decide) rfl (pa_cons (pv 5) pa_nil)))))))))), ?_⟩
    refine ⟨_, rfl, _, _, rfl, rfl, ⟨by decide, by decide, by decide⟩, by show 8 ≤ sizeLine; decide, fun p1 h1 => ?_⟩
    obtain ⟨s1, B1⟩ := newB (o := .lst [.int 1, .int 1, .int 1, .int 1, .int 1, .int 1, .int 7, .int (10 ^ 30)]) (Stm.refl hf) hB h1
    refine ⟨_, b, _, [.int 1, .int 1, .int 1, .int 1, .int 1, .int 1, .int 7, .int (10 ^ 30)], rfl, .inl ⟨p1, rfl, SqL.of upd_same⟩, by simp, by decide, B1, s1.fh, fun H2 x i s2 B2 hx => ?_⟩
    obtain ⟨sc, rfl, sc1, sc2⟩ : ∃ sc : Int, x = .int sc ∧ 1 ≤ sc ∧ sc ≤ 10 ^ 30 := by
      have := List.mem_of_getElem? hx
      simp only [List.mem_cons, List.not_mem_nil, or_false] at this
      rcases this with rfl | rfl | rfl | rfl | rfl | rfl | rfl | rfl
      · exact ⟨_, rfl, by decide, by decide⟩
      · exact ⟨_, rfl, by decide, by decide⟩
      · exact ⟨_, rfl, by decide, by decide⟩
      · exact ⟨_, rfl, by decide, by decide⟩
      · exact ⟨_, rfl, by decide, by decide⟩
      · exact ⟨_, rfl, by decide, by decide⟩
      · exact ⟨_, rfl, by decide, by decide⟩
      · exact ⟨_, rfl, by decide, by decide⟩
    refine gn ?_
    refine ⟨_, rfl, by show 5 ≤ sizeLine; decide, fun p3 h3 => ?_⟩
    obtain ⟨s3, B3⟩ := newB (o := .lst [.int 1, .int 2, .int 4, .int 10, .int 40]) (seqB s1 B1 s2) B2 h3
    refine ⟨_, b, _, [.int 1, .int 2, .int 4, .int 10, .int 40], rfl, .inl ⟨p3, rfl, SqL.of upd_same⟩, by simp, by decide, B3, s3.fh, fun H4 x i s4 B4 hx => ?_⟩
    obtain ⟨sp, rfl, sp1, sp2⟩ : ∃ sp : Int, x = .int sp ∧ 1 ≤ sp ∧ sp ≤ 40 := by
      have := List.mem_of_getElem? hx
      simp only [List.mem_cons, List.not_mem_nil, or_false] at this
      rcases this with rfl | rfl | rfl | rfl | rfl
      · exact ⟨_, rfl, by decide, by decide⟩
      · exact ⟨_, rfl, by decide, by decide⟩
      · exact ⟨_, rfl, by decide, by decide⟩
      · exact ⟨_, rfl, by decide, by decide⟩
      · exact ⟨_, rfl, by decide, by decide⟩
    refine gn ?_
    have s04 := seqB s3 B3 s4
    generalize upd (upd F p1 (.lst [.int 1, .int 1, .int 1, .int 1, .int 1, .int 1, .int 7, .int (10 ^ 30)])) p3 (.lst [.int 1, .int 2, .int 4, .int 10, .int 40]) = F4 at s04 B4
    refine ⟨by show 1 ≤ sizeLine; decide, fun p5 h5 => ?_⟩
    obtain ⟨s5, B5⟩ := newB (o := .lst [.int 0]) s04 B4 h5
    refine ⟨_, rfl, _, _, rfl, rfl, _, rfl, by omega, by omega, fun D hD => ?_⟩
    refine lcM (memB K b) walk_range s5.fh B5 hD (fun i _ y => ∃ v : Int, y = V.int v ∧ (-20 ≤ v ∧ v ≤ 20)) (fun _ _ _ _ _ z => z) (by omega) (fun _ _ _ _ => trivial) ?_ ?_
    · rintro i x F' _ H1 Kt Kn hi s6 B6 ⟨rfl, rfl⟩ kk
      exact ⟨rfl, lc_yes ⟨_, rfl, F', b, 41, rfl, B6, s6.fh, by decide, sz_of 6 (by decide) (by decide), fun H2 v s7 B7 v0 v1 => ⟨_, _, rfl, rfl, kk _ F' H2 s7 B7 ⟨v - 20, rfl, by omega, by omega⟩⟩⟩⟩
    intro F6 H6 ys s6 B6 hD6 hy hr
    obtain ⟨ws, rfl, hws⟩ := ints_of (P := fun _ v => -20 ≤ v ∧ v ≤ 20) hr
    rw [List.length_map] at hy
    have t6 := seqB s5 B5 s6
    have h56 : H6 p5 = some (.lst [.int 0]) := s6.fh _ _ (s6.ff _ _ upd_same)
    refine ⟨p5, D, [.int 0], ws.map V.int, rfl, rfl, h56, s6.fh _ _ hD6, by rw [List.length_map, sizeLine_eq]; show 1 + ws.length ≤ _; omega, fun vp hvp => ?_⟩
    obtain ⟨t7, B7⟩ := newB (o := .lst ((0 :: ws).map V.int)) t6 B6 hvp
    have hv7 : (upd F6 vp (.lst ((0 :: ws).map V.int))) vp = some (.lst ((0 :: ws).map V.int)) := upd_same
    generalize hW : (0 :: ws : List Int) = W at t7 B7 hv7
    have Wl : W.length = n := by rw [← hW, List.length_cons]; omega
    have Wb : ∀ j, -20 ≤ W.getD j 0 ∧ W.getD j 0 ≤ 20 := fun j => by
      rw [← hW, List.getD_eq_getElem?_getD]
      cases j with
      | zero => exact ⟨by show -20 ≤ (0 : Int); decide, by show (0 : Int) ≤ 20; decide⟩
      | succ j =>
        rw [List.getElem?_cons_succ]
        cases e : ws[j]? with
        | none => exact ⟨by decide, by decide⟩
        | some v => exact hws j v e
    have eW : ([V.int 0] ++ ws.map V.int) = W.map V.int := by rw [← hW]; rfl
    rw [eW]
    refine gn ?_
    generalize upd F6 vp (.lst (W.map V.int)) = F7 at t7 B7 hv7
    generalize upd H6 vp (.lst (W.map V.int)) = H7 at t7 B7 ⊢
    refine ⟨by show 0 ≤ sizeLine; decide, fun L nL => ?_⟩
    have nLb : L ≠ b := fun z => (memB K b).there B7 z nL
    have h0L : H L = none := t7.fresh (fun x z => (memB K b).there B7 z) nL
    have f7L := t7.fh.free nL
    obtain ⟨t8, B8⟩ := rawB (o := .lst []) t7 B7 nL
    refine ⟨_, rfl, (n : Int), rfl, by omega, by omega, ?_⟩
    rw [show ((n : Int)).toNat = n by omega]
    refine for_it walk_range (fun i σ' H' => ∃ F' xs R c6 c7, σ' = [some (.ref b), some (.int (n : Nat)), some (.int sc), some (.int sp), some (.ref vp), some (.ref L), c6, c7, none, none] ∧ Sb b F H F' H' ∧ Bag K b F' H' ∧ Same F7 F' ∧ F' L = none ∧ H' L = some (.lst xs) ∧ xs.length = i ∧ Paired (fun v (r : List Int) => ∃ q, v = V.ref q ∧ SqL K F' q (r.map V.int)) xs R ∧ ∀ j r, R[j]? = some r → RowOk n sc (fun j => W.getD j 0) j r) ?_ (fun _ _ _ _ _ => trivial) ?_ ?_
    · exact ⟨F7, [], [], none, none, rfl, t8, B8, .refl _, f7L, upd_same, rfl, .nil, fun j r z => by simp at z⟩
    · rintro i _ _ _ H9 hi ⟨F9, xs, R, c6, c7, rfl, t9, B9, e9, f9, h9, xl, pr, al⟩ ⟨rfl, rfl⟩
      refine ⟨_, rfl, (n : Int), rfl, by omega, by omega, fun D2 hD2 => ?_⟩
      rw [show ((n : Int)).toNat = n by omega]
      have hvp9 : SqL K F9 vp (W.map V.int) := SqL.of (e9 _ _ hv7)
      have d2L : D2 ≠ L := fun z => by rw [z, h9] at hD2; cases hD2
      have d2b : D2 ≠ b := fun z => (memB K b).there B9 z hD2
      have h0D : H D2 = none := t9.fresh (fun x z => (memB K b).there B9 z) hD2
      have f9D := t9.fh.free hD2
      refine lc_it walk_range (fun j H' => ∃ acc, Sb b F9 H9 F9 H' ∧ Bag K b F9 H' ∧ H' D2 = some (.lst acc) ∧ acc.length = j ∧ ∀ (m : Nat) y, acc[m]? = some y → ∃ v : Int, y = V.int v ∧ (sc * (W.getD m 0 - W.getD i 0) ≤ v ∧ v ≤ sc * 100)) ?_ (fun _ _ _ _ => trivial) ?_ ?_
      · obtain ⟨u1, u2⟩ := rawB (o := .lst []) (Stm.refl t9.fh) B9 hD2
        exact ⟨[], u1, u2, upd_same, rfl, fun m y z => by simp at z⟩
      · rintro j x _ H10 hj ⟨acc, s10, B10, hD10, al10, hr10⟩ ⟨rfl, rfl⟩
        have hv := upL s10.fh hvp9
        refine ⟨rfl, lc_yes ⟨_, rfl, _, rfl, _, rfl, vp, _, _, _, rfl, rfl, hv, int_at (by omega), _, rfl, _, rfl, vp, _, _, _, rfl, rfl, hv, int_at (by omega), _, _, rfl, rfl, ?_⟩⟩
        refine ⟨_, rfl, _, rfl, F9, b, sp, rfl, B10, s10.fh, by omega, sz_of 6 (by omega) (by decide), fun H11 c s11 B11 c0 c1 => ?_⟩
        have w1 := Wb j
        have w2 := Wb i
        have p64 : (2 : Int) ^ 64 = 18446744073709551616 := by decide
        refine ⟨_, _, rfl, rfl, _, _, rfl, rfl, .inr ⟨by omega, by omega⟩, ?_⟩
        have hD11 := s11.hh D2 _ d2b hD10
        obtain ⟨u1, u2⟩ := mutB (o := .lst (acc ++ [.int (sc * (W.getD j 0 - W.getD i 0 + c))])) (seqB s10 B10 s11) B11 f9D hD2 d2b
        refine ⟨acc, hD11, by rw [sizeLine_eq]; omega, _, u1, u2, upd_same, by rw [List.length_append, al10]; rfl, fun m y hm => ?_⟩
        rcases Nat.lt_or_ge m acc.length with q | q
        · rw [List.getElem?_append_left q] at hm
          exact hr10 m y hm
        · rw [List.getElem?_append_right q] at hm
          have e0 : m - acc.length = 0 := by
            rcases Nat.eq_zero_or_pos (m - acc.length) with z | z
            · exact z
            · rw [List.getElem?_eq_none (by simp; omega)] at hm; cases hm
          rw [e0] at hm
          cases hm
          have : m = j := by omega
          subst this
          exact ⟨_, rfl, Int.mul_le_mul_of_nonneg_left (by omega) (by omega), Int.mul_le_mul_of_nonneg_left (by omega) (by omega)⟩
      rintro H10 ⟨acc, s10, B10, hD10, al10, hr10⟩
      obtain ⟨rs, rfl, hrs⟩ := ints_of (P := fun j v => sc * (W.getD j 0 - W.getD i 0) ≤ v ∧ v ≤ sc * 100) hr10
      rw [List.length_map] at al10
      have t10 := seqB t9 B9 s10
      refine gn ?_
      dsimp only
      refine ⟨_, rfl, _, rfl, D2, _, _, i, rfl, rfl, hD10, ?_, ?_⟩
      · unfold ixN
        rw [if_pos (by omega), if_pos (by rw [List.length_map]; omega)]
        congr 1
        omega
      obtain ⟨t11, B11⟩ := mutB (o := .lst ((rs.map V.int).set i (.int 0))) t10 B10 f9D h0D d2b
      have es : (rs.map V.int).set i (.int 0) = (rs.set i 0).map V.int := by rw [List.map_set]
      rw [es] at t11 B11 ⊢
      have hL11 : (upd H10 D2 (.lst ((rs.set i 0).map V.int))) L = some (.lst xs) := by rw [upd_ne d2L.symm]; exact s10.hh L _ nLb h9
      have hD11 : (upd H10 D2 (.lst ((rs.set i 0).map V.int))) D2 = some (.lst ((rs.set i 0).map V.int)) := upd_same
      generalize upd H10 D2 (.lst ((rs.set i 0).map V.int)) = H11 at t11 B11 hL11 hD11 ⊢
      obtain ⟨t12, B12⟩ := freezeB t11 B11 f9D h0D d2b hD11
      have g12 := same_new (o := .lst ((rs.set i 0).map V.int)) f9D
      have f12 : (upd F9 D2 (.lst ((rs.set i 0).map V.int))) L = none := by rw [upd_ne d2L.symm]; exact f9
      have r12 : SqL K (upd F9 D2 (.lst ((rs.set i 0).map V.int))) D2 ((rs.set i 0).map V.int) := SqL.of upd_same
      have pr12 := Paired.mapP pr fun v (r : List Int) z => (by obtain ⟨q, z1, z2⟩ := z; exact ⟨q, z1, upL g12 z2⟩ : ∃ q, v = V.ref q ∧ SqL K (upd F9 D2 (.lst ((rs.set i 0).map V.int))) q (r.map V.int))
      generalize upd F9 D2 (.lst ((rs.set i 0).map V.int)) = F12 at t12 B12 g12 f12 r12 pr12
      refine ⟨_, rfl, .inl ⟨rfl, _, SqL.of hL11⟩, _, rfl, L, _, _, rfl, rfl, hL11, by rw [sizeLine_eq]; omega, ?_⟩
      obtain ⟨t13, B13⟩ := mutB (o := .lst (xs ++ [.ref D2])) t12 B12 f12 h0L nLb
      have Rl : R.length = i := by rw [← Paired.length pr]; exact xl
      refine ⟨F12, xs ++ [.ref D2], R ++ [rs.set i 0], _, _, rfl, t13, B13, e9.trans g12, f12, upd_same, by rw [List.length_append, xl]; rfl, Paired.snoc pr12 ⟨D2, rfl, r12⟩, fun j r hj => ?_⟩
      rcases Nat.lt_or_ge j R.length with q | q
      · rw [List.getElem?_append_left q] at hj
        exact al j r hj
      · rw [List.getElem?_append_right q] at hj
        have e0 : j - R.length = 0 := by
          rcases Nat.eq_zero_or_pos (j - R.length) with z | z
          · exact z
          · rw [List.getElem?_eq_none (by simp; omega)] at hj; cases hj
        rw [e0] at hj
        cases hj
        have : j = i := by omega
        subst this
        have gd : ∀ m, m < n → (rs.set j 0).getD m 0 = if m = j then 0 else rs.getD m 0 := fun m hm => by
          rw [List.getD_eq_getElem?_getD, List.getD_eq_getElem?_getD, List.getElem?_set]
          by_cases z : j = m
          · subst z
            rw [if_pos rfl, if_pos rfl, if_pos (by omega)]
            rfl
          · rw [if_neg z, if_neg (Ne.symm z)]
        have bd : ∀ m, m < n → sc * (W.getD m 0 - W.getD j 0) ≤ rs.getD m 0 ∧ rs.getD m 0 ≤ sc * 100 := fun m hm => by
          rw [List.getD_eq_getElem?_getD (l := rs), List.getElem?_eq_getElem (by omega : m < rs.length)]
          exact hrs m _ (List.getElem?_eq_getElem (by omega))
        refine ⟨by rw [List.length_set]; exact al10, by rw [gd j hi, if_pos rfl], fun m hm => ?_, fun m hm => ?_⟩
        · rw [gd m hm]
          by_cases z : m = j
          · subst z
            rw [if_pos rfl]
            simp
          · rw [if_neg z]
            exact (bd m hm).1
        · rw [gd m hm]
          by_cases z : m = j
          · rw [if_pos z]
            exact Int.mul_nonneg (by omega) (by decide)
          · rw [if_neg z]
            exact (bd m hm).2
    · rintro _ H9 ⟨F9, xs, R, c6, c7, rfl, t9, B9, e9, f9, h9, xl, pr, al⟩
      have Rl : R.length = n := by rw [← Paired.length pr]; exact xl
      have rowR : ∀ {i : Nat}, i < n → ∃ r, R[i]? = some r ∧ RowOk n sc (fun j => W.getD j 0) i r ∧ R.getD i [] = r := fun {i} hi => by
        obtain ⟨r, hr⟩ : ∃ r, R[i]? = some r := ⟨_, List.getElem?_eq_getElem (by omega)⟩
        exact ⟨r, hr, al i r hr, by rw [List.getD_eq_getElem?_getD, hr]; rfl⟩
      have tb : Tb K false H9 (.ref L) n (tbl R) := ⟨L, xs, rfl, SqL.of h9, xl, fun i u hu => by
        obtain ⟨r, hr, q, rfl, hq⟩ := paired_get pr hu
        refine ⟨q, rfl, ?_⟩
        have hi : i < n := by have := (List.getElem?_eq_some_iff.mp hu).1; omega
        obtain ⟨r', hr', ok, e⟩ := rowR hi
        rw [hr] at hr'
        cases hr'
        have : rowV n (tbl R i) = r.map V.int := by
          rw [← row_tbl ok.len]
          refine rowV_congr fun j _ => ?_
          unfold tbl
          rw [e]
        rw [this]
        exact upL t9.fh hq⟩
      have d0 : ∀ i, i < n → tbl R i i = 0 := fun i hi => by
        obtain ⟨r, _, ok, e⟩ := rowR hi
        unfold tbl
        rw [e]
        exact ok.z
      have cc : Cld n (fun x y => sc * (W.getD y 0 - W.getD x 0)) := ⟨fun x _ => by simp, fun x y z _ _ _ => by rw [← Int.mul_add]; exact Int.le_of_eq (congrArg (sc * ·) (by omega))⟩
      have le : Le n (fun x y => sc * (W.getD y 0 - W.getD x 0)) (tbl R) := fun x y hx hy => by
        obtain ⟨r, _, ok, e⟩ := rowR hx
        unfold tbl
        rw [e]
        exact ok.lo y hy
      have cf : Cld n (K49.fw n (tbl R)) := fw_cld (fun x hx => Int.le_of_eq (d0 x hx)) fun x hx => by
        have h1 := fw_ge cc le n (Nat.le_refl _) x x hx hx
        have h2 := cc.z x hx
        exact Int.le_trans (Int.le_of_eq h2.symm) h1
      refine ⟨_, rfl, _, n, _, rfl, tb, by omega, ⟨_, cc, le⟩, fun H10 p q e10 r10 => ?_⟩
      obtain ⟨t11, B11⟩ := pureB t9 B9 (stp_all t9.fh e10)
      refine k _ _ _ _ t11 B11 r10.fz cf fun x y hx hy => ?_
      obtain ⟨r, _, ok, e⟩ := rowR hx
      have h1 := fw_le (n := n) (f := tbl R) n x y hx hy
      have h2 : tbl R x y ≤ sc * 100 := by unfold tbl; rw [e]; exact ok.hi y hy
      have h3 : sc * 100 ≤ 10 ^ 30 * 100 := Int.mul_le_mul_of_nonneg_right sc2 (by decide)
      exact Int.le_trans h1 (Int.le_trans h2 h3)
end
end K49

set_option Elab.async false
set_option linter.all false
set_option maxRecDepth 100000
set_option maxHeartbeats 4000000
namespace K49
open PySem PySem.Spec PyProof.Rows L2 Ew
section
variable {P : Program} {w : World} {K : PySem.W.Frag} {mg : Str → Option Value} {base : Heap} {a : Ad}
/-! ### what is told of a try -/
def sp__law_at_of (P : Program) (w : World) (K : PySem.W.Frag) (a : Ad) : Sp := fun vs H Q _ => ∃ (c u v x : V) (ps : List Spot) (f : Tb2) (d1 d2 : PyData), vs = [c, u, v] ∧ Cd P w K a.Card H c ps f ∧ ps.Nodup ∧ Dp K H u d1 ∧ Dp K H v d2 ∧
  ((inC ps d1 = false ∧ x = u) ∨ (inC ps d1 = true ∧ inC ps d2 = false ∧ x = v)) ∧ ∀ H' r, Same H H' → SqT K H' r [.str "no", x] → Q (.ref r) H'
theorem c__law_at_of (T : Txt K mg a) : Cl P w K mg base 7 "_law_at_of" P__law_at_of (sp__law_at_of P w K a) [] :=
  T.d__law_at_of.cl sc__law_at_of (fun vs H Q E h => by obtain ⟨c, u, v, x, ps, f, d1, d2, rfl, _⟩ := h; rfl) fun f cdv A outer s H vs Q E hr h => by
    obtain ⟨c, u, v, x, ps, f, d1, d2, rfl, cd, nd, hu, hv, hc, k⟩ := h
    obtain ⟨cx, dx, _, _, _, rfl, hx, _⟩ := id cd
    refine ⟨_, ((pss_cons (ps_tryN rfl rfl sc__law_at_of.nd (takes_of rfl rfl rfl rfl)
 (fun W pn xe tk tkp => (pss_one (show PS _ _ (tAsg (tIxO a.Card (sp_at P w K a) (WE W) (tVar 0) (tTup (tCons (tVar 1) (tCons (tVar 2) tNil)))) (gName 3)) from (ps_set (i := 3) sc__law_at_of.nd rfl (Or.inl rfl) (pe_ixC (o_Card_getitem T) tk hr (by decide) (pv 0) (pe_tup (pa_cons (pv 1) (pa_cons (pv 2) pa_nil))) (fun _ _ => rfl))))))
 (.nm (i := 4) rfl rfl ⟨rfl, by decide, .inl T.g_NoSpot⟩ (fun xa oe cls d pn hz hf => (pss_one (ps_ret (pe_tup (pa_cons pe_str (pa_cons (pe_xf T.xf_NoSpot T.no_NoSpot_spot hz hf (pv 4)) pa_nil)))))) (.pl ⟨rfl, by decide, .inl T.g_EllError⟩ (fun xa oe cls d pn hz hf => (pss_one (ps_ret (pe_tup (pa_cons pe_str (pa_cons pe_non pa_nil)))))) .nil)))
 (pss_one (ps_ret (pe_tup (pa_cons pe_str (pa_cons (pv 3) pa_nil))))))), ?_⟩
    refine ⟨_, rfl, ⟨_, rfl, _, rfl, by show 2 ≤ sizeLine; decide, fun q hq => ?_⟩⟩
    have e1 := same_new (o := .tup [u, v]) hq
    have fin : ∀ y, y = x → ∀ H' d', Same H H' → H' d' = some (.xd [("spot", y)]) → ∀ (W : Prop), W → W := fun _ _ _ _ _ _ _ z => z
    refine ⟨cx, dx, _, rfl, e1 _ _ hx, _, u, v, q, ps, f, d1, d2, rfl, cd.up e1, nd, sq_new, dp_up e1 hu, dp_up e1 hv, fun i j s1 s2 g1 g2 g3 g4 => ?_, fun z H' d' e2 hd => ?_, fun z1 z2 H' d' e2 hd => ?_⟩
    · exfalso
      rcases hc with ⟨h1, _⟩ | ⟨_, h1, _⟩
      · rw [g1, inC_sp, decide_eq_true (List.mem_of_getElem? g3)] at h1
        cases h1
      · rw [g2, inC_sp, decide_eq_true (List.mem_of_getElem? g4)] at h1
        cases h1
    · obtain rfl : x = u := by
        rcases hc with ⟨_, h1⟩ | ⟨h1, _⟩
        · exact h1
        · rw [z] at h1; cases h1
      refine ⟨true, T.em_NoSpot, fun _ ea hea => ?_, fun z => nomatch z⟩
      refine ⟨_, rfl, rfl, rfl, d', _, x, rfl, hd, rfl, by show 2 ≤ sizeLine; decide, fun r hr => ?_⟩
      exact k _ r (e1.trans (e2.trans (same_new hr))) sq_new
    · obtain rfl : x = v := by
        rcases hc with ⟨h1, _⟩ | ⟨_, _, h1⟩
        · rw [z1] at h1; cases h1
        · exact h1
      refine ⟨true, T.em_NoSpot, fun _ ea hea => ?_, fun z => nomatch z⟩
      refine ⟨_, rfl, rfl, rfl, d', _, x, rfl, hd, rfl, by show 2 ≤ sizeLine; decide, fun r hr => ?_⟩
      exact k _ r (e1.trans (e2.trans (same_new hr))) sq_new
def sp__law_cut (P : Program) (w : World) (K : PySem.W.Frag) (a : Ad) : Sp := fun vs H Q _ => ∃ (t : Bool) (p : Addr) (c : V) (ps : List Spot) (f : Tb2) (us : List V) (ds : List PyData), vs = [c, .ref p] ∧ Cd P w K a.Card H c ps f ∧ OkS ps ∧ Sq K t H p us ∧ DpAll K H us ds ∧ ds.length ≤ 500 ∧
  (∀ ss, AllIn ps ds ss → ∀ H' r z, Same H H' → SqT K H' r [.str "cut", z] → Cd P w K a.Card H' z (onceG ss) (subT f (cutO ps ss)) → Q (.ref r) H') ∧ (∀ i u, us[i]? = some u → FstOut ps ds i → ∀ H' r, Same H H' → SqT K H' r [.str "no", u] → Q (.ref r) H')
theorem c__law_cut (T : Txt K mg a) : Cl P w K mg base 9 "_law_cut" P__law_cut (sp__law_cut P w K a) [] :=
  T.d__law_cut.cl sc__law_cut (fun vs H Q E h => by obtain ⟨t, p, c, ps, f, us, ds, rfl, _⟩ := h; rfl) fun f cdv A outer s H vs Q E hr h => by
    obtain ⟨t, p, c, ps, f, us, ds, rfl, cd, ok, hp, hd, le, k, kb⟩ := h
    obtain ⟨cx, dx, _, _, _, rfl, hx, _⟩ := id cd
    refine ⟨_, ((pss_cons (ps_tryN rfl rfl sc__law_cut.nd (takes_of rfl rfl rfl rfl)
 (fun W pn xe tk tkp => (pss_one (show PS _ _ (tAsg (tM a.Card "cut" (sp_cut P w K a) [] W (tVar 0) (tCons (tVar 1) tNil)) (gName 2)) from (ps_set (i := 2) sc__law_cut.nd rfl (Or.inl rfl) (pe_mf (m_Card_cut T) tk hr (by decide) (pv 0) (pa_cons (pv 1) pa_nil))))))
 (.nm (i := 3) rfl rfl ⟨rfl, by decide, .inl T.g_NoSpot⟩ (fun xa oe cls d pn hz hf => (pss_one (ps_ret (pe_tup (pa_cons pe_str (pa_cons (pe_xf T.xf_NoSpot T.no_NoSpot_spot hz hf (pv 3)) pa_nil)))))) (.pl ⟨rfl, by decide, .inl T.g_EllError⟩ (fun xa oe cls d pn hz hf => (pss_one (ps_ret (pe_tup (pa_cons pe_str (pa_cons pe_non pa_nil)))))) .nil)))
 (pss_one (ps_ret (pe_tup (pa_cons pe_str (pa_cons (pv 2) pa_nil))))))), ?_⟩
    refine ⟨_, rfl, cx, dx, _, rfl, hx, rfl, _, rfl, ?_⟩
    refine ⟨t, p, _, ps, f, us, ds, rfl, cd, ok, hp, hd, le, fun ss al H1 z e1 c1 => ?_, fun i u hu fo H' d' e1 hd => ?_⟩
    · refine ⟨_, rfl, by show 2 ≤ sizeLine; decide, fun r hr => ?_⟩
      exact k ss al _ r z (e1.trans (same_new hr)) sq_new (c1.up (same_new hr))
    · refine ⟨true, T.em_NoSpot, fun _ ea hea => ?_, fun z => nomatch z⟩
      refine ⟨_, rfl, rfl, rfl, d', _, u, rfl, hd, rfl, by show 2 ≤ sizeLine; decide, fun r hr => ?_⟩
      exact kb i u hu fo _ r (e1.trans (same_new hr)) sq_new
def sp__law_made (P : Program) (w : World) (K : PySem.W.Frag) (a : Ad) : Sp := fun vs H Q _ => ∃ (t1 t2 : Bool) (p : Addr) (v : V) (ds : List PyData) (Rs : List (List PyData)), vs = [.ref p, v] ∧ Its K t1 H p ds ∧ ds.length ≤ 1000 ∧ (∀ d ∈ ds, Fl 2 d) ∧ RoD K t2 H v Rs ∧
  (∀ ps f, ds = ps.map spD → OkS ps → Rs = tabL ps.length f → Cld ps.length f → ∀ H' r x, Same H H' → SqT K H' r [.str "good", .ref x] → Cd P w K a.Card H' (.ref x) ps f → Q (.ref r) H') ∧ (∀ z, Flaw ds Rs z → ∀ H' r, Same H H' → SqT K H' r [.str "bad", .int z] → Q (.ref r) H')
theorem c__law_made (T : Txt K mg a) : Cl P w K mg base 7 "_law_made" P__law_made (sp__law_made P w K a) [] :=
  T.d__law_made.cl sc__law_made (fun vs H Q E h => by obtain ⟨t1, t2, p, v, ds, Rs, rfl, _⟩ := h; rfl) fun f cdv A outer s H vs Q E hr h => by
    obtain ⟨t1, t2, p, v, ds, Rs, rfl, hp, le, fl, ro, k, kb⟩ := h
    refine ⟨_, ((pss_cons (ps_tryN rfl rfl sc__law_made.nd (takes_of rfl rfl rfl rfl)
 (fun W pn xe tk tkp => (pss_one (show PS _ _ (tAsg (tMkW a.Card (sp_Cinit P w K a) W (tCons (tVar 0) (tCons (tVar 1) tNil))) (gName 2)) from (ps_set (i := 2) sc__law_made.nd rfl (Or.inl rfl) (pe_mkW (mk_Card T) tk hr (by decide) rfl (pa_cons (pv 0) (pa_cons (pv 1) pa_nil)))))))
 (.nm (i := 3) rfl rfl ⟨rfl, by decide, .inl T.g_BadCard⟩ (fun xa oe cls d pn hz hf => (pss_cons (ps_if (PW.pt (pw_or (pt_not (pt_val (pe_callB (call_isErrC T.e_BadCard hz hf) (by rfl) T.n_isinstance (by decide +kernel) (pa_cons (pv 3) (pa_cons (pe_glob (v := .ref a.EllError) rfl T.g_EllError rfl) pa_nil))))) (pw_or (pt_not (pt_val (pe_callB (call_isErrC T.e_BadCard hz hf) (by rfl) T.n_isinstance (by decide +kernel) (pa_cons (pv 3) (pa_cons (pe_bltn (v := .ty "ValueError") (by rfl) T.n_ValueError (by decide +kernel) rfl) pa_nil))))) (pw_or1 (pt_val (pe_callB (call_isErrC T.e_BadCard hz hf) (by rfl) T.n_isinstance (by decide +kernel) (pa_cons (pv 3) (pa_cons (pe_glob (v := .ref a.BadSpot) rfl T.g_BadSpot rfl) pa_nil))))))))
 (pss_one (ps_ret (pe_tup (pa_cons pe_str (pa_cons pe_non pa_nil)))))
 pss_nil)
 (pss_one (ps_ret (pe_tup (pa_cons pe_str (pa_cons (pe_xf T.xf_BadCard T.no_BadCard_place hz hf (pv 3)) pa_nil))))))) (.pl ⟨rfl, by decide, .inl T.g_EllError⟩ (fun xa oe cls d pn hz hf => (pss_one (ps_ret (pe_tup (pa_cons pe_str (pa_cons pe_non pa_nil)))))) .nil)))
 (pss_one (ps_ret (pe_tup (pa_cons pe_str (pa_cons (pv 2) pa_nil))))))), ?_⟩
    refine ⟨_, rfl, _, rfl, mk_cdX hp le fl ro (fun ps f g1 g2 g3 g4 H1 x e1 nx cd => ?_) fun z fz H' d' e1 hd => ?_⟩
    · refine ⟨_, rfl, by show 2 ≤ sizeLine; decide, fun r hr => ?_⟩
      exact k ps f g1 g2 g3 g4 _ r x (e1.trans (same_new hr)) sq_new (cd.up (same_new hr))
    · refine ⟨true, T.em_BadCard, fun _ ea hea => ?_, fun z => nomatch z⟩
      refine ⟨_, rfl, rfl, fun d' z => ⟨_, by cases z; exact hd⟩, .inl ⟨_, _, true, rfl, .own _, T.ke_BadCard, true, rfl, iteF ?_⟩⟩
      refine ⟨_, rfl, rfl, fun d' z => ⟨_, by cases z; exact hd⟩, .inl ⟨_, _, true, rfl, .ty _, T.kv_BadCard, true, rfl, iteF ?_⟩⟩
      refine ⟨_, rfl, rfl, fun d' z => ⟨_, by cases z; exact hd⟩, .inl ⟨_, _, false, rfl, .own _, T.kb_BadCard, false, rfl, iteF ?_⟩⟩
      refine ⟨_, rfl, rfl, rfl, d', _, .int z, rfl, hd, rfl, by show 2 ≤ sizeLine; decide, fun r hr => ?_⟩
      exact kb z fz _ r (e1.trans (same_new hr)) sq_new
end
end K49

set_option Elab.async false
set_option linter.all false
set_option maxRecDepth 100000
set_option maxHeartbeats 4000000
namespace K49
open PySem PySem.Spec PyProof.Rows L2 Ew
section
variable {P : Program} {w : World} {K : PySem.W.Frag} {mg : Str → Option Value} {base : Heap} {a : Ad}
/-! ### what the law says of a table -/
def sp__law_is_spot (K : PySem.W.Frag) : Sp := fun vs H Q _ => ∃ v d, vs = [v] ∧ Dp K H v d ∧ Q (.bl (asSp d).isSome) H
theorem c__law_is_spot (T : Txt K mg a) : Cl P w K mg base 2 "_law_is_spot" P__law_is_spot (sp__law_is_spot K) [] :=
  T.d__law_is_spot.cl sc__law_is_spot (fun vs H Q E h => by obtain ⟨v, d, rfl, _⟩ := h; rfl) fun f cdv A outer s H vs Q E hr h => by
    obtain ⟨v, d, rfl, hv, k⟩ := h
    refine ⟨_, ((pss_cons (ps_if (PW.pt (pw_or (pt_not (pt_val (pe_callB call_isi (by rfl) T.n_isinstance (by decide +kernel) (pa_cons (pv 0) (pa_cons (pe_bltn (v := .ty "tuple") (by rfl) T.n_tuple (by decide +kernel) rfl) pa_nil))))) (pw_or (pt_cmpR op_ne (pe_callB call_len_seq (by rfl) T.n_len (by decide +kernel) (pa_cons (pv 0) pa_nil)) pe_int (nomark _)) (pw_or1 (pt_not (pt_val (pe_callB call_isi (by rfl) T.n_isinstance (by decide +kernel) (pa_cons (pe_ix ix_tup (pv 0) pe_int (fun _ _ => rfl)) (pa_cons (pe_bltn (v := .ty "str") (by rfl) T.n_str (by decide +kernel) rfl) pa_nil)))))))))
 (pss_one (ps_ret pe_bl))
 pss_nil)
 (pss_one (ps_ret (pe_and (pe_f (c__law_integer T) (takes_of rfl rfl rfl rfl) hr (by decide) rfl (pa_cons (pe_ix ix_tup (pv 0) pe_int (fun _ _ => rfl)) pa_nil)) (pe_one (pe_f (c__law_integer T) (takes_of rfl rfl rfl rfl) hr (by decide) rfl (pa_cons (pe_ix ix_tup (pv 0) pe_int (fun _ _ => rfl)) pa_nil)))))))), ?_⟩
    cases e : asSp d with
    | some p =>
      rw [e] at k
      rw [asSp_some e] at hv
      obtain ⟨q, rfl, hp⟩ := dp_sps hv
      refine ⟨_, rfl, _, _, _, _, true, rfl, .ty _, ty_sqT hp, kit_ty (by decide +kernel), true, rfl, iteF ?_⟩
      refine ⟨_, rfl, q, _, rfl, .inr hp, rfl, _, rfl, iteN (by simp [spV]) ?_⟩
      refine ⟨_, rfl, q, _, 0, _, rfl, rfl, hp, rfl, _, _, _, _, true, rfl, .ty _, .base (.str _), kit_ty (by decide +kernel), true, rfl, iteF ?_⟩
      exact ⟨_, rfl, q, _, 1, _, rfl, rfl, hp, rfl, _, rfl, .inl ⟨_, rfl, _, rfl, iteT ⟨_, rfl, q, _, 2, _, rfl, rfl, hp, rfl, _, rfl, .inl ⟨_, rfl, k⟩⟩⟩⟩
    | none =>
      rw [e] at k
      have n := dp_nsp hv e
      cases n with
      | nt kd n => exact ⟨_, rfl, _, _, _, _, false, rfl, .ty _, kd.ty, kd.kit (.inr rfl) n, false, rfl, iteT k⟩
      | @len p xs hp l =>
        refine ⟨_, rfl, _, _, _, _, true, rfl, .ty _, ty_sqT hp, kit_ty (by decide +kernel), true, rfl, iteF ?_⟩
        exact ⟨_, rfl, p, _, rfl, .inr hp, rfl, _, rfl, iteY (by rw [decide_eq_false (fun z => l (by have := V.int.inj z; omega))]; rfl) k⟩
      | @name p x y z t hp kd n =>
        refine ⟨_, rfl, _, _, _, _, true, rfl, .ty _, ty_sqT hp, kit_ty (by decide +kernel), true, rfl, iteF ?_⟩
        refine ⟨_, rfl, p, _, rfl, .inr hp, rfl, _, rfl, iteN (by simp [spV]) ?_⟩
        exact ⟨_, rfl, p, _, 0, _, rfl, rfl, hp, rfl, _, _, _, _, false, rfl, .ty _, kd.ty, kd.kit (.inl rfl) n, false, rfl, iteT k⟩
      | @st p n y z t hp kd ne =>
        refine ⟨_, rfl, _, _, _, _, true, rfl, .ty _, ty_sqT hp, kit_ty (by decide +kernel), true, rfl, iteF ?_⟩
        refine ⟨_, rfl, p, _, rfl, .inr hp, rfl, _, rfl, iteN (by simp [spV]) ?_⟩
        refine ⟨_, rfl, p, _, 0, _, rfl, rfl, hp, rfl, _, _, _, _, true, rfl, .ty _, .base (.str _), kit_ty (by decide +kernel), true, rfl, iteF ?_⟩
        exact ⟨_, rfl, p, _, 1, _, rfl, rfl, hp, rfl, _, rfl, .inr ⟨kd.noI ne, _, rfl, iteF k⟩⟩
      | @day p n s' z t hp kd ne =>
        refine ⟨_, rfl, _, _, _, _, true, rfl, .ty _, ty_sqT hp, kit_ty (by decide +kernel), true, rfl, iteF ?_⟩
        refine ⟨_, rfl, p, _, rfl, .inr hp, rfl, _, rfl, iteN (by simp [spV]) ?_⟩
        refine ⟨_, rfl, p, _, 0, _, rfl, rfl, hp, rfl, _, _, _, _, true, rfl, .ty _, .base (.str _), kit_ty (by decide +kernel), true, rfl, iteF ?_⟩
        exact ⟨_, rfl, p, _, 1, _, rfl, rfl, hp, rfl, _, rfl, .inl ⟨_, rfl, _, rfl, iteT ⟨_, rfl, p, _, 2, _, rfl, rfl, hp, rfl, _, rfl, .inr ⟨kd.noI ne, k⟩⟩⟩⟩
theorem Tb.cel {t : Bool} {H : Hp} {p : Addr} {n a : Nat} {f : Tb2} (h : Tb K t H (.ref p) n f) (ha : a < n) : ∃ us q, Sq K t H p us ∧ us.length = n ∧ atI us ((0 : Int) + (a : Nat)) = some (.ref q) ∧ Sq K t H q (rowV n (f a)) := by
  obtain ⟨us, q, h1, h2, h3, h4⟩ := h.at_ ha
  exact ⟨us, q, h1, h2, h4, h3⟩
def sp__law_is_closed (K : PySem.W.Frag) : Sp := fun vs H Q _ => ∃ (v : V) (n : Nat) (f : Tb2), vs = [v] ∧ Tb K false H v n f ∧ n ≤ 1000 ∧ (Tri n f → Q (.bl true) H) ∧ (¬ Tri n f → Q (.bl false) H)
theorem c__law_is_closed (T : Txt K mg a) : Cl P w K mg base 1 "_law_is_closed" P__law_is_closed (sp__law_is_closed K) [] :=
  T.d__law_is_closed.cl sc__law_is_closed (fun vs H Q E h => by obtain ⟨v, n, f, rfl, _⟩ := h; rfl) fun f cdv A outer s H vs Q E hr h => by
    obtain ⟨v, n, f, rfl, tb, hn, k1, k2⟩ := h
    obtain ⟨p, us, rfl, hp, hl, _⟩ := id tb
    have hp : SqL K H p us := hp
    refine ⟨_, ((pss_cons (ps_for (passes_of rfl) rfl (pi_range1 (by rfl) T.n_range (pa_cons (pe_callB call_len_seq (by rfl) T.n_len (by decide +kernel) (pa_cons (pv 0) pa_nil)) pa_nil)) (pg_name (i := 1) sc__law_is_closed.nd rfl (Or.inl rfl))
 (pss_one (ps_for (passes_of rfl) rfl (pi_range1 (by rfl) T.n_range (pa_cons (pe_callB call_len_seq (by rfl) T.n_len (by decide +kernel) (pa_cons (pv 0) pa_nil)) pa_nil)) (pg_name (i := 2) sc__law_is_closed.nd rfl (Or.inl rfl))
 (pss_one (ps_for (passes_of rfl) rfl (pi_range1 (by rfl) T.n_range (pa_cons (pe_callB call_len_seq (by rfl) T.n_len (by decide +kernel) (pa_cons (pv 0) pa_nil)) pa_nil)) (pg_name (i := 3) sc__law_is_closed.nd rfl (Or.inl rfl))
 (pss_one (ps_if (pt_cmpR op_gt (pe_ix ix_list (pe_ix ix_list (pv 0) (pv 1) (fun _ _ => rfl)) (pv 3) (fun _ _ => rfl)) (pe_op op_add (pe_ix ix_list (pe_ix ix_list (pv 0) (pv 1) (fun _ _ => rfl)) (pv 2) (fun _ _ => rfl)) (pe_ix ix_list (pe_ix ix_list (pv 0) (pv 2) (fun _ _ => rfl)) (pv 3) (fun _ _ => rfl))) (nomark _))
 (pss_one (ps_ret pe_bl))
 pss_nil)))))))
 (pss_one (ps_ret pe_bl)))), ?_⟩
    have len : ∀ {R : L2.St → Hp → Prop}, True := fun {_} => trivial
    refine ⟨_, rfl, p, us, rfl, .inl hp, _, rfl, by omega, by omega, ?_⟩
    rw [show (((us.length : Nat) : Int)).toNat = n by omega]
    refine for_it walk_range (fun x σ' H' => H = H' ∧ (∃ c1 c2 c3, σ' = [some (.ref p), c1, c2, c3]) ∧ ∀ i j k, i < x → j < n → k < n → f i k ≤ f i j + f j k) ?_ (fun _ _ _ _ _ => trivial) ?_ ?_
    · exact ⟨rfl, ⟨none, none, none, rfl⟩, fun i _ _ z => absurd z (Nat.not_lt_zero i)⟩
    · rintro x _ _ _ _ hx ⟨eH, ⟨c1, c2, c3, rfl⟩, t1⟩ ⟨rfl, e2⟩
      subst eH
      have e2 := e2.symm
      subst e2
      refine ⟨_, rfl, p, us, rfl, .inl hp, _, rfl, by omega, by omega, ?_⟩
      rw [show (((us.length : Nat) : Int)).toNat = n by omega]
      refine for_it walk_range (fun y σ' H' => H = H' ∧ (∃ c2 c3, σ' = [some (.ref p), some (.int (0 + (x : Nat))), c2, c3]) ∧ ∀ j k, j < y → k < n → f x k ≤ f x j + f j k) ?_ (fun _ _ _ _ _ => trivial) ?_ ?_
      · exact ⟨rfl, ⟨c2, c3, rfl⟩, fun j _ z => absurd z (Nat.not_lt_zero j)⟩
      · rintro y _ _ _ _ hy ⟨eH, ⟨c2, c3, rfl⟩, t2⟩ ⟨rfl, e2⟩
        subst eH
        have e2 := e2.symm
        subst e2
        refine ⟨_, rfl, p, us, rfl, .inl hp, _, rfl, by omega, by omega, ?_⟩
        rw [show (((us.length : Nat) : Int)).toNat = n by omega]
        refine for_it walk_range (fun z σ' H' => H = H' ∧ (∃ c3, σ' = [some (.ref p), some (.int (0 + (x : Nat))), some (.int (0 + (y : Nat))), c3]) ∧ ∀ k, k < z → f x k ≤ f x y + f y k) ?_ (fun _ _ _ _ _ => trivial) ?_ ?_
        · exact ⟨rfl, ⟨c3, rfl⟩, fun k z => absurd z (Nat.not_lt_zero k)⟩
        · rintro z _ _ _ _ hz ⟨eH, ⟨c3, rfl⟩, t3⟩ ⟨rfl, e2⟩
          subst eH
          have e2 := e2.symm
          subst e2
          obtain ⟨u1, q1, a1, _, a2, a3⟩ := tb.cel hx
          obtain ⟨u2, q2, b1, _, b2, b3⟩ := tb.cel hy
          refine ⟨_, rfl, _, rfl, p, _, _, _, rfl, rfl, a1, a2, _, rfl, q1, _, _, _, rfl, rfl, a3, row_at hz, ?_⟩
          refine ⟨_, rfl, _, rfl, p, _, _, _, rfl, rfl, a1, a2, _, rfl, q1, _, _, _, rfl, rfl, a3, row_at hy, ?_⟩
          refine ⟨_, rfl, _, rfl, p, _, _, _, rfl, rfl, b1, b2, _, rfl, q2, _, _, _, rfl, rfl, b3, row_at hz, _, _, rfl, rfl, _, _, rfl, rfl, _, rfl, ?_⟩
          by_cases g : f x z > f x y + f y z
          · rw [decide_eq_true g]
            exact iteT (k2 fun tr => by have := tr x y z hx hy hz; omega)
          · rw [decide_eq_false g]
            refine iteF ⟨rfl, ⟨_, rfl⟩, fun k hk => ?_⟩
            by_cases e : k = z
            · rw [e]; omega
            · exact t3 k (by omega)
        · rintro _ _ ⟨rfl, ⟨c3, rfl⟩, t3⟩
          refine ⟨rfl, ⟨_, _, rfl⟩, fun j k hj hk => ?_⟩
          by_cases e : j = y
          · rw [e]; exact t3 k hk
          · exact t2 j k (by omega) hk
      · rintro _ _ ⟨rfl, ⟨c2, c3, rfl⟩, t2⟩
        refine ⟨rfl, ⟨_, _, _, rfl⟩, fun i j k hi hj hk => ?_⟩
        by_cases e : i = x
        · rw [e]; exact t2 j k hj hk
        · exact t1 i j k (by omega) hj hk
    · rintro _ _ ⟨rfl, ⟨c1, c2, c3, rfl⟩, t1⟩
      exact k1 fun i j k hi hj hk => t1 i j k hi hj hk
theorem okA_take {ds : List PyData} : ∀ {j : Nat}, j ≤ ds.length → (∀ i, i < j → okA ds i) → ∃ ps : List Spot, ds.take j = ps.map spD
  | 0, _, _ => ⟨[], rfl⟩
  | j + 1, hj, h => by
    obtain ⟨ps, e⟩ := okA_take (j := j) (by omega) fun i hi => h i (by omega)
    obtain ⟨s, h1, _⟩ := h j (by omega)
    exact ⟨ps ++ [s], by rw [List.take_add_one, h1, e, List.map_append]; rfl⟩
theorem okA_iff {ds : List PyData} {ps : List Spot} {j : Nat} {s : Spot} (tk : ds.take j = ps.map spD) (hdj : ds[j]? = some (spD s)) : okA ds j ↔ s ∉ ps ∧ (j = 0 → s = ground) := by
  constructor
  · rintro ⟨s', h1, h2, h3⟩
    rw [hdj] at h1
    have := spD_inj (Option.some.inj h1)
    subst this
    exact ⟨fun z => h2 (by rw [tk]; exact List.mem_map.mpr ⟨_, z, rfl⟩), h3⟩
  · rintro ⟨h2, h3⟩
    refine ⟨s, hdj, fun z => h2 ?_, h3⟩
    rw [tk] at z
    obtain ⟨y, z1, z2⟩ := List.mem_map.mp z
    rw [← spD_inj z2]
    exact z1
theorem dp_picked {H : Hp} {R : PyData → Prop} : ∀ {ys : List V} {l : List Nat}, Paired (fun y _ => ∃ d, R d ∧ Dp K H y d) ys l → ∃ ds, DpAll K H ys ds ∧ ∀ d ∈ ds, R d
  | [], [], _ => ⟨[], .nil, fun d hd => nomatch hd⟩
  | y :: ys, i :: l, .cons ⟨d, h1, h2⟩ t => by
    obtain ⟨ds, h3, h4⟩ := dp_picked t
    exact ⟨d :: ds, .cons h2 h3, fun x hx => by
      rcases List.mem_cons.mp hx with rfl | hx
      · exact h1
      · exact h4 x hx⟩
theorem eqv_nil (ds : List PyData) : PyData.eqv (.list ds) (.list []) = decide (ds = []) := by
  rw [PyData.eqv]
  cases ds with
  | nil => rfl
  | cons d ds => rfl
def sp__law_due_of (K : PySem.W.Frag) : Sp := fun vs H Q _ => ∃ (p : Addr) (v : V) (ds : List PyData) (Rs : List (List PyData)), vs = [.ref p, v] ∧ Its K false H p ds ∧ ds.length ≤ 1000 ∧ (∀ d ∈ ds, Fl 2 d) ∧ RoD K false H v Rs ∧ Rs.length ≤ 1000 ∧ (∀ R ∈ Rs, R.length ≤ 1000 ∧ ∀ d ∈ R, Fl 1 d) ∧
  (∀ z, Flaw ds Rs z → ∀ H', Same H H' → Q (.int z) H') ∧ (∀ ps f, ds = ps.map spD → OkS ps → Rs = tabL ps.length f → Cld ps.length f → ∀ H', Same H H' → Q .non H')
theorem c__law_due_of (T : Txt K mg a) : Cl P w K mg base 3 "_law_due_of" P__law_due_of (sp__law_due_of K) [] :=
  T.d__law_due_of.cl sc__law_due_of (fun vs H Q E h => by obtain ⟨p, v, ds, Rs, rfl, _⟩ := h; rfl) fun f cdv A outer s H vs Q E hr h => by
    obtain ⟨p, v, ds, Rs, rfl, ⟨us, hp, hd⟩, le, fl, ro, rl, rfl1, kb, kg⟩ := h
    obtain ⟨r, rs, rfl, hr0, hrl, hrs⟩ := id ro
    have hp : SqL K H p us := hp
    have hr0 : SqL K H r rs := hr0
    have ul := dpAll_len hd
    refine ⟨_, ((pss_cons (ps_for (passes_of rfl) rfl (pi_range1 (by rfl) T.n_range (pa_cons (pe_callB call_len_seq (by rfl) T.n_len (by decide +kernel) (pa_cons (pv 0) pa_nil)) pa_nil)) (pg_name (i := 2) sc__law_due_of.nd rfl (Or.inl rfl))
 (pss_cons (ps_set (i := 3) sc__law_due_of.nd rfl (Or.inl rfl) (pe_ix ix_list (pv 0) (pv 2) (fun _ _ => rfl)))
 (pss_one (ps_if (PW.pt (pw_or (pt_not (pt_val (pe_f (c__law_is_spot T) (takes_of rfl rfl rfl rfl) hr (by decide) rfl (pa_cons (pv 3) pa_nil)))) (pw_or (pt_cmpR (op_inD (units5 hr)) (pv 3) (pe_slice sl_list (pv 0) po_none (po_some (pv 2))) (by rfl)) (pw_or1 (PW.pt (pw_and (pt_cmpR op_eq (pv 2) pe_int (nomark _)) (pw_and1 (pt_cmpR (op_neD hr.units) (pv 3) (pe_f0 (c__law_ground T) hr (by decide) rfl) (nomark _)))))))))
 (pss_one (ps_ret (pv 2)))
 pss_nil))))
 (pss_cons (ps_if (pt_cmpR (op_eqD hr.units) (pv 0) (pe_lst pa_nil) (nomark _))
 (pss_one (ps_ret pe_int))
 pss_nil)
 (pss_cons (ps_for (passes_of rfl) rfl (pi_range1 (by rfl) T.n_range (pa_cons (pe_callB (call_min2 rfl) (by rfl) T.n_min (by decide +kernel) (pa_cons (pe_callB call_len_seq (by rfl) T.n_len (by decide +kernel) (pa_cons (pv 1) pa_nil)) (pa_cons (pe_callB call_len_seq (by rfl) T.n_len (by decide +kernel) (pa_cons (pv 0) pa_nil)) pa_nil))) pa_nil)) (pg_name (i := 2) sc__law_due_of.nd rfl (Or.inl rfl))
 (pss_cons (ps_set (i := 4) sc__law_due_of.nd rfl (Or.inl rfl) (pe_ix ix_list (pv 1) (pv 2) (fun _ _ => rfl)))
 (pss_one (ps_if (PW.pt (pw_or (pt_cmpR op_ne (pe_callB call_len_seq (by rfl) T.n_len (by decide +kernel) (pa_cons (pv 4) pa_nil)) (pe_callB call_len_seq (by rfl) T.n_len (by decide +kernel) (pa_cons (pv 0) pa_nil)) (nomark _)) (pw_or (pt_cmpR (op_neD hr.units) (pe_lc (own := [("_law_one", 5)]) (g := (gName 5)) (by rfl) sc__law_due_of.nd (pi_list (pv 4)) (blkOk_by (own := [("_law_one", 5)]) (N := N__law_due_of) (sc := defScope s__law_due_of) (by decide +kernel)) (fun _ _ _ _ _ => (pg_name (i := 5) sc__law_due_of.nd rfl (Or.inl rfl) (hf := .inr rfl))) (fun _ _ _ _ _ => (pts_one (pt_not (pt_val (pe_f (c__law_integer T) takes0 hr (by decide) rfl (pa_cons (pv 5) pa_nil)))))) (fun _ _ _ _ _ => (pv 5))) (pe_lst pa_nil) (nomark _)) (pw_or1 (pt_cmpR op_ne (pe_ix ix_list (pv 4) (pv 2) (fun _ _ => rfl)) pe_int (nomark _))))))
 (pss_one (ps_ret (pv 2)))
 pss_nil))))
 (pss_cons (ps_if (PW.pt (pw_or (pt_cmpR op_ne (pe_callB call_len_seq (by rfl) T.n_len (by decide +kernel) (pa_cons (pv 1) pa_nil)) (pe_callB call_len_seq (by rfl) T.n_len (by decide +kernel) (pa_cons (pv 0) pa_nil)) (nomark _)) (pw_or1 (pt_not (pt_val (pe_f (c__law_is_closed T) (takes_of rfl rfl rfl rfl) hr (by decide) rfl (pa_cons (pv 1) pa_nil)))))))
 (pss_one (ps_ret (pe_un un_neg pe_int)))
 pss_nil)
 (pss_one (ps_ret pe_non))))))), ?_⟩
    refine ⟨_, rfl, p, us, rfl, .inl hp, _, rfl, by omega, by omega, ?_⟩
    rw [show (((us.length : Nat) : Int)).toNat = ds.length by omega]
    refine for_it walk_range (fun j σ' H' => ∃ c2 c3, σ' = [some (.ref p), some (.ref r), c2, c3, none, none] ∧ Same H H' ∧ ∀ i, i < j → okA ds i) ?_ (fun _ _ _ _ _ => trivial) ?_ ?_
    · exact ⟨none, none, rfl, .refl H, fun i z => absurd z (Nat.not_lt_zero i)⟩
    · rintro j _ _ _ H1 hj ⟨c2, c3, rfl, e1, oks⟩ ⟨rfl, rfl⟩
      obtain ⟨x, hx⟩ : ∃ x, us[j]? = some x := ⟨_, List.getElem?_eq_getElem (by omega)⟩
      obtain ⟨dj, hdj, hq⟩ := dpAll_get hd hx
      have ax : atI us ((0 : Int) + (j : Nat)) = some x := atI_int (by omega) (by omega) (by rw [show ((0 : Int) + (j : Nat)).toNat = j by omega, hx])
      refine gn ?_
      refine ⟨_, rfl, _, rfl, p, us, _, x, rfl, rfl, upL e1 hp, ax, ?_⟩
      refine gn ?_
      try dsimp only
      have bad : ¬ okA ds j → ∀ H', Same H H' → Q (.int (0 + (j : Nat))) H' := fun z H' e' => by
        rw [Int.zero_add]
        exact kb j (.spot (.inr ⟨hj, oks, z⟩)) H' e'
      refine ⟨_, rfl, x, dj, rfl, dp_up e1 hq, ?_⟩
      cases ea : asSp dj with
      | none =>
        refine ⟨_, rfl, iteT ⟨_, rfl, bad (fun ⟨s, h1, _⟩ => ?_) _ e1⟩⟩
        rw [hdj] at h1
        cases h1
        rw [asSp_sp] at ea
        cases ea
      | some sj =>
      obtain rfl := asSp_some ea
      obtain ⟨ps, tk⟩ := okA_take (by omega) oks
      have oki := okA_iff tk hdj
      have fz : Fl 2 (.list (ps.map spD)) := Fl.lst (FlA.all fun d hd => by
        have hm : d ∈ ds := List.mem_of_mem_take (by rw [tk]; exact hd)
        have := fl d hm
        obtain ⟨y, _, rfl⟩ := List.mem_map.mp hd
        exact fl_sp (fl_str this))
      refine ⟨_, rfl, iteF ?_⟩
      refine ⟨_, rfl, _, rfl, _, rfl, _, rfl, p, us, rfl, upL e1 hp, fun q hq2 => ?_⟩
      have e2 := e1.trans (same_new (o := .lst (cutV us none (some (0 + (j : Nat) : Int)))) hq2)
      have ec : cutV us none (some (0 + (j : Nat) : Int)) = us.take j := by rw [Int.zero_add]; exact cut_to us j
      have dpt : DpAll K (upd H1 q (.lst (cutV us none (some (0 + (j : Nat) : Int))))) (us.take j) (ps.map spD) := dp_of (by rw [← tk, List.length_take, List.length_take]; omega) fun i u d h1 h2 => by
        have hi : i < j := by have := (List.getElem?_eq_some_iff.mp h1).1; rw [List.length_take] at this; omega
        rw [List.getElem?_take, if_pos hi] at h1
        rw [← tk, List.getElem?_take, if_pos hi] at h2
        obtain ⟨d', h3, h4⟩ := dpAll_get hd h1
        rw [h2] at h3
        cases h3
        exact dp_up e2 h4
      refine ⟨spD sj, ps.map spD, dp_up e2 hq, .lst (SqL.of (by rw [upd_same, ec])) dpt, (fl _ (List.mem_of_getElem? hdj)).sh (by decide), fz.sh (by decide), _, rfl, ?_⟩
      rw [any_sp]
      by_cases hin : sj ∈ ps
      · rw [decide_eq_true hin]
        exact iteT ⟨_, rfl, bad (fun z => (oki.mp z).1 hin) _ e2⟩
      rw [decide_eq_false hin]
      refine iteF ?_
      have nxt : okA ds j → ∀ H', Same H H' → ∃ c2 c3, ([some (.ref p), some (.ref r), some (.int (0 + (j : Nat))), some x, none, none] : L2.St) = [some (.ref p), some (.ref r), c2, c3, none, none] ∧ Same H H' ∧ ∀ i, i < j + 1 → okA ds i := fun ok H' e' => ⟨_, _, rfl, e', fun i hi => by
        by_cases c : i < j
        · exact oks i c
        · rw [show i = j by omega]
          exact ok⟩
      generalize upd H1 q (.lst (cutV us none (some (0 + (j : Nat) : Int)))) = H2 at e2
      refine ⟨_, rfl, rfl, _, rfl, ?_⟩
      by_cases h0 : j = 0
      · subst h0
        refine iteY (vint_eq rfl) ⟨_, rfl, rfl, fun q hq3 => ?_⟩
        have e3 := e2.trans (same_new (o := .tup (spV ground)) hq3)
        refine ⟨spD sj, spD ground, dp_up e3 hq, dp_sp (SqT.of upd_same), (fl _ (List.mem_of_getElem? hdj)).sh (by decide), (fl_sp (by decide +kernel)).sh (by decide), _, rfl, ?_⟩
        rw [eqv_sp]
        by_cases hg : sj = ground
        · rw [decide_eq_true hg]
          exact iteF (nxt (oki.mpr ⟨hin, fun _ => hg⟩) _ e3)
        · rw [decide_eq_false hg]
          exact iteT ⟨_, rfl, bad (fun z => hg ((oki.mp z).2 rfl)) _ e3⟩
      · exact iteN (vint_ne (by omega)) (nxt (oki.mpr ⟨hin, fun z => absurd z h0⟩) _ e2)
    · rintro _ H1 ⟨c2, c3, rfl, e1, oks⟩
      have flD : Fl 3 (.list ds) := Fl.lst (FlA.all fun d hd => fl d hd)
      refine ⟨_, rfl, by show 0 ≤ sizeLine; decide, fun q0 hq0 => ?_⟩
      have e2 := e1.trans (same_new (o := .lst []) hq0)
      refine ⟨.list ds, .list [], .lst (upL e2 hp) (dpAll_up e2 hd), .lst (SqL.of upd_same) .nil, flD.sh (by decide), (Fl.lst (n := 0) .nil).sh (by decide), _, rfl, ?_⟩
      rw [eqv_nil]
      generalize upd H1 q0 (.lst []) = H2 at e2
      by_cases nil : ds = []
      · rw [decide_eq_true nil]
        exact iteT (kb ((0 : Nat) : Int) (.spot (.inl ⟨nil, rfl⟩)) _ e2)
      rw [decide_eq_false nil]
      refine iteF ?_
      obtain ⟨ps, tk⟩ := okA_take (Nat.le_refl _) oks
      rw [List.take_length] at tk
      subst tk
      have el : (ps.map spD).length = ps.length := List.length_map _
      have ok : OkS ps := OkS.of_A (fun j hj => oks j (by rw [el]; exact hj)) (fun s hs => fl_str (fl _ (List.mem_map.mpr ⟨s, hs, rfl⟩))) (by omega) (List.length_pos_iff.mpr fun z => nil (by rw [z]; rfl))
      have okd : OkD (ps.map spD) := ⟨ps, rfl, ok⟩
      have mn : (if (((us.length : Nat) : Int)) < (((rs.length : Nat) : Int)) then (((us.length : Nat) : Int)) else (((rs.length : Nat) : Int))) = ((min Rs.length (ps.map spD).length : Nat) : Int) := by
        rw [ul, hrl]
        split <;> omega
      refine ⟨_, rfl, r, rs, rfl, .inl (upL e2 hr0), _, rfl, p, us, rfl, .inl (upL e2 hp), _, _, rfl, ?_⟩
      rw [mn]
      refine ⟨_, rfl, by omega, by omega, ?_⟩
      rw [show (((min Rs.length (ps.map spD).length : Nat) : Int)).toNat = min Rs.length (ps.map spD).length by omega]
      refine for_it walk_range (fun j σ' H' => ∃ c2 c4 c5, σ' = [some (.ref p), some (.ref r), c2, c3, c4, c5] ∧ Same H H' ∧ ∀ i R, i < j → Rs[i]? = some R → rowOk (ps.map spD).length i R) ?_ (fun _ _ _ _ _ => trivial) ?_ ?_
      · exact ⟨_, _, _, rfl, e2, fun i R z => absurd z (Nat.not_lt_zero i)⟩
      · rintro j _ _ _ H3 hj ⟨c2, c4, c5, rfl, e3, d3⟩ ⟨rfl, rfl⟩
        have hjn : j < (ps.map spD).length := by omega
        obtain ⟨R, hR⟩ : ∃ R, Rs[j]? = some R := ⟨_, List.getElem?_eq_getElem (by omega)⟩
        obtain ⟨x, hx⟩ : ∃ x, rs[j]? = some x := ⟨_, List.getElem?_eq_getElem (by omega)⟩
        obtain ⟨q, rfl, xs, hq, hdq⟩ := hrs j x R hx hR
        have hq : SqL K H q xs := hq
        have xl := dpAll_len hdq
        obtain ⟨Rl, Rfl⟩ := rfl1 R (List.mem_of_getElem? hR)
        have ax : atI rs ((0 : Int) + (j : Nat)) = some (.ref q) := atI_int (by omega) (by omega) (by rw [show ((0 : Int) + (j : Nat)).toNat = j by omega, hx])
        have bad : ¬ rowOk (ps.map spD).length j R → ∀ H', Same H H' → Q (.int (0 + (j : Nat))) H' := fun z H' e' => by
          rw [Int.zero_add]
          exact kb j (.row okd ⟨hjn, d3, R, hR, z⟩) H' e'
        refine gn ?_
        refine ⟨_, rfl, _, rfl, r, rs, _, _, rfl, rfl, upL e3 hr0, ax, ?_⟩
        refine gn ?_
        try dsimp only
        refine ⟨_, rfl, q, xs, rfl, .inl (upL e3 hq), _, rfl, p, us, rfl, .inl (upL e3 hp), rfl, _, rfl, ?_⟩
        by_cases hlen : R.length = (ps.map spD).length
        · refine iteN (by rw [xl, ul, hlen]; simp) ?_
          refine ⟨_, rfl, q, rfl, ⟨xs, upL e3 hq⟩, fun D hD => ?_⟩
          refine lcF walk_list (fun i => (asI (R.getD i .none)).isNone) (.refl H3) hD (fun i F y => ∃ d, (d ∈ R ∧ asI d = none) ∧ Dp K F y d) (fun _ _ _ _ e z => by obtain ⟨d, z1, z2⟩ := z; exact ⟨d, z1, dp_up e z2⟩) (by omega) (fun F' H' g1 g2 => upL (e3.trans (g1.trans g2)) hq) ?_ ?_
          · rintro i y F' _ H4 Kt Kn hi s4 ⟨rfl, hy⟩ kt kn
            obtain ⟨d, h1, h2⟩ := dpAll_get hdq hy
            have gd : R.getD i .none = d := by rw [List.getD_eq_getElem?_getD, h1]; rfl
            rw [gd] at kt kn
            have e4 := e3.trans (s4.ff.trans s4.fh)
            rcases dp_isInt (dp_up e4 h2) with ⟨n, rfl, rfl⟩ | ⟨⟨t, kd, ne⟩, ea⟩
            · exact ⟨rfl, _, rfl, _, rfl, .inl ⟨_, rfl, true, rfl, kn rfl _ _ (.refl s4.fh)⟩⟩
            · exact ⟨rfl, _, rfl, _, rfl, .inr ⟨kd.noI ne, false, rfl, ⟨_, rfl, kt (by rw [ea]; rfl) _ _ _ (.refl s4.fh) ⟨d, ⟨List.mem_of_getElem? h1, ea⟩, dp_up (e3.trans s4.ff) h2⟩⟩⟩⟩
          · intro F3 H4 ys s4 hD4 pr4
            obtain ⟨es, he, hes⟩ := dp_picked pr4
            have e4 := e3.trans (s4.ff.trans s4.fh)
            refine ⟨by show 0 ≤ sizeLine; decide, fun D2 n2 => ?_⟩
            have g5 := same_new (o := .lst []) n2
            have flE : Fl 2 (.list es) := Fl.lst (FlA.all fun d hd => Rfl d (hes d hd).1)
            refine ⟨.list es, .list [], .lst (SqL.of (g5 _ _ (s4.fh _ _ hD4))) (dpAll_up (s4.fh.trans g5) he), .lst (SqL.of upd_same) .nil, flE.sh (by decide), (Fl.lst (n := 0) .nil).sh (by decide), _, rfl, ?_⟩
            rw [eqv_nil]
            have e5 := e4.trans g5
            generalize upd H4 D2 (.lst []) = H5 at e5
            have lens := Paired.length pr4
            have lene := dpAll_len he
            by_cases all : ∀ d ∈ R, (asI d).isSome = true
            · have en : es = [] := by
                cases es with
                | nil => rfl
                | cons d es =>
                  obtain ⟨h1, h2⟩ := hes d List.mem_cons_self
                  have := all d h1
                  rw [h2] at this
                  cases this
              rw [decide_eq_true en]
              refine iteF ?_
              obtain ⟨dj, hdj⟩ : ∃ d, R[j]? = some d := ⟨_, List.getElem?_eq_getElem (by omega)⟩
              obtain ⟨ij, hij⟩ := Option.isSome_iff_exists.mp (all dj (List.mem_of_getElem? hdj))
              obtain rfl := asI_some hij
              obtain ⟨u, hu1, hu2⟩ := dpAll_at hdq hdj
              cases hu2
              have aj : atI xs ((0 : Int) + (j : Nat)) = some (.int ij) := atI_int (by omega) (by omega) (by rw [show ((0 : Int) + (j : Nat)).toNat = j by omega, hu1])
              refine ⟨_, rfl, _, rfl, q, xs, _, _, rfl, rfl, upL e5 hq, aj, rfl, _, rfl, ?_⟩
              by_cases z : ij = 0
              · refine iteN (by rw [z]; decide) ⟨_, _, _, rfl, e5, fun i S hi hS => ?_⟩
                by_cases ei : i = j
                · subst ei
                  rw [hR] at hS
                  cases hS
                  exact ⟨hlen, all, by rw [hdj, z]⟩
                · exact d3 i S (by omega) hS
              · exact iteY (by simp [z]) ⟨_, rfl, bad (fun y => by have := y.2.2; rw [hdj] at this; cases this; exact z rfl) _ e5⟩
            · have en : es ≠ [] := fun z => by
                subst z
                have l0 : ((List.range xs.length).filter fun i => (asI (R.getD i .none)).isNone) = [] := List.length_eq_zero_iff.mp (by rw [← lens, lene]; rfl)
                refine all fun d hd => ?_
                obtain ⟨i, hi⟩ := List.mem_iff_getElem?.mp hd
                have il := (List.getElem?_eq_some_iff.mp hi).1
                have := List.filter_eq_nil_iff.mp l0 i (List.mem_range.mpr (by omega))
                rw [List.getD_eq_getElem?_getD, hi] at this
                cases ea : asI d with
                | none => exact absurd (by show (asI d).isNone = true; rw [ea]; rfl) this
                | some _ => rfl
              rw [decide_eq_false en]
              exact iteT ⟨_, rfl, bad (fun y => all y.2.1) _ e5⟩
        · exact iteY (by rw [decide_eq_false (fun z => hlen (by have := V.int.inj z; omega))]; rfl) ⟨_, rfl, bad (fun y => hlen y.1) _ e3⟩
      · rintro _ H3 ⟨c2, c4, c5, rfl, e3, d3⟩
        have allR : AllR (ps.map spD).length Rs := fun j R hj hR => d3 j R (by
          have := (List.getElem?_eq_some_iff.mp hR).1
          omega) hR
        refine ⟨_, rfl, r, rs, rfl, .inl (upL e3 hr0), _, rfl, p, us, rfl, .inl (upL e3 hp), rfl, _, rfl, ?_⟩
        by_cases hlen : Rs.length = (ps.map spD).length
        · obtain ⟨f, rfl, hz⟩ := rows_tab hlen allR
          refine iteN (by rw [hrl, ul, hlen]; simp) ?_
          refine ⟨_, rfl, _, _, f, rfl, (ro.tb).up e3, le, fun tr => ⟨true, rfl, iteF ?_⟩, fun tr => ⟨false, rfl, iteT ?_⟩⟩
          · rw [el] at hz tr
            exact kg ps f rfl ok (by rw [el]) ⟨hz, tr⟩ _ e3
          · exact ⟨_, rfl, kb (-1) (.fin okd ⟨allR, .inr ⟨f, rfl, tr⟩⟩) _ e3⟩
        · refine iteY (by rw [decide_eq_false (fun z => hlen (by have := V.int.inj z; omega))]; rfl) ?_
          exact iteT ⟨_, rfl, kb (-1) (.fin okd ⟨allR, .inl hlen⟩) _ e3⟩
end
end K49

set_option Elab.async false
set_option linter.all false
set_option maxRecDepth 100000
set_option maxHeartbeats 4000000
namespace K49
open PySem PySem.Spec PyProof.Rows L2 Ew
/-! ### odd things put in -/
structure Gd (n : Nat) (d : PyData) : Prop where
  fl : Fl n d
  eq : PyData.eqv d d = true
theorem Gd.up {n m : Nat} {d : PyData} (h : Gd n d) (k : n ≤ m) : Gd m d := ⟨⟨h.fl.c, Nat.le_trans h.fl.d k⟩, h.eq⟩
theorem eqvAll_self : ∀ {ds : List PyData}, (∀ d ∈ ds, PyData.eqv d d = true) → PyData.eqvAll ds ds = true
  | [], _ => rfl
  | d :: ds, h => by rw [PyData.eqvAll, h d List.mem_cons_self, eqvAll_self fun x hx => h x (List.mem_cons_of_mem _ hx)]; rfl
theorem gd_list {n : Nat} {ds : List PyData} (h : ∀ d ∈ ds, Gd n d) : Gd (n + 1) (.list ds) := ⟨Fl.lst (FlA.all fun d hd => (h d hd).fl), by rw [PyData.eqv]; exact eqvAll_self fun d hd => (h d hd).eq⟩
theorem gd_tup {n : Nat} {ds : List PyData} (h : ∀ d ∈ ds, Gd n d) : Gd (n + 1) (.tuple ds) := ⟨Fl.tup (FlA.all fun d hd => (h d hd).fl), by rw [PyData.eqv]; exact eqvAll_self fun d hd => (h d hd).eq⟩
theorem gd_int {n : Nat} {i : Int} : Gd n (.int i) := ⟨.int, by rw [PyData.eqv]; exact beq_self_eq_true i⟩
theorem gd_non {n : Nat} : Gd n .none := ⟨⟨by rw [PyData.canLay0], by rw [PyData.depth]; omega⟩, by rw [PyData.eqv]⟩
theorem gd_bl {n : Nat} {b : Bool} : Gd n (.bool b) := ⟨⟨by rw [PyData.canLay0], by rw [PyData.depth]; omega⟩, by rw [PyData.eqv]; exact beq_self_eq_true b⟩
theorem gd_str {n : Nat} {z : Str} (h : PyData.strOk z = true) : Gd n (.str z) := ⟨.str h, by rw [PyData.eqv]; exact beq_self_eq_true z⟩
theorem gd_sp {p : Spot} (h : PyData.strOk p.1 = true) : Gd 2 (spD p) := gd_tup (n := 1) fun d hd => by
  simp only [List.mem_cons, List.not_mem_nil, or_false] at hd
  rcases hd with rfl | rfl | rfl
  · exact gd_str h
  · exact gd_int
  · exact gd_int
theorem gd0 {n : Nat} : ∀ d ∈ ([] : List PyData), Gd n d := fun d hd => nomatch hd
theorem gdc {n : Nat} {d : PyData} {ds : List PyData} (h : Gd n d) (t : ∀ x ∈ ds, Gd n x) : ∀ x ∈ d :: ds, Gd n x := fun x hx => by
  rcases List.mem_cons.mp hx with rfl | hx
  · exact h
  · exact t x hx
def GdV (K : PySem.W.Frag) (n : Nat) (F : Hp) (x : V) : Prop := ∃ d, Gd n d ∧ Dp K F x d
section
variable {K : PySem.W.Frag} {b : Addr} {F0 H0 F H F' H' F2 H2 : Hp} {q p : Addr} {o : HO} {m : Addr → Prop} {n : Nat} {x : V}
theorem GdV.up (h : GdV K n F x) (e : Same F F') : GdV K n F' x := by obtain ⟨d, h1, h2⟩ := h; exact ⟨d, h1, dp_up e h2⟩
/-- what is not m stays as it is -/
def Kp (m : Addr → Prop) (H H' : Hp) : Prop := ∀ x u, ¬ m x → H x = some u → H' x = some u
theorem Kp.refl : Kp m H H := fun _ _ _ h => h
theorem Kp.trans (h : Kp m H H') (k : Kp m H' H2) : Kp m H H2 := fun x u n e => k x u n (h x u n e)
theorem Kp.new (h : Kp m H H') (hq : H' q = none) : Kp m H (upd H' q o) := fun x u n e => by
  have := h x u n e
  rw [upd_ne (fun z => by rw [z, hq] at this; cases this)]
  exact this
theorem Kp.mut (h : Kp m H H') (hp : m p) : Kp m H (upd H' p o) := fun x u n e => by
  rw [upd_ne (fun z => n (by rw [z]; exact hp))]
  exact h x u n e
theorem Kp.sb (h : Kp m H H') (hb : m b) (s : Sb b F H' F2 H2) : Kp m H H2 := fun x u n e => s.hh x u (fun z => n (by rw [z]; exact hb)) (h x u n e)
theorem Kp.same (h : Kp m H H') (e : Same H' H2) : Kp m H H2 := fun x u n z => e x u (h x u n z)
/-- only new things, and the bag -/
structure Gw (b : Addr) (F H F' H' : Hp) : Prop where
  ff : Same F F'
  kp : Kp (fun x => x = b) H H'
  nw : ∀ x, x ≠ b → H x ≠ none → F x = none → F' x = none
theorem Gw.trans (h : Gw b F H F' H') (k : Gw b F' H' F2 H2) : Gw b F H F2 H2 := ⟨h.ff.trans k.ff, h.kp.trans k.kp, fun x nb n e => k.nw x nb (fun z => by
  cases c : H x with
  | none => exact n c
  | some u => rw [h.kp x u nb c] at z; cases z) (h.nw x nb n e)⟩
theorem Gw.refl : Gw b F H F H := ⟨.refl _, .refl, fun _ _ _ h => h⟩
theorem Gw.sb (s : Sb b F H F H') : Gw b F H F H' := ⟨.refl _, fun x u n e => s.hh x u n e, fun _ _ _ h => h⟩
theorem Gw.new (f : F q = none) (hq : H q = none) : Gw b F H (upd F q o) (upd H q o) := ⟨same_new f, Kp.new .refl hq, fun x _ n e => by
  rw [upd_ne (fun z => n (by rw [z]; exact hq))]
  exact e⟩
/-- an odd thing made -/
theorem alloc_gd {d : PyData} {L : List V} (s : Sb b F0 H0 F H) (B : Bag K b F H) (al : ∀ x ∈ L, GdV K n F x) (hq : H q = none) (g : Gd n d) (dq : ∀ F', Same F F' → F' q = some o → Dp K F' (.ref q) d) :
    ∃ F' H', upd H q o = H' ∧ Sb b F0 H0 F' H' ∧ Bag K b F' H' ∧ Gw b F H F' H' ∧ F' q = some o ∧ ∀ x ∈ V.ref q :: L, GdV K n F' x := by
  obtain ⟨s', B'⟩ := newB (o := o) s B hq
  have f := s.fh.free hq
  have e := same_new (o := o) f
  refine ⟨_, _, rfl, s', B', .new f hq, upd_same, fun x hx => ?_⟩
  rcases List.mem_cons.mp hx with rfl | hx
  · exact ⟨d, g, dq _ e upd_same⟩
  · exact (al x hx).up e
/-- a list of things that stand already -/
theorem alloc_l {L : List V} (s : Sb b F0 H0 F H) (B : Bag K b F H) (al : ∀ x ∈ L, GdV K n F x) (hq : H q = none) :
    ∃ F' H', upd H q o = H' ∧ Sb b F0 H0 F' H' ∧ Bag K b F' H' ∧ Gw b F H F' H' ∧ F' q = some o ∧ ∀ x ∈ L, GdV K n F' x := by
  obtain ⟨s', B'⟩ := newB (o := o) s B hq
  have f := s.fh.free hq
  have e := same_new (o := o) f
  exact ⟨_, _, rfl, s', B', .new f hq, upd_same, fun x hx => (al x hx).up e⟩
end
/-- a row of odd things -/
structure OkDs (n : Nat) (ds : List PyData) : Prop where
  ne : ds ≠ []
  le : ds.length ≤ n
  gd : ∀ d ∈ ds, Gd 2 d
theorem OkDs.set {n i : Nat} {ds : List PyData} (h : OkDs n ds) {d : PyData} (g : Gd 2 d) : OkDs (n + 1) (ds.set i d) := ⟨fun z => h.ne (by have := congrArg List.length z; rw [List.length_set] at this; exact List.length_eq_zero_iff.mp this), by rw [List.length_set]; have := h.le; omega, fun x hx => by
  rcases List.mem_or_eq_of_mem_set hx with hx | rfl
  · exact h.gd x hx
  · exact g⟩
theorem OkDs.set0 {n i : Nat} {ds : List PyData} (h : OkDs n ds) {d : PyData} (g : Gd 2 d) : OkDs n (ds.set i d) := ⟨fun z => h.ne (by have := congrArg List.length z; rw [List.length_set] at this; exact List.length_eq_zero_iff.mp this), by rw [List.length_set]; exact h.le, fun x hx => by
  rcases List.mem_or_eq_of_mem_set hx with hx | rfl
  · exact h.gd x hx
  · exact g⟩
theorem OkDs.ins {n i : Nat} {ds : List PyData} (h : OkDs n ds) {d : PyData} (g : Gd 2 d) : OkDs (n + 1) (ds.take i ++ [d] ++ ds.drop i) := ⟨by simp, by have := h.le; simp only [List.length_append, List.length_take, List.length_drop, List.length_singleton]; omega, fun x hx => by
  simp only [List.mem_append, List.mem_singleton] at hx
  rcases hx with (hx | rfl) | hx
  · exact h.gd x (List.mem_of_mem_take hx)
  · exact g
  · exact h.gd x (List.mem_of_mem_drop hx)⟩
section
variable {K : PySem.W.Frag} {H : Hp}
theorem dpAll_set : ∀ {us : List V} {ds : List PyData} {i : Nat} {u : V} {d : PyData}, DpAll K H us ds → Dp K H u d → DpAll K H (us.set i u) (ds.set i d)
  | _, _, _, _, _, .nil, _ => .nil
  | _, _, 0, _, _, .cons _ t, k => .cons k t
  | _, _, i + 1, _, _, .cons h t, k => .cons h (dpAll_set (i := i) t k)
theorem dpAll_app : ∀ {us vs : List V} {ds es : List PyData}, DpAll K H us ds → DpAll K H vs es → DpAll K H (us ++ vs) (ds ++ es)
  | _, _, _, _, .nil, k => k
  | _, _, _, _, .cons h t, k => .cons h (dpAll_app t k)
theorem dpAll_take : ∀ {us : List V} {ds : List PyData} (i : Nat), DpAll K H us ds → DpAll K H (us.take i) (ds.take i)
  | _, _, 0, _ => .nil
  | _, _, _ + 1, .nil => .nil
  | _, _, i + 1, .cons h t => .cons h (dpAll_take i t)
theorem dpAll_drop : ∀ {us : List V} {ds : List PyData} (i : Nat), DpAll K H us ds → DpAll K H (us.drop i) (ds.drop i)
  | _, _, 0, h => h
  | _, _, _ + 1, .nil => .nil
  | _, _, i + 1, .cons _ t => dpAll_drop i t
end
theorem ixN_nat {n : Nat} {i : Int} (h0 : 0 ≤ i) (h1 : i < n) : ixN n i = some i.toNat := by
  unfold ixN
  rw [if_pos h0, if_pos h1]
section
variable {P : Program} {w : World} {K : PySem.W.Frag} {mg : Str → Option Value} {base : Heap} {a : Ad}
def m2 (b p : Addr) : Addr → Prop := fun x => x = b ∨ x = p
def sp__law_spoil_spots (K : PySem.W.Frag) : Sp := fun vs H Q _ => ∃ (F0 H0 F : Hp) (b p : Addr) (us : List V) (ds : List PyData) (n : Nat), vs = [.ref b, .ref p] ∧ Sb b F0 H0 F H ∧ Bag K b F H ∧ F p = none ∧ H0 p = none ∧ p ≠ b ∧ H p = some (.lst us) ∧ DpAll K F us ds ∧ OkDs n ds ∧ n ≤ 200 ∧
  ∀ F' H' us' ds', Sb b F0 H0 F' H' → Bag K b F' H' → Same F F' → (∀ x, x ≠ b → H x ≠ none → F x = none → F' x = none) → F' p = none → Kp (m2 b p) H H' → H' p = some (.lst us') → DpAll K F' us' ds' → OkDs (n + 1) ds' → Q (.ref p) H'
theorem c__law_spoil_spots (T : Txt K mg a) : Cl P w K mg base 3 "_law_spoil_spots" P__law_spoil_spots (sp__law_spoil_spots K) [] :=
  T.d__law_spoil_spots.cl sc__law_spoil_spots (fun vs H Q E h => by obtain ⟨F0, H0, F, b, p, us, ds, n, rfl, _⟩ := h; rfl) fun f cdv A outer s H vs Q E hr h => by
    obtain ⟨F0, H0, F, b, p, us, ds, n, rfl, s0, B0, fp, hp0, npb, hp, hd, od, n200, k⟩ := h
    refine ⟨_, ((pss_cons (ps_set (i := 2) sc__law_spoil_spots.nd rfl (Or.inl rfl) (pe_lst (pa_cons pe_non (pa_cons pe_int (pa_cons pe_str (pa_cons (pe_lst (pa_cons pe_str (pa_cons pe_int (pa_cons pe_int pa_nil)))) (pa_cons (pe_tup (pa_cons pe_str (pa_cons pe_int pa_nil))) (pa_cons (pe_tup (pa_cons pe_str (pa_cons pe_int (pa_cons pe_int (pa_cons pe_int pa_nil))))) (pa_cons (pe_tup (pa_cons pe_int (pa_cons pe_int (pa_cons pe_int pa_nil)))) (pa_cons (pe_tup (pa_cons pe_str (pa_cons pe_bl (pa_cons pe_int pa_nil)))) pa_nil))))))))))
 (pss_cons (ps_set (i := 2) sc__law_spoil_spots.nd rfl (Or.inl rfl) (pe_op op_cat (pv 2) (pe_lst (pa_cons (pe_tup (pa_cons pe_str (pa_cons pe_int (pa_cons pe_str pa_nil)))) (pa_cons (pe_tup (pa_cons pe_str (pa_cons pe_int (pa_cons pe_non pa_nil)))) (pa_cons (pe_tup (pa_cons pe_str (pa_cons pe_int (pa_cons pe_bl pa_nil)))) (pa_cons (pe_tup (pa_cons pe_str (pa_cons pe_int (pa_cons (pe_tup (pa_cons pe_int (pa_cons pe_int pa_nil))) pa_nil)))) (pa_cons (pe_tup (pa_cons pe_str (pa_cons pe_int (pa_cons pe_int pa_nil)))) (pa_cons (pe_tup (pa_cons pe_str (pa_cons pe_int (pa_cons pe_int pa_nil)))) pa_nil)))))))))
 (pss_cons (ps_set (i := 3) sc__law_spoil_spots.nd rfl (Or.inl rfl) (pe_f (c__law_pick T) (takes_of rfl rfl rfl rfl) hr (by decide) rfl (pa_cons (pv 0) (pa_cons pe_int pa_nil))))
 (pss_cons (ps_set (i := 4) sc__law_spoil_spots.nd rfl (Or.inl rfl) (pe_f (c__law_pick T) (takes_of rfl rfl rfl rfl) hr (by decide) rfl (pa_cons (pv 0) (pa_cons (pe_callB call_len_seq (by rfl) T.n_len (by decide +kernel) (pa_cons (pv 1) pa_nil)) pa_nil))))
 (pss_cons (ps_set (i := 5) sc__law_spoil_spots.nd rfl (Or.inl rfl) (pe_f (c__law_pick T) (takes_of rfl rfl rfl rfl) hr (by decide) rfl (pa_cons (pv 0) (pa_cons (pe_callB call_len_seq (by rfl) T.n_len (by decide +kernel) (pa_cons (pv 1) pa_nil)) pa_nil))))
 (pss_cons (ps_if (pt_cmpR op_eq (pv 3) pe_int (nomark _))
 (pss_one (ps_asg (pe_f (c__law_choice T) (takes_of rfl rfl rfl rfl) hr (by decide) rfl (pa_cons (pv 0) (pa_cons (pv 2) pa_nil))) (pg_sub (pv 1) (pv 4) set_list)))
 (pss_one (ps_if (pt_cmpR op_eq (pv 3) pe_int (nomark _))
 (pss_one (ps_asg (pe_ix ix_list (pv 1) (pv 5) (fun _ _ => rfl)) (pg_sub (pv 1) (pv 4) set_list)))
 (pss_one (ps_if (pt_cmpR op_eq (pv 3) pe_int (nomark _))
 (pss_cons (ps_set (i := 6) sc__law_spoil_spots.nd rfl (Or.inl rfl) (pe_ix ix_list (pv 1) (pv 4) (fun _ _ => rfl)))
 (pss_cons (ps_asg (pe_ix ix_list (pv 1) (pv 5) (fun _ _ => rfl)) (pg_sub (pv 1) (pv 4) set_list))
 (pss_one (ps_asg (pv 6) (pg_sub (pv 1) (pv 5) set_list)))))
 (pss_one (ps_expr (pe_bm PySem.F.plainAttrs_list PySem.F.slot_list_insert PySem.F.type_list_insert mt_insert (pv 1) (pa_cons (pv 4) (pa_cons (pe_ix ix_list (pv 1) (pv 5) (fun _ _ => rfl)) pa_nil))))))))))
 (pss_one (ps_ret (pv 1)))))))))), ?_⟩
    refine ⟨by show 3 ≤ sizeLine; decide, fun q1 h1 => ?_⟩
    obtain ⟨F1, H1, e1, s1, B1, g1, z1, al1⟩ := alloc_gd (n := 2) (o := .lst [.str "ground", .int 0, .int 0]) (d := .list [.str "ground", .int 0, .int 0]) (L := ([] : List V)) s0 B0 (fun x hx => nomatch hx) h1 (gd_list (n := 1) (gdc (gd_str (by decide +kernel)) (gdc gd_int (gdc gd_int gd0)))) (fun F' e h => .lst (SqL.of h) (.cons (.str _) (.cons (.int _) (.cons (.int _) .nil))))
    rw [e1]
    refine ⟨by show 2 ≤ sizeLine; decide, fun q2 h2 => ?_⟩
    obtain ⟨F2, H2, e2, s2, B2, g2, z2, al2⟩ := alloc_gd (n := 2) (o := .tup [.str "ground", .int 0]) (d := .tuple [.str "ground", .int 0]) (L := [.ref q1]) s1 B1 al1 h2 (gd_tup (n := 1) (gdc (gd_str (by decide +kernel)) (gdc gd_int gd0))) (fun F' e h => .tup (SqT.of h) (.cons (.str _) (.cons (.int _) .nil)))
    rw [e2]
    refine ⟨by show 4 ≤ sizeLine; decide, fun q3 h3 => ?_⟩
    obtain ⟨F3, H3, e3, s3, B3, g3, z3, al3⟩ := alloc_gd (n := 2) (o := .tup [.str "ground", .int 0, .int 0, .int 0]) (d := .tuple [.str "ground", .int 0, .int 0, .int 0]) (L := [.ref q2, .ref q1]) s2 B2 al2 h3 (gd_tup (n := 1) (gdc (gd_str (by decide +kernel)) (gdc gd_int (gdc gd_int (gdc gd_int gd0))))) (fun F' e h => .tup (SqT.of h) (.cons (.str _) (.cons (.int _) (.cons (.int _) (.cons (.int _) .nil)))))
    rw [e3]
    refine ⟨by show 3 ≤ sizeLine; decide, fun q4 h4 => ?_⟩
    obtain ⟨F4, H4, e4, s4, B4, g4, z4, al4⟩ := alloc_gd (n := 2) (o := .tup [.int 7, .int 0, .int 0]) (d := .tuple [.int 7, .int 0, .int 0]) (L := [.ref q3, .ref q2, .ref q1]) s3 B3 al3 h4 (gd_tup (n := 1) (gdc gd_int (gdc gd_int (gdc gd_int gd0)))) (fun F' e h => .tup (SqT.of h) (.cons (.int _) (.cons (.int _) (.cons (.int _) .nil))))
    rw [e4]
    refine ⟨by show 3 ≤ sizeLine; decide, fun q5 h5 => ?_⟩
    obtain ⟨F5, H5, e5, s5, B5, g5, z5, al5⟩ := alloc_gd (n := 2) (o := .tup [.str "a", .bl true, .int 0]) (d := .tuple [.str "a", .bool true, .int 0]) (L := [.ref q4, .ref q3, .ref q2, .ref q1]) s4 B4 al4 h5 (gd_tup (n := 1) (gdc (gd_str (by decide +kernel)) (gdc gd_bl (gdc gd_int gd0)))) (fun F' e h => .tup (SqT.of h) (.cons (.str _) (.cons (.bl _) (.cons (.int _) .nil))))
    rw [e5]
    refine ⟨by show 8 ≤ sizeLine; decide, fun q6 h6 => ?_⟩
    obtain ⟨F6, H6, e6, s6, B6, g6, z6, al6⟩ := alloc_l (n := 2) (o := .lst [.non, .int 7, .str "ground", .ref q1, .ref q2, .ref q3, .ref q4, .ref q5]) s5 B5 al5 h6
    rw [e6]
    refine gn ?_
    try dsimp only
    refine ⟨_, rfl, ?_⟩
    refine ⟨by show 3 ≤ sizeLine; decide, fun q7 h7 => ?_⟩
    obtain ⟨F7, H7, e7, s7, B7, g7, z7, al7⟩ := alloc_gd (n := 2) (o := .tup [.str "a", .int 0, .str "0"]) (d := .tuple [.str "a", .int 0, .str "0"]) (L := [.ref q5, .ref q4, .ref q3, .ref q2, .ref q1]) s6 B6 al6 h7 (gd_tup (n := 1) (gdc (gd_str (by decide +kernel)) (gdc gd_int (gdc (gd_str (by decide +kernel)) gd0)))) (fun F' e h => .tup (SqT.of h) (.cons (.str _) (.cons (.int _) (.cons (.str _) .nil))))
    rw [e7]
    refine ⟨by show 3 ≤ sizeLine; decide, fun q8 h8 => ?_⟩
    obtain ⟨F8, H8, e8, s8, B8, g8, z8, al8⟩ := alloc_gd (n := 2) (o := .tup [.str "a", .int 0, .non]) (d := .tuple [.str "a", .int 0, .none]) (L := [.ref q7, .ref q5, .ref q4, .ref q3, .ref q2, .ref q1]) s7 B7 al7 h8 (gd_tup (n := 1) (gdc (gd_str (by decide +kernel)) (gdc gd_int (gdc gd_non gd0)))) (fun F' e h => .tup (SqT.of h) (.cons (.str _) (.cons (.int _) (.cons .non .nil))))
    rw [e8]
    refine ⟨by show 3 ≤ sizeLine; decide, fun q9 h9 => ?_⟩
    obtain ⟨F9, H9, e9, s9, B9, g9, z9, al9⟩ := alloc_gd (n := 2) (o := .tup [.str "ground", .int 0, .bl false]) (d := .tuple [.str "ground", .int 0, .bool false]) (L := [.ref q8, .ref q7, .ref q5, .ref q4, .ref q3, .ref q2, .ref q1]) s8 B8 al8 h9 (gd_tup (n := 1) (gdc (gd_str (by decide +kernel)) (gdc gd_int (gdc gd_bl gd0)))) (fun F' e h => .tup (SqT.of h) (.cons (.str _) (.cons (.int _) (.cons (.bl _) .nil))))
    rw [e9]
    refine ⟨by show 2 ≤ sizeLine; decide, fun q10 h10 => ?_⟩
    obtain ⟨F10, H10, e10, s10, B10, g10, z10, al10⟩ := alloc_gd (n := 2) (o := .tup [.int 0, .int 1]) (d := .tuple [.int 0, .int 1]) (L := [.ref q9, .ref q8, .ref q7, .ref q5, .ref q4, .ref q3, .ref q2, .ref q1]) s9 B9 al9 h10 (gd_tup (n := 1) (gdc gd_int (gdc gd_int gd0))) (fun F' e h => .tup (SqT.of h) (.cons (.int _) (.cons (.int _) .nil)))
    rw [e10]
    refine ⟨by show 3 ≤ sizeLine; decide, fun q11 h11 => ?_⟩
    obtain ⟨F11, H11, e11, s11, B11, g11, z11, al11⟩ := alloc_gd (n := 2) (o := .tup [.str "", .int 0, .ref q10]) (d := .tuple [.str "", .int 0, .tuple [.int 0, .int 1]]) (L := [.ref q10, .ref q9, .ref q8, .ref q7, .ref q5, .ref q4, .ref q3, .ref q2, .ref q1]) s10 B10 al10 h11 (gd_tup (n := 1) (gdc (gd_str (by decide +kernel)) (gdc gd_int (gdc (gd_tup (n := 0) (gdc gd_int (gdc gd_int gd0))) gd0)))) (fun F' e h => .tup (SqT.of h) (.cons (.str _) (.cons (.int _) (.cons (dp_up e (.tup (SqT.of z10) (.cons (.int _) (.cons (.int _) .nil)))) .nil))))
    rw [e11]
    refine ⟨by show 3 ≤ sizeLine; decide, fun q12 h12 => ?_⟩
    obtain ⟨F12, H12, e12, s12, B12, g12, z12, al12⟩ := alloc_gd (n := 2) (o := .tup [.str "ground", .int 0, .int 1]) (d := .tuple [.str "ground", .int 0, .int 1]) (L := [.ref q11, .ref q10, .ref q9, .ref q8, .ref q7, .ref q5, .ref q4, .ref q3, .ref q2, .ref q1]) s11 B11 al11 h12 (gd_tup (n := 1) (gdc (gd_str (by decide +kernel)) (gdc gd_int (gdc gd_int gd0)))) (fun F' e h => .tup (SqT.of h) (.cons (.str _) (.cons (.int _) (.cons (.int _) .nil))))
    rw [e12]
    refine ⟨by show 3 ≤ sizeLine; decide, fun q13 h13 => ?_⟩
    obtain ⟨F13, H13, e13, s13, B13, g13, z13, al13⟩ := alloc_gd (n := 2) (o := .tup [.str "b", .int 0, .int 0]) (d := .tuple [.str "b", .int 0, .int 0]) (L := [.ref q12, .ref q11, .ref q10, .ref q9, .ref q8, .ref q7, .ref q5, .ref q4, .ref q3, .ref q2, .ref q1]) s12 B12 al12 h13 (gd_tup (n := 1) (gdc (gd_str (by decide +kernel)) (gdc gd_int (gdc gd_int gd0)))) (fun F' e h => .tup (SqT.of h) (.cons (.str _) (.cons (.int _) (.cons (.int _) .nil))))
    rw [e13]
    refine ⟨by show 6 ≤ sizeLine; decide, fun q14 h14 => ?_⟩
    obtain ⟨F14, H14, e14, s14, B14, g14, z14, al14⟩ := alloc_l (n := 2) (o := .lst [.ref q7, .ref q8, .ref q9, .ref q11, .ref q12, .ref q13]) s13 B13 al13 h14
    rw [e14]
    have z6' : H14 q6 = some (.lst [.non, .int 7, .str "ground", .ref q1, .ref q2, .ref q3, .ref q4, .ref q5]) := s14.fh _ _ (g14.ff _ _ (g13.ff _ _ (g12.ff _ _ (g11.ff _ _ (g10.ff _ _ (g9.ff _ _ (g8.ff _ _ (g7.ff _ _ z6))))))))
    refine ⟨q6, q14, _, _, rfl, rfl, z6', s14.fh _ _ z14, by show 8 + 6 ≤ sizeLine; decide, fun q15 h15 => ?_⟩
    obtain ⟨F15, H15, e15, s15, B15, g15, z15, al15⟩ := alloc_l (n := 2) (o := .lst ([.non, .int 7, .str "ground", .ref q1, .ref q2, .ref q3, .ref q4, .ref q5] ++ [.ref q7, .ref q8, .ref q9, .ref q11, .ref q12, .ref q13])) s14 B14 al14 h15
    rw [e15]
    refine gn ?_
    try dsimp only
    have odds : ∀ x ∈ ([.non, .int 7, .str "ground", .ref q1, .ref q2, .ref q3, .ref q4, .ref q5] ++ [.ref q7, .ref q8, .ref q9, .ref q11, .ref q12, .ref q13] : List V), GdV K 2 F15 x := fun x hx => by
      simp only [List.mem_append, List.mem_cons, List.not_mem_nil, or_false] at hx
      rcases hx with (rfl | rfl | rfl | rfl | rfl | rfl | rfl | rfl) | rfl | rfl | rfl | rfl | rfl | rfl
      · exact ⟨_, gd_non, .non⟩
      · exact ⟨_, gd_int, .int _⟩
      · exact ⟨_, gd_str (by decide +kernel), .str _⟩
      all_goals exact al15 _ (by simp)
    have g015 : Gw b F H F15 H15 := g1.trans (g2.trans (g3.trans (g4.trans (g5.trans (g6.trans (g7.trans (g8.trans (g9.trans (g10.trans (g11.trans (g12.trans (g13.trans (g14.trans g15)))))))))))))
    have odl : ([.non, .int 7, .str "ground", .ref q1, .ref q2, .ref q3, .ref q4, .ref q5] ++ [.ref q7, .ref q8, .ref q9, .ref q11, .ref q12, .ref q13] : List V).length = 14 := rfl
    generalize ([.non, .int 7, .str "ground", .ref q1, .ref q2, .ref q3, .ref q4, .ref q5] ++ [.ref q7, .ref q8, .ref q9, .ref q11, .ref q12, .ref q13] : List V) = oxs at z15 odds odl
    have hp15 : H15 p = some (.lst us) := g015.kp p _ npb hp
    have f15 : F15 p = none := g015.nw p npb (by rw [hp]; exact fun z => nomatch z) fp
    have ul := dpAll_len hd
    have ne := od.ne
    have pos : 0 < ds.length := List.length_pos_iff.mpr ne
    have le := od.le
    refine ⟨_, rfl, F15, b, 4, rfl, B15, s15.fh, by decide, sz_of 3 (by decide) (by decide), fun H16 wy s16 B16 w0 w1 => ?_⟩
    refine gn ?_
    try dsimp only
    have hp16 := s16.hh p _ npb hp15
    refine ⟨_, rfl, _, rfl, p, us, rfl, .inl (SqL.of hp16), F15, b, _, rfl, B16, s16.fh, by omega, sz_len (by omega), fun H17 x s17 B17 x0 x1 => ?_⟩
    refine gn ?_
    try dsimp only
    have hp17 := s17.hh p _ npb hp16
    refine ⟨_, rfl, _, rfl, p, us, rfl, .inl (SqL.of hp17), F15, b, _, rfl, B17, s17.fh, by omega, sz_len (by omega), fun H18 y s18 B18 y0 y1 => ?_⟩
    refine gn ?_
    try dsimp only
    have hp18 := s18.hh p _ npb hp17
    have s1518 : Sb b F15 H15 F15 H18 := seqB (seqB s16 B16 s17) B17 s18
    have t18 := seqB s15 B15 s1518
    have g018 := g015.trans (.sb s1518)
    have hd18 := dpAll_up g015.ff hd
    have kp2 : Kp (m2 b p) H H18 := fun z u n e => g018.kp z u (fun h => n (.inl h)) e
    have xl : x.toNat < us.length := by omega
    have yl : y.toNat < us.length := by omega
    obtain ⟨vx, hvx⟩ : ∃ v, us[x.toNat]? = some v := ⟨_, List.getElem?_eq_getElem xl⟩
    obtain ⟨vy, hvy⟩ : ∃ v, us[y.toNat]? = some v := ⟨_, List.getElem?_eq_getElem yl⟩
    obtain ⟨dx, hdx, px⟩ := dpAll_get hd18 hvx
    obtain ⟨dy, hdy, py⟩ := dpAll_get hd18 hvy
    have gx := od.gd dx (List.mem_of_getElem? hdx)
    have gy := od.gd dy (List.mem_of_getElem? hdy)
    have ax : atI us x = some vx := atI_int x0 (by omega) hvx
    have ay : atI us y = some vy := atI_int y0 (by omega) hvy
    have out : ∀ {H2 : Hp} {us' : List V} {ds' : List PyData}, Sb b F0 H0 F15 H2 → Bag K b F15 H2 → Kp (m2 b p) H H2 → DpAll K F15 us' ds' → OkDs (n + 1) ds' → Q (.ref p) (upd H2 p (.lst us')) := fun {H2 us' ds'} s B kp hd' ok' => by
      obtain ⟨t, B'⟩ := mutB (o := .lst us') s B f15 hp0 npb
      exact k F15 _ us' ds' t B' g015.ff g015.nw f15 (kp.mut (.inr rfl)) upd_same hd' ok'
    refine seq_with (fun σ' H' => ∃ c1 c6, σ' = [some (.ref b), some (.ref p), c1, some (.int wy), some (.int x), some (.int y), c6] ∧ Q (.ref p) H') (fun U hU => ?_) ?_
    · refine ⟨_, rfl, rfl, _, rfl, ite2 (fun _ => ?_) (fun _ => ?_)⟩
      · refine ⟨_, rfl, _, rfl, F15, b, _, oxs, rfl, .inl ⟨q15, rfl, SqL.of z15⟩, fun e => (by rw [e] at odl; cases odl), by omega, B18, t18.fh, fun H19 v i s19 B19 hv => ?_⟩
        obtain ⟨dv, gv, pv⟩ := odds v (List.mem_of_getElem? hv)
        dsimp only [gSub]
        refine ⟨_, rfl, _, rfl, p, us, x, x.toNat, rfl, rfl, s19.hh p _ npb hp18, ixN_nat x0 (by omega), ?_⟩
        exact hU _ _ ⟨_, _, rfl, out (seqB t18 B18 s19) B19 (kp2.sb (.inl rfl) s19) (dpAll_set hd18 pv) (od.set gv)⟩
      refine ⟨_, rfl, rfl, _, rfl, ite2 (fun _ => ?_) (fun _ => ?_)⟩
      · refine ⟨_, rfl, _, rfl, p, us, _, _, rfl, rfl, SqL.of hp18, ay, ?_⟩
        dsimp only [gSub]
        refine ⟨_, rfl, _, rfl, p, us, x, x.toNat, rfl, rfl, hp18, ixN_nat x0 (by omega), ?_⟩
        exact hU _ _ ⟨_, _, rfl, out t18 B18 kp2 (dpAll_set hd18 py) (od.set gy)⟩
      refine ⟨_, rfl, rfl, _, rfl, ite2 (fun _ => ?_) (fun _ => ?_)⟩
      · refine ⟨_, rfl, _, rfl, p, us, _, _, rfl, rfl, SqL.of hp18, ax, ?_⟩
        refine gn ?_
        try dsimp only
        refine ⟨_, rfl, _, rfl, p, us, _, _, rfl, rfl, SqL.of hp18, ay, ?_⟩
        dsimp only [gSub]
        refine ⟨_, rfl, _, rfl, p, us, x, x.toNat, rfl, rfl, hp18, ixN_nat x0 (by omega), ?_⟩
        refine ⟨_, rfl, ?_⟩
        refine ⟨_, rfl, _, rfl, p, us.set x.toNat vy, y, y.toNat, rfl, rfl, upd_same, ixN_nat y0 (by rw [List.length_set]; omega), ?_⟩
        obtain ⟨t19, B19⟩ := mutB (o := .lst (us.set x.toNat vy)) t18 B18 f15 hp0 npb
        exact hU _ _ ⟨_, _, rfl, out t19 B19 (kp2.mut (.inr rfl)) (dpAll_set (dpAll_set hd18 py) px) ((od.set0 gy).set gx)⟩
      · refine ⟨_, rfl, .inl ⟨rfl, _, SqL.of hp18⟩, _, rfl, _, rfl, _, rfl, p, us, _, _, rfl, rfl, SqL.of hp18, ay, p, us, x, _, rfl, rfl, hp18, by rw [sizeLine_eq]; omega, x0, by omega, ?_⟩
        exact hU _ _ ⟨_, _, rfl, out t18 B18 kp2 (dpAll_app (dpAll_app (dpAll_take _ hd18) (.cons py .nil)) (dpAll_drop _ hd18)) (od.ins gy)⟩
    rintro _ H2 ⟨c1, c6, rfl, kk⟩
    exact ⟨_, rfl, kk⟩
end
end K49

set_option Elab.async false
set_option linter.all false
set_option maxRecDepth 100000
set_option maxHeartbeats 4000000
namespace K49
open PySem PySem.Spec PyProof.Rows L2 Ew
section
variable {α β : Type} {R : α → β → Prop}
theorem prd_take : ∀ {xs : List α} {ys : List β} (i : Nat), Paired R xs ys → Paired R (xs.take i) (ys.take i)
  | _, _, 0, _ => .nil
  | _, _, _ + 1, .nil => .nil
  | _, _, i + 1, .cons h t => .cons h (prd_take i t)
theorem prd_drop : ∀ {xs : List α} {ys : List β} (i : Nat), Paired R xs ys → Paired R (xs.drop i) (ys.drop i)
  | _, _, 0, h => h
  | _, _, _ + 1, .nil => .nil
  | _, _, i + 1, .cons _ t => prd_drop i t
theorem prd_app : ∀ {xs us : List α} {ys vs : List β}, Paired R xs ys → Paired R us vs → Paired R (xs ++ us) (ys ++ vs)
  | _, _, _, _, .nil, k => k
  | _, _, _, _, .cons h t, k => .cons h (prd_app t k)
theorem prd_at : ∀ {xs : List α} {ys : List β} {i : Nat} {x : α}, Paired R xs ys → xs[i]? = some x → ∃ y, ys[i]? = some y ∧ R x y
  | _, _, _, _, .nil, h => by simp at h
  | _, _, 0, _, .cons h _, e => by cases e; exact ⟨_, rfl, h⟩
  | _, _, i + 1, _, .cons _ t, e => prd_at (i := i) t e
theorem prd_imp {S : α → β → Prop} : ∀ {xs : List α} {ys : List β}, Paired R xs ys → (∀ x y, x ∈ xs → R x y → S x y) → Paired S xs ys
  | _, _, .nil, _ => .nil
  | _, _, .cons h t, k => .cons (k _ _ List.mem_cons_self h) (prd_imp t fun x y hx => k x y (List.mem_cons_of_mem _ hx))
/-- one place of both is another one -/
theorem prd_set {S : α → β → Prop} : ∀ {xs : List α} {ys : List β} {i : Nat} {x : α} {y : β}, Paired R xs ys → xs.Nodup → (∀ z w, z ∈ xs → xs[i]? ≠ some z → R z w → S z w) → S x y → Paired S (xs.set i x) (ys.set i y)
  | _, _, _, _, _, .nil, _, _, _ => .nil
  | a :: xs, _, 0, _, _, .cons h t, nd, k, hs => .cons hs (prd_imp t fun z w hz r => k z w (List.mem_cons_of_mem _ hz) (fun e => by
      cases e
      exact (List.nodup_cons.mp nd).1 hz) r)
  | a :: xs, _, i + 1, _, _, .cons h t, nd, k, hs => .cons (k _ _ List.mem_cons_self (fun e => by
      have e : xs[i]? = some a := e
      exact (List.nodup_cons.mp nd).1 (List.mem_of_getElem? e)) h) (prd_set (i := i) t (List.nodup_cons.mp nd).2 (fun z w hz e r => k z w (List.mem_cons_of_mem _ hz) e r) hs)
end
/-- a list that the law may still write -/
def RowQ (K : PySem.W.Frag) (H0 F H : Hp) (q : Addr) (R : List PyData) : Prop := F q = none ∧ H0 q = none ∧ ∃ xs, H q = some (.lst xs) ∧ DpAll K F xs R
structure RawD (K : PySem.W.Frag) (b : Addr) (H0 F H : Hp) (r : Addr) (qs : List Addr) (Rs : List (List PyData)) : Prop where
  at_ : H r = some (.lst (qs.map V.ref))
  nd : (r :: qs).Nodup
  nb : ∀ x ∈ r :: qs, x ≠ b
  fr : F r = none
  r0 : H0 r = none
  rows : Paired (RowQ K H0 F H) qs Rs
structure OkRs (n : Nat) (Rs : List (List PyData)) : Prop where
  le : Rs.length ≤ n
  gd : ∀ R ∈ Rs, R.length ≤ n ∧ ∀ d ∈ R, Gd 1 d
theorem OkRs.up {n m : Nat} {Rs : List (List PyData)} (h : OkRs n Rs) (k : n ≤ m) : OkRs m Rs := ⟨Nat.le_trans h.le k, fun R hR => ⟨Nat.le_trans (h.gd R hR).1 k, (h.gd R hR).2⟩⟩
theorem OkRs.set {n i : Nat} {Rs : List (List PyData)} (h : OkRs n Rs) {R : List PyData} (k : R.length ≤ n + 1) (g : ∀ d ∈ R, Gd 1 d) : OkRs (n + 1) (Rs.set i R) := ⟨by rw [List.length_set]; have := h.le; omega, fun S hS => by
  rcases List.mem_or_eq_of_mem_set hS with hS | rfl
  · exact ⟨Nat.le_succ_of_le (h.gd S hS).1, (h.gd S hS).2⟩
  · exact ⟨k, g⟩⟩
def m3 (b r : Addr) (qs : List Addr) : Addr → Prop := fun x => x = b ∨ x ∈ r :: qs
section
variable {K : PySem.W.Frag} {b : Addr} {F0 H0 F H F' H' F2 H2 : Hp} {q p r l : Addr} {qs : List Addr} {Rs : List (List PyData)} {R : List PyData} {xs : List V} {i n : Nat}
theorem RawD.there (h : RawD K b H0 F H r qs Rs) : ∀ x ∈ r :: qs, ∃ ys, H x = some (.lst ys) := fun x hx => by
  rcases List.mem_cons.mp hx with rfl | hx
  · exact ⟨_, h.at_⟩
  · obtain ⟨i, hi⟩ := List.mem_iff_getElem?.mp hx
    obtain ⟨R, _, _, _, ys, z, _⟩ := prd_at h.rows hi
    exact ⟨ys, z⟩
theorem RawD.gw (h : RawD K b H0 F H r qs Rs) (g : Gw b F H F' H') : RawD K b H0 F' H' r qs Rs where
  at_ := g.kp r _ (h.nb r List.mem_cons_self) h.at_
  nd := h.nd
  nb := h.nb
  fr := g.nw r (h.nb r List.mem_cons_self) (by rw [h.at_]; exact fun z => nomatch z) h.fr
  r0 := h.r0
  rows := prd_imp h.rows fun q R hq z => by
    obtain ⟨z1, z2, xs, z3, z4⟩ := z
    have nb := h.nb q (List.mem_cons_of_mem _ hq)
    exact ⟨g.nw q nb (by rw [z3]; exact fun z => nomatch z) z1, z2, xs, g.kp q _ nb z3, dpAll_up g.ff z4⟩
theorem RowQ.ne {o : HO} (h : RowQ K H0 F H q R) (n : q ≠ p) : RowQ K H0 F (upd H p o) q R := by
  obtain ⟨z1, z2, xs, z3, z4⟩ := h
  exact ⟨z1, z2, xs, by rw [upd_ne n]; exact z3, z4⟩
/-- a row written -/
theorem RawD.mut (h : RawD K b H0 F H r qs Rs) (hq : qs[i]? = some q) (d : DpAll K F xs R) : RawD K b H0 F (upd H q (.lst xs)) r qs (Rs.set i R) where
  at_ := by
    rw [upd_ne (fun z => (List.nodup_cons.mp h.nd).1 (by rw [z]; exact List.mem_of_getElem? hq))]
    exact h.at_
  nd := h.nd
  nb := h.nb
  fr := h.fr
  r0 := h.r0
  rows := by
    obtain ⟨R0, _, z1, z2, _⟩ := prd_at h.rows hq
    have := prd_set (x := q) (y := R) (i := i) (S := RowQ K H0 F (upd H q (.lst xs))) h.rows (List.nodup_cons.mp h.nd).2 (fun z w _ ne k => k.ne fun e => ne (by rw [e]; exact hq)) ⟨z1, z2, xs, upd_same, d⟩
    have e : qs.set i q = qs := by
      refine List.ext_getElem? fun j => ?_
      rw [List.getElem?_set]
      split
      · rename_i e
        subst e
        split
        · exact hq.symm
        · rw [List.getElem?_eq_none (by omega)]
      · rfl
    rwa [e] at this
/-- another row in its place -/
theorem RawD.sett (h : RawD K b H0 F H r qs Rs) (lr : l ≠ r) (lq : l ∉ qs) (lb : l ≠ b) (fl : F l = none) (l0 : H0 l = none) (hl : H l = some (.lst xs)) (d : DpAll K F xs R) (hi : i < qs.length) : RawD K b H0 F (upd H r (.lst ((qs.set i l).map V.ref))) r (qs.set i l) (Rs.set i R) where
  at_ := upd_same
  nd := by
    obtain ⟨n1, n2⟩ := List.nodup_cons.mp h.nd
    rw [List.nodup_cons]
    refine ⟨fun m => ?_, ?_⟩
    · rcases List.mem_or_eq_of_mem_set m with m | m
      · exact n1 m
      · exact lr m.symm
    · rw [List.nodup_iff_pairwise_ne, List.pairwise_iff_getElem]
      intro x y hx hy hxy
      rw [List.length_set] at hx hy
      rw [List.getElem_set, List.getElem_set]
      have ne := List.pairwise_iff_getElem.mp (List.nodup_iff_pairwise_ne.mp n2) x y hx hy hxy
      split
      · rw [if_neg (by omega)]
        exact fun z => lq (by rw [z]; exact List.getElem_mem hy)
      · split
        · exact fun z => lq (by rw [← z]; exact List.getElem_mem hx)
        · exact ne
  nb := fun x hx => by
    rcases List.mem_cons.mp hx with rfl | hx
    · exact h.nb x List.mem_cons_self
    · rcases List.mem_or_eq_of_mem_set hx with hx | rfl
      · exact h.nb x (List.mem_cons_of_mem _ hx)
      · exact lb
  fr := h.fr
  r0 := h.r0
  rows := prd_set h.rows (List.nodup_cons.mp h.nd).2 (fun z w hz _ k => k.ne fun e => (List.nodup_cons.mp h.nd).1 (by rw [← e]; exact hz)) ⟨fl, l0, xs, by rw [upd_ne lr]; exact hl, d⟩
/-- other rows, all in a list of their own -/
theorem RawD.other (h : RawD K b H0 F H r qs Rs) {r' : Addr} {qs' : List Addr} {Rs' : List (List PyData)} (hr : H r' = none) (fr : F r' = none) (r0 : H0 r' = none) (rb : r' ≠ b) (nd : qs'.Nodup) (nb : ∀ x ∈ qs', x ≠ b) (rows : Paired (RowQ K H0 F H) qs' Rs') : RawD K b H0 F (upd H r' (.lst (qs'.map V.ref))) r' qs' Rs' where
  at_ := upd_same
  nd := by
    refine List.nodup_cons.mpr ⟨fun m => ?_, nd⟩
    obtain ⟨i, hi⟩ := List.mem_iff_getElem?.mp m
    obtain ⟨R, _, _, _, ys, z, _⟩ := prd_at rows hi
    rw [hr] at z
    cases z
  nb := fun x hx => by
    rcases List.mem_cons.mp hx with rfl | hx
    · exact rb
    · exact nb x hx
  fr := fr
  r0 := r0
  rows := prd_imp rows fun q R hq z => z.ne fun e => by
    obtain ⟨_, _, ys, z, _⟩ := z
    rw [e, hr] at z
    cases z
theorem RawD.ro (h : RawD K b H0 F H r qs Rs) (e : Same F H) : RoD K false H (.ref r) Rs := ⟨r, _, rfl, SqL.of h.at_, by rw [List.length_map, Paired.length h.rows], fun i u R h1 h2 => by
  rw [List.getElem?_map] at h1
  obtain ⟨q, h3, rfl⟩ := Option.map_eq_some_iff.mp h1
  obtain ⟨R', h4, _, _, xs, h5, h6⟩ := prd_at h.rows h3
  rw [h2] at h4
  cases h4
  exact ⟨q, rfl, xs, SqL.of h5, dpAll_up e h6⟩⟩
end
theorem cut_last (xs : List V) : cutV xs none (some (-1)) = xs.take (xs.length - 1) := by
  unfold cutV
  have e1 : HT.sIx xs.length 0 none = 0 := rfl
  have e2 : HT.sIx xs.length xs.length (some (-1)) = xs.length - 1 := by
    show (if (-1 : Int) < 0 then ((-1 : Int) + (xs.length : Int)).toNat else min (-1 : Int).toNat xs.length) = _
    rw [if_pos (by decide)]
    omega
  rw [e1, e2, List.drop_zero, Nat.sub_zero]
section
variable {K : PySem.W.Frag} {H : Hp}
theorem ro_dp : ∀ {us : List V} {Rs : List (List PyData)}, us.length = Rs.length → (∀ (i : Nat) u R, us[i]? = some u → Rs[i]? = some R → ∃ q, u = V.ref q ∧ Its K false H q R) → DpAll K H us (Rs.map PyData.list)
  | [], [], _, _ => .nil
  | [], _ :: _, h, _ => by simp at h
  | _ :: _, [], h, _ => by simp at h
  | u :: us, R :: Rs, h, k => by
    obtain ⟨q, rfl, xs, h1, h2⟩ := k 0 u R rfl rfl
    exact .cons (.lst h1 h2) (ro_dp (by simpa using h) fun i u R h1 h2 => k (i + 1) u R h1 h2)
theorem RoD.dp {p : Addr} {Rs : List (List PyData)} (h : RoD K false H (.ref p) Rs) : Dp K H (.ref p) (.list (Rs.map .list)) := by
  obtain ⟨_, us, er, h1, h2, h3⟩ := h
  cases er
  exact .lst h1 (ro_dp h2 h3)
end
theorem OkRs.gdl {n : Nat} {Rs : List (List PyData)} (h : OkRs n Rs) : Gd 3 (.list (Rs.map PyData.list)) := gd_list fun d hd => by
  obtain ⟨R, hR, rfl⟩ := List.mem_map.mp hd
  exact gd_list (h.gd R hR).2
end K49

set_option Elab.async false
set_option linter.all false
set_option maxRecDepth 100000
set_option maxHeartbeats 4000000
namespace K49
open PySem PySem.Spec PyProof.Rows L2 Ew
section
variable {K : PySem.W.Frag} {b : Addr} {F0 H0 F H F' H' : Hp} {l : Addr} {o : HO}
theorem Gw.fresh {x : Addr} (g : Gw b F H F' H') (n : x ≠ b) (h : H' x = none) : H x = none := by
  cases c : H x with
  | none => rfl
  | some u => rw [g.kp x u n c] at h; cases h
theorem Gw.raw (hq : H l = none) : Gw b F H F (upd H l o) := ⟨.refl _, Kp.new .refl hq, fun _ _ _ h => h⟩
/-- a list that may be written -/
theorem raw1 (s : Sb b F0 H0 F H) (B : Bag K b F H) (hl : H l = none) : Sb b F0 H0 F (upd H l o) ∧ Bag K b F (upd H l o) ∧ l ≠ b ∧ H0 l = none ∧ F l = none ∧ Gw b F H F (upd H l o) := by
  obtain ⟨s', B'⟩ := rawB (o := o) s B hl
  exact ⟨s', B', fun z => (memB K b).there B z hl, s.fresh (fun x z => (memB K b).there B z) hl, s.fh.free hl, .raw hl⟩
theorem cut_toI (xs : List V) {x : Int} (h : 0 ≤ x) : cutV xs none (some x) = xs.take x.toNat := by
  obtain ⟨n, rfl⟩ : ∃ n : Nat, x = n := ⟨x.toNat, by omega⟩
  exact cut_to xs n
theorem cut_fromI (xs : List V) {x : Int} (h : 0 ≤ x) (k : x.toNat ≤ xs.length) : cutV xs (some x) none = xs.drop x.toNat := by
  obtain ⟨n, rfl⟩ : ∃ n : Nat, x = n := ⟨x.toNat, by omega⟩
  exact cut_from xs k
theorem kp_m3 {r : Addr} {qs : List Addr} (g : Gw b F H F' H') : Kp (m3 b r qs) H H' := fun x u n e => g.kp x u (fun z => n (.inl z)) e
end
section
variable {P : Program} {w : World} {K : PySem.W.Frag} {mg : Str → Option Value} {base : Heap} {a : Ad}
def sp__law_spoil_rows (K : PySem.W.Frag) : Sp := fun vs H Q _ => ∃ (F0 H0 F : Hp) (b r : Addr) (qs : List Addr) (Rs : List (List PyData)) (n : Nat), vs = [.ref b, .ref r] ∧ Sb b F0 H0 F H ∧ Bag K b F H ∧ RawD K b H0 F H r qs Rs ∧ OkRs n Rs ∧ n ≤ 200 ∧
  ∀ F' H' r' qs' Rs', Sb b F0 H0 F' H' → Bag K b F' H' → Same F F' → (∀ x, x ≠ b → H x ≠ none → F x = none → F' x = none) → Kp (m3 b r qs) H H' → RawD K b H0 F' H' r' qs' Rs' → OkRs (n + 1) Rs' → (∀ x ∈ r' :: qs', x ∈ r :: qs ∨ H x = none) → Q (.ref r') H'
theorem c__law_spoil_rows (T : Txt K mg a) : Cl P w K mg base 3 "_law_spoil_rows" P__law_spoil_rows (sp__law_spoil_rows K) [] :=
  T.d__law_spoil_rows.cl sc__law_spoil_rows (fun vs H Q E h => by obtain ⟨F0, H0, F, b, r, qs, Rs, n, rfl, _⟩ := h; rfl) fun f cdv A outer s H vs Q E hr h => by
    obtain ⟨F0, H0, F, b, r, qs, Rs, n, rfl, s0, B0, rd, ok, n200, k⟩ := h
    refine ⟨_, ((pss_cons (ps_set (i := 2) sc__law_spoil_rows.nd rfl (Or.inl rfl) (pe_lst (pa_cons pe_non (pa_cons pe_bl (pa_cons pe_bl (pa_cons pe_str (pa_cons (pe_tup (pa_cons pe_int (pa_cons pe_int pa_nil))) (pa_cons (pe_lst (pa_cons pe_int pa_nil)) pa_nil))))))))
 (pss_cons (ps_set (i := 3) sc__law_spoil_rows.nd rfl (Or.inl rfl) (pe_f (c__law_pick T) (takes_of rfl rfl rfl rfl) hr (by decide) rfl (pa_cons (pv 0) (pa_cons pe_int pa_nil))))
 (pss_cons (ps_if (pt_cmpR (op_eqD hr.units) (pv 1) (pe_lst pa_nil) (nomark _))
 (pss_one (ps_ret (pe_lst (pa_cons (pe_lst (pa_cons pe_int pa_nil)) pa_nil))))
 pss_nil)
 (pss_cons (ps_set (i := 4) sc__law_spoil_rows.nd rfl (Or.inl rfl) (pe_f (c__law_pick T) (takes_of rfl rfl rfl rfl) hr (by decide) rfl (pa_cons (pv 0) (pa_cons (pe_callB call_len_seq (by rfl) T.n_len (by decide +kernel) (pa_cons (pv 1) pa_nil)) pa_nil))))
 (pss_cons (ps_set (i := 5) sc__law_spoil_rows.nd rfl (Or.inl rfl) (pe_ix ix_list (pv 1) (pv 4) (fun _ _ => rfl)))
 (pss_cons (ps_if (pt_cmpR op_eq (pv 3) pe_int (nomark _))
 (pss_one (ps_asg (pe_slice sl_list (pv 5) po_none (po_some (pe_un un_neg pe_int))) (pg_sub (pv 1) (pv 4) set_list)))
 (pss_one (ps_if (pt_cmpR op_eq (pv 3) pe_int (nomark _))
 (pss_one (ps_asg (pe_op op_cat (pv 5) (pe_lst (pa_cons pe_int pa_nil))) (pg_sub (pv 1) (pv 4) set_list)))
 (pss_one (ps_if (PW.pt (pw_and (pt_cmpR op_eq (pv 3) pe_int (nomark _)) (pw_and1 (pt_cmpR (op_neD hr.units) (pv 5) (pe_lst pa_nil) (nomark _)))))
 (pss_cons (ps_set (i := 6) sc__law_spoil_rows.nd rfl (Or.inl rfl) (pe_f (c__law_pick T) (takes_of rfl rfl rfl rfl) hr (by decide) rfl (pa_cons (pv 0) (pa_cons (pe_callB call_len_seq (by rfl) T.n_len (by decide +kernel) (pa_cons (pv 5) pa_nil)) pa_nil))))
 (pss_one (ps_asg (pe_f (c__law_choice T) (takes_of rfl rfl rfl rfl) hr (by decide) rfl (pa_cons (pv 0) (pa_cons (pv 2) pa_nil))) (pg_sub (pv 5) (pv 6) set_list))))
 (pss_one (ps_if (PW.pt (pw_and (pt_cmpR op_eq (pv 3) pe_int (nomark _)) (pw_and1 (pt_cmpR op_gt (pe_callB call_len_seq (by rfl) T.n_len (by decide +kernel) (pa_cons (pv 5) pa_nil)) (pv 4) (nomark _)))))
 (pss_one (ps_asg (pe_f (c__law_choice T) (takes_of rfl rfl rfl rfl) hr (by decide) rfl (pa_cons (pv 0) (pa_cons (pe_lst (pa_cons pe_int (pa_cons (pe_un un_neg pe_int) (pa_cons (pe_op op_pow pe_int pe_int) pa_nil)))) pa_nil))) (pg_sub (pv 5) (pv 4) set_list)))
 (pss_one (ps_if (pt_cmpR op_eq (pv 3) pe_int (nomark _))
 (pss_one (ps_set (i := 1) sc__law_spoil_rows.nd rfl (Or.inl rfl) (pe_slice sl_list (pv 1) po_none (po_some (pv 4)))))
 (pss_one (ps_set (i := 1) sc__law_spoil_rows.nd rfl (Or.inl rfl) (pe_op op_cat (pe_op op_cat (pe_slice sl_list (pv 1) po_none (po_some (pv 4))) (pe_lst (pa_cons (pe_callTy call_list_of (by rfl) T.n_list (by decide +kernel) (pa_cons (pv 5) pa_nil)) pa_nil))) (pe_slice sl_list (pv 1) (po_some (pv 4)) po_none)))))))))))))
 (pss_one (ps_ret (pv 1)))))))))), ?_⟩
    refine ⟨by show 2 ≤ sizeLine; decide, fun q1 h1 => ?_⟩
    obtain ⟨F1, H1, e1, s1, B1, g1, z1, al1⟩ := alloc_gd (n := 1) (o := .tup [.int 0, .int 1]) (d := .tuple [.int 0, .int 1]) (L := ([] : List V)) s0 B0 (fun x hx => nomatch hx) h1 (gd_tup (n := 0) (gdc gd_int (gdc gd_int gd0))) (fun F' e h => .tup (SqT.of h) (.cons (.int _) (.cons (.int _) .nil)))
    rw [e1]
    refine ⟨by show 1 ≤ sizeLine; decide, fun q2 h2 => ?_⟩
    obtain ⟨F2, H2, e2, s2, B2, g2, z2, al2⟩ := alloc_gd (n := 1) (o := .lst [.int 0]) (d := .list [.int 0]) (L := [.ref q1]) s1 B1 al1 h2 (gd_list (n := 0) (gdc gd_int gd0)) (fun F' e h => .lst (SqL.of h) (.cons (.int _) .nil))
    rw [e2]
    refine ⟨by show 6 ≤ sizeLine; decide, fun q3 h3 => ?_⟩
    obtain ⟨F3, H3, e3, s3, B3, g3, z3, al3⟩ := alloc_l (n := 1) (o := .lst [.non, .bl true, .bl false, .str "0", .ref q1, .ref q2]) s2 B2 al2 h3
    rw [e3]
    refine gn ?_
    try dsimp only
    have odds : ∀ x ∈ ([.non, .bl true, .bl false, .str "0", .ref q1, .ref q2] : List V), GdV K 1 F3 x := fun x hx => by
      simp only [List.mem_cons, List.not_mem_nil, or_false] at hx
      rcases hx with rfl | rfl | rfl | rfl | rfl | rfl
      · exact ⟨_, gd_non, .non⟩
      · exact ⟨_, gd_bl, .bl _⟩
      · exact ⟨_, gd_bl, .bl _⟩
      · exact ⟨_, gd_str (by decide +kernel), .str _⟩
      all_goals exact al3 _ (by simp)
    have odl : ([.non, .bl true, .bl false, .str "0", .ref q1, .ref q2] : List V).length = 6 := rfl
    generalize ([.non, .bl true, .bl false, .str "0", .ref q1, .ref q2] : List V) = oxs at z3 odds odl
    have g03 := g1.trans (g2.trans g3)
    refine ⟨_, rfl, F3, b, 6, rfl, B3, s3.fh, by decide, sz_of 3 (by decide) (by decide), fun H4 wy s4 B4 w0 w1 => ?_⟩
    refine gn ?_
    try dsimp only
    have t4 := seqB s3 B3 s4
    have g04 := g03.trans (.sb s4)
    have rd4 := rd.gw g04
    refine ⟨_, rfl, by show 0 ≤ sizeLine; decide, fun q5 h5 => ?_⟩
    obtain ⟨t5, B5⟩ := newB (o := .lst []) t4 B4 h5
    have g05 := g04.trans (Gw.new (o := .lst []) (t4.fh.free h5) h5)
    have rd5 := rd.gw g05
    refine ⟨.list (Rs.map .list), .list [], (rd5.ro t5.fh).dp, .lst (SqL.of upd_same) .nil, (ok.gdl).fl.sh (by decide), (Fl.lst (n := 0) .nil).sh (by decide), _, rfl, ?_⟩
    rw [eqv_nil]
    have gn5 := same_new (o := .lst []) (t4.fh.free h5)
    have z3 := gn5 _ _ z3
    have odds : ∀ x ∈ oxs, GdV K 1 (upd F3 q5 (.lst [])) x := fun x hx => (odds x hx).up gn5
    generalize upd H4 q5 (.lst []) = H5 at t5 B5 g05 rd5 ⊢
    generalize upd F3 q5 (.lst []) = F5 at t5 B5 g05 rd5 z3 odds
    by_cases nil : Rs = []
    · rw [decide_eq_true (by rw [nil]; rfl)]
      refine iteT ⟨by show 1 ≤ sizeLine; decide, fun l hl => ?_⟩
      obtain ⟨t6, B6, lb, l0, fl, g6⟩ := raw1 (o := .lst [.int 0]) t5 B5 hl
      have hl6 : (upd H5 l (.lst [.int 0])) l = some (.lst [.int 0]) := upd_same
      generalize upd H5 l (.lst [.int 0]) = H6 at t6 B6 g6 hl6 ⊢
      refine ⟨by show 1 ≤ sizeLine; decide, fun r' hr' => ?_⟩
      obtain ⟨t7, B7, rb, r0, fr, g7⟩ := raw1 (o := .lst [.ref l]) t6 B6 hr'
      have g06 := g05.trans g6
      have rows : Paired (RowQ K H0 F5 H6) [l] [[.int 0]] := .cons ⟨fl, l0, _, hl6, .cons (.int _) .nil⟩ .nil
      have rd7 := RawD.other (rd5.gw g6) hr' fr r0 rb (by simp) (fun x hx => by rw [List.mem_singleton.mp hx]; exact lb) rows
      refine k F5 _ r' [l] [[.int 0]] t7 B7 g05.ff g05.nw (kp_m3 (g06.trans g7)) rd7 ⟨by show 1 ≤ n + 1; omega, fun R hR => by rw [List.mem_singleton.mp hR]; exact ⟨by show 1 ≤ n + 1; omega, gdc gd_int gd0⟩⟩ fun x hx => .inr ?_
      simp only [List.mem_cons, List.not_mem_nil, or_false] at hx
      rcases hx with rfl | rfl
      · exact g06.fresh rb hr'
      · exact g05.fresh lb hl
    rw [decide_eq_false (fun z => nil (List.map_eq_nil_iff.mp z))]
    refine iteF ?_
    have pos : 0 < Rs.length := List.length_pos_iff.mpr nil
    have ql := Paired.length rd.rows
    have le := ok.le
    have ml : (qs.map V.ref).length = qs.length := List.length_map _
    refine ⟨_, rfl, _, rfl, r, _, rfl, .inl (SqL.of rd5.at_), F5, b, _, rfl, B5, t5.fh, by omega, sz_len (by omega), fun H6 x s6 B6 x0 x1 => ?_⟩
    refine gn ?_
    try dsimp only
    have t6 := seqB t5 B5 s6
    have g06 := g05.trans (.sb s6)
    have rd6 := rd.gw g06
    rw [ml] at x1
    have xq : x.toNat < qs.length := by omega
    obtain ⟨q, hq⟩ : ∃ q, qs[x.toNat]? = some q := ⟨_, List.getElem?_eq_getElem xq⟩
    obtain ⟨R, hR, fq, q0, xs, hxs, hd⟩ := prd_at rd6.rows hq
    have ax : atI (qs.map V.ref) x = some (.ref q) := atI_int x0 (by omega) (by rw [List.getElem?_map, hq]; rfl)
    refine ⟨_, rfl, _, rfl, r, _, _, _, rfl, rfl, SqL.of rd6.at_, ax, ?_⟩
    refine gn ?_
    try dsimp only
    have qm : q ∈ r :: qs := List.mem_cons_of_mem _ (List.mem_of_getElem? hq)
    have nqb := rd.nb q qm
    have nrb := rd.nb r List.mem_cons_self
    have kRs := ok.gd R (List.mem_of_getElem? hR)
    have xl := dpAll_len hd
    have okn : OkRs (n + 1) Rs := ok.up (Nat.le_succ n)
    have out : ∀ {H2 : Hp} {r' : Addr} {qs' : List Addr} {Rs' : List (List PyData)}, Sb b F0 H0 F5 H2 → Bag K b F5 H2 → Kp (m3 b r qs) H H2 → RawD K b H0 F5 H2 r' qs' Rs' → OkRs (n + 1) Rs' → (∀ x ∈ r' :: qs', x ∈ r :: qs ∨ H x = none) → Q (.ref r') H2 := fun {H2 r' qs' Rs'} s B kp rd' ok' nw => k F5 H2 r' qs' Rs' s B g05.ff g05.nw kp rd' ok' nw
    have old : ∀ x ∈ r :: qs, x ∈ r :: qs ∨ H x = none := fun x hx => .inl hx
    -- a new row in place x
    have setR : ∀ {H7 : Hp} {l : Addr} {ys : List V} {S : List PyData}, Sb b F0 H0 F5 H7 → Bag K b F5 H7 → Gw b F5 H6 F5 H7 → l ≠ b → H0 l = none → F5 l = none → H6 l = none → H7 l = some (.lst ys) → DpAll K F5 ys S → S.length ≤ n + 1 → (∀ d ∈ S, Gd 1 d) → Q (.ref r) (upd H7 r (.lst ((qs.map V.ref).set x.toNat (.ref l)))) := fun {H7 l ys S} t B g lb l0 fl h6 h7 d sl sg => by
      have rd7 := rd6.gw g
      have th := rd6.there
      have ln : ∀ y ∈ r :: qs, l ≠ y := fun y hy z => by
        obtain ⟨ys, e⟩ := th y hy
        rw [← z, h6] at e
        cases e
      have e : (qs.map V.ref).set x.toNat (.ref l) = (qs.set x.toNat l).map V.ref := by rw [List.map_set]
      rw [e]
      obtain ⟨t', B'⟩ := mutB (o := .lst ((qs.set x.toNat l).map V.ref)) t B rd7.fr rd7.r0 nrb
      refine out t' B' ((kp_m3 (g06.trans g)).mut (.inr List.mem_cons_self)) (rd7.sett (ln r List.mem_cons_self) (fun z => ln l (List.mem_cons_of_mem _ z) rfl) lb fl l0 h7 d xq) (ok.set sl sg) fun y hy => ?_
      rcases List.mem_cons.mp hy with rfl | hy
      · exact .inl List.mem_cons_self
      · rcases List.mem_or_eq_of_mem_set hy with hy | rfl
        · exact .inl (List.mem_cons_of_mem _ hy)
        · exact .inr (g06.fresh lb h6)
    -- row x written
    have putR : ∀ {H7 : Hp} {ys : List V} {S : List PyData}, Sb b F0 H0 F5 H7 → Bag K b F5 H7 → Gw b F5 H6 F5 H7 → DpAll K F5 ys S → S.length ≤ n + 1 → (∀ d ∈ S, Gd 1 d) → Q (.ref r) (upd H7 q (.lst ys)) := fun {H7 ys S} t B g d sl sg => by
      have rd7 := rd6.gw g
      obtain ⟨t', B'⟩ := mutB (o := .lst ys) t B fq q0 nqb
      exact out t' B' ((kp_m3 (g06.trans g)).mut (.inr qm)) (rd7.mut hq d) (ok.set sl sg) old
    -- some rows, in a list of their own
    have qnd := (List.nodup_cons.mp rd.nd).2
    have cutR : ∀ {H7 : Hp} {r' : Addr}, Sb b F0 H0 F5 H7 → Bag K b F5 H7 → Gw b F5 H6 F5 H7 → H7 r' = none → Q (.ref r') (upd H7 r' (.lst (cutV (qs.map V.ref) none (some x)))) := fun {H7 r'} t B g hr' => by
      obtain ⟨t', B', rb, r0, fr, g'⟩ := raw1 (o := .lst (cutV (qs.map V.ref) none (some x))) t B hr'
      have e : cutV (qs.map V.ref) none (some x) = (qs.take x.toNat).map V.ref := by rw [cut_toI _ x0, List.map_take]
      rw [e] at t' B' g' ⊢
      have rd7 := rd6.gw g
      refine out t' B' (kp_m3 ((g06.trans g).trans g')) (RawD.other rd7 hr' fr r0 rb (List.Nodup.sublist (List.take_sublist _ _) qnd) (fun y hy => rd.nb y (List.mem_cons_of_mem _ (List.mem_of_mem_take hy))) (prd_take _ rd7.rows)) ⟨by rw [List.length_take]; omega, fun S hS => okn.gd S (List.mem_of_mem_take hS)⟩ fun y hy => ?_
      rcases List.mem_cons.mp hy with rfl | hy
      · exact .inr ((g06.trans g).fresh rb hr')
      · exact .inl (List.mem_cons_of_mem _ (List.mem_of_mem_take hy))
    have insR : ∀ {H8 : Hp} {l r' : Addr}, Sb b F0 H0 F5 H8 → Bag K b F5 H8 → Gw b F5 H6 F5 H8 → l ≠ b → H0 l = none → F5 l = none → H6 l = none → H8 l = some (.lst xs) → H8 r' = none → Q (.ref r') (upd H8 r' (.lst ((cutV (qs.map V.ref) none (some x) ++ [.ref l]) ++ cutV (qs.map V.ref) (some x) none))) := fun {H8 l r'} t B g lb l0 fl h6 h8 hr' => by
      obtain ⟨t', B', rb, r0, fr, g'⟩ := raw1 (o := .lst ((cutV (qs.map V.ref) none (some x) ++ [.ref l]) ++ cutV (qs.map V.ref) (some x) none)) t B hr'
      have e : (cutV (qs.map V.ref) none (some x) ++ [.ref l]) ++ cutV (qs.map V.ref) (some x) none = (qs.take x.toNat ++ [l] ++ qs.drop x.toNat).map V.ref := by
        rw [cut_toI _ x0, cut_fromI _ x0 (by omega), List.map_append, List.map_append, List.map_take, List.map_drop]
        rfl
      rw [e] at t' B' g' ⊢
      have rd7 := rd6.gw g
      have ln : ∀ y ∈ r :: qs, l ≠ y := fun y hy z => by
        obtain ⟨ys, e⟩ := rd6.there y hy
        rw [← z, h6] at e
        cases e
      have lq : l ∉ qs := fun z => ln l (List.mem_cons_of_mem _ z) rfl
      have mem : ∀ {y : Addr}, y ∈ qs.take x.toNat ++ [l] ++ qs.drop x.toNat → y = l ∨ y ∈ qs := fun {y} hy => by
        simp only [List.mem_append, List.mem_singleton] at hy
        rcases hy with (hy | hy) | hy
        · exact .inr (List.mem_of_mem_take hy)
        · exact .inl hy
        · exact .inr (List.mem_of_mem_drop hy)
      have nd : (qs.take x.toNat ++ [l] ++ qs.drop x.toNat).Nodup := by
        have h1 : (qs.take x.toNat ++ qs.drop x.toNat).Nodup := by rw [List.take_append_drop]; exact qnd
        rw [List.nodup_append] at h1
        rw [List.nodup_append, List.nodup_append]
        refine ⟨⟨h1.1, by simp, fun y hy z hz => ?_⟩, h1.2.1, fun y hy z hz => ?_⟩
        · rw [List.mem_singleton.mp hz]
          exact fun e => lq (by rw [← e]; exact List.mem_of_mem_take hy)
        · rcases List.mem_append.mp hy with hy | hy
          · exact h1.2.2 y hy z hz
          · rw [List.mem_singleton.mp hy]
            exact fun e => lq (by rw [e]; exact List.mem_of_mem_drop hz)
      refine out t' B' (kp_m3 ((g06.trans g).trans g')) (RawD.other (Rs' := Rs.take x.toNat ++ [R] ++ Rs.drop x.toNat) rd7 hr' fr r0 rb nd (fun y hy => ?_) (prd_app (prd_app (prd_take _ rd7.rows) (.cons ⟨fl, l0, xs, h8, hd⟩ .nil)) (prd_drop _ rd7.rows))) ⟨?_, fun S hS => ?_⟩ fun y hy => ?_
      · rcases mem hy with rfl | hy
        · exact lb
        · exact rd.nb y (List.mem_cons_of_mem _ hy)
      · simp only [List.length_append, List.length_take, List.length_drop, List.length_singleton]
        omega
      · simp only [List.mem_append, List.mem_singleton] at hS
        rcases hS with (hS | rfl) | hS
        · exact okn.gd S (List.mem_of_mem_take hS)
        · exact okn.gd S (List.mem_of_getElem? hR)
        · exact okn.gd S (List.mem_of_mem_drop hS)
      · rcases List.mem_cons.mp hy with rfl | hy
        · exact .inr ((g06.trans g).fresh rb hr')
        · rcases mem hy with rfl | hy
          · exact .inr (g06.fresh lb h6)
          · exact .inl (List.mem_cons_of_mem _ hy)
    have cl : (cutV (qs.map V.ref) none (some x)).length ≤ 200 := by rw [cut_toI _ x0, List.length_take]; omega
    have cf : (cutV (qs.map V.ref) (some x) none).length ≤ 200 := by rw [cut_fromI _ x0 (by omega), List.length_drop]; omega
    refine seq_with (fun σ' H' => ∃ r' c6, σ' = [some (.ref b), some (.ref r'), some (.ref q3), some (.int wy), some (.int x), some (.ref q), c6] ∧ Q (.ref r') H') (fun U hU => ?_) ?_
    · refine ⟨_, rfl, rfl, _, rfl, ite2 (fun _ => ?_) (fun _ => ?_)⟩
      · refine ⟨_, rfl, _, rfl, _, rfl, q, xs, rfl, SqL.of hxs, fun l hl => ?_⟩
        obtain ⟨t7, B7, lb, l0, fl, g7⟩ := raw1 (o := .lst (cutV xs none (some (-1)))) t6 B6 hl
        dsimp only [gSub]
        refine ⟨_, rfl, _, rfl, r, _, x, x.toNat, rfl, rfl, (rd6.gw g7).at_, ixN_nat x0 (by omega), ?_⟩
        exact hU _ _ ⟨r, _, rfl, setR t7 B7 g7 lb l0 fl hl upd_same (by rw [cut_last, xl]; exact dpAll_take _ hd) (by rw [List.length_take]; omega) fun d h => kRs.2 d (List.mem_of_mem_take h)⟩
      refine ⟨_, rfl, rfl, _, rfl, ite2 (fun _ => ?_) (fun _ => ?_)⟩
      · refine ⟨_, rfl, by show 1 ≤ sizeLine; decide, fun d1 hd1 => ?_⟩
        obtain ⟨t7, B7, db, d0, fd, g7⟩ := raw1 (o := .lst [.int 0]) t6 B6 hd1
        refine ⟨q, d1, xs, [.int 0], rfl, rfl, g7.kp q _ nqb hxs, upd_same, by rw [sizeLine_eq]; show xs.length + 1 ≤ _; omega, fun l hl => ?_⟩
        obtain ⟨t8, B8, lb, l0, fl, g8⟩ := raw1 (o := .lst (xs ++ [.int 0])) t7 B7 hl
        dsimp only [gSub]
        refine ⟨_, rfl, _, rfl, r, _, x, x.toNat, rfl, rfl, (rd6.gw (g7.trans g8)).at_, ixN_nat x0 (by omega), ?_⟩
        exact hU _ _ ⟨r, _, rfl, setR t8 B8 (g7.trans g8) lb l0 fl (g7.fresh lb hl) upd_same (dpAll_app hd (.cons (.int 0) .nil)) (by rw [List.length_append, List.length_singleton]; omega) fun d h => by
          rcases List.mem_append.mp h with h | h
          · exact kRs.2 d h
          · rw [List.mem_singleton.mp h]
            exact gd_int⟩
      refine ⟨_, rfl, rfl, _, rfl, ite2 (fun _ => ?_) (fun _ => ?_)⟩
      · refine ⟨_, rfl, by show 0 ≤ sizeLine; decide, fun e0 he0 => ?_⟩
        obtain ⟨t7, B7, _, _, _, g7⟩ := raw1 (o := .lst []) t6 B6 he0
        have c7 : (upd H6 e0 (.lst [])) e0 = some (.lst []) := upd_same
        generalize upd H6 e0 (.lst []) = H7 at t7 B7 g7 c7 ⊢
        have hxs7 := g7.kp q _ nqb hxs
        refine ⟨.list R, .list [], .lst (SqL.of hxs7) (dpAll_up t7.fh hd), .lst (SqL.of c7) .nil, ((gd_list kRs.2).fl).sh (by decide), (Fl.lst (n := 0) .nil).sh (by decide), _, rfl, ?_⟩
        rw [eqv_nil]
        by_cases rn : R = []
        · rw [decide_eq_true rn]
          refine iteF ?_
          refine ⟨_, rfl, rfl, _, rfl, ite2 (fun _ => ?_) (fun _ => ?_)⟩
          · refine ⟨_, rfl, q, xs, rfl, .inl (SqL.of (g7.kp q _ nqb hxs)), _, rfl, _, _, rfl, rfl, _, rfl, ite2 (fun e3' => ?_) (fun _ => ?_)⟩
            · have e3' := of_decide_eq_true e3'
              refine ⟨_, rfl, _, rfl, _, _, rfl, rfl, ⟨by decide, by decide, by decide⟩, by show 3 ≤ sizeLine; decide, fun e4 he4 => ?_⟩
              obtain ⟨t23, B23, eb, _, _, g23⟩ := raw1 (o := .lst [.int 1, .int (-1), .int ((10 : Int) ^ (40 : Int).toNat)]) t7 B7 he4
              refine ⟨F5, b, _, [.int 1, .int (-1), .int ((10 : Int) ^ (40 : Int).toNat)], rfl, .inr (.inl ⟨e4, rfl, eb, upd_same⟩), by simp, by show 3 ≤ 1000; decide, B23, t23.fh, fun H24 v i s24 B24 hv => ?_⟩
              obtain ⟨kv, rfl⟩ : ∃ kv, v = .int kv := by
                have hm := List.mem_of_getElem? hv
                simp only [List.mem_cons, List.not_mem_nil, or_false] at hm
                rcases hm with rfl | rfl | rfl <;> exact ⟨_, rfl⟩
              dsimp only [gSub]
              have g624 := (g7.trans g23).trans (.sb s24)
              refine ⟨_, rfl, _, rfl, q, xs, x, x.toNat, rfl, rfl, g624.kp q _ nqb hxs, ixN_nat x0 (by omega), ?_⟩
              exact hU _ _ ⟨r, _, rfl, putR (seqB t23 B23 s24) B24 g624 (dpAll_set hd (.int kv)) (by rw [List.length_set]; omega) fun d h => by
                rcases List.mem_or_eq_of_mem_set h with h | rfl
                · exact kRs.2 d h
                · exact gd_int⟩
            · refine ⟨_, rfl, rfl, _, rfl, ite2 (fun _ => ?_) (fun _ => ?_)⟩
              · refine ⟨_, rfl, _, rfl, _, rfl, r, _, rfl, SqL.of (rd6.gw g7).at_, fun r' hr' => ?_⟩
                exact hU _ _ ⟨r', _, rfl, cutR t7 B7 g7 hr'⟩
              · refine ⟨_, rfl, _, rfl, _, rfl, r, _, rfl, SqL.of (rd6.gw g7).at_, fun s1' hs1 => ?_⟩
                obtain ⟨t18, B18, sb1, _, _, g18⟩ := raw1 (o := .lst (cutV (qs.map V.ref) none (some x))) t7 B7 hs1
                have c18 : (upd H7 s1' (.lst (cutV (qs.map V.ref) none (some x)))) s1' = some (.lst (cutV (qs.map V.ref) none (some x))) := upd_same
                generalize upd H7 s1' (.lst (cutV (qs.map V.ref) none (some x))) = H18 at t18 B18 g18 c18 ⊢
                have g618 := g7.trans g18
                refine ⟨_, rfl, q, xs, rfl, .inl (SqL.of (g618.kp q _ nqb hxs)), fun l hl => ?_⟩
                obtain ⟨t19, B19, lb, l0, fl, g19⟩ := raw1 (o := .lst xs) t18 B18 hl
                have c19 : (upd H18 l (.lst xs)) l = some (.lst xs) := upd_same
                generalize upd H18 l (.lst xs) = H19 at t19 B19 g19 c19 ⊢
                refine ⟨by show 1 ≤ sizeLine; decide, fun d1 hd1 => ?_⟩
                obtain ⟨t20, B20, _, _, _, g20⟩ := raw1 (o := .lst [.ref l]) t19 B19 hd1
                have c20 : (upd H19 d1 (.lst [.ref l])) d1 = some (.lst [.ref l]) := upd_same
                generalize upd H19 d1 (.lst [.ref l]) = H20 at t20 B20 g20 c20 ⊢
                refine ⟨s1', d1, _, _, rfl, rfl, (g19.trans g20).kp s1' _ sb1 c18, c20, by rw [sizeLine_eq]; show _ + 1 ≤ _; omega, fun c1 hc1 => ?_⟩
                obtain ⟨t21, B21, cb1, _, _, g21⟩ := raw1 (o := .lst (cutV (qs.map V.ref) none (some x) ++ [.ref l])) t20 B20 hc1
                have c21 : (upd H20 c1 (.lst (cutV (qs.map V.ref) none (some x) ++ [.ref l]))) c1 = some (.lst (cutV (qs.map V.ref) none (some x) ++ [.ref l])) := upd_same
                generalize upd H20 c1 (.lst (cutV (qs.map V.ref) none (some x) ++ [.ref l])) = H21 at t21 B21 g21 c21 ⊢
                have g621 := g618.trans (g19.trans (g20.trans g21))
                refine ⟨_, rfl, _, rfl, _, rfl, r, _, rfl, SqL.of (rd6.gw g621).at_, fun s2' hs2 => ?_⟩
                obtain ⟨t22, B22, _, _, _, g22⟩ := raw1 (o := .lst (cutV (qs.map V.ref) (some x) none)) t21 B21 hs2
                have c22 : (upd H21 s2' (.lst (cutV (qs.map V.ref) (some x) none))) s2' = some (.lst (cutV (qs.map V.ref) (some x) none)) := upd_same
                generalize upd H21 s2' (.lst (cutV (qs.map V.ref) (some x) none)) = H22 at t22 B22 g22 c22 ⊢
                refine ⟨c1, s2', _, _, rfl, rfl, g22.kp c1 _ cb1 c21, c22, by rw [List.length_append, sizeLine_eq]; show _ + 1 + _ ≤ _; omega, fun r' hr' => ?_⟩
                exact hU _ _ ⟨r', _, rfl, insR t22 B22 (g621.trans g22) lb l0 fl (g618.fresh lb hl) ((g20.trans (g21.trans g22)).kp l _ lb c19) hr'⟩
          · refine ⟨_, rfl, rfl, _, rfl, ite2 (fun _ => ?_) (fun _ => ?_)⟩
            · refine ⟨_, rfl, _, rfl, _, rfl, r, _, rfl, SqL.of (rd6.gw g7).at_, fun r' hr' => ?_⟩
              exact hU _ _ ⟨r', _, rfl, cutR t7 B7 g7 hr'⟩
            · refine ⟨_, rfl, _, rfl, _, rfl, r, _, rfl, SqL.of (rd6.gw g7).at_, fun s1' hs1 => ?_⟩
              obtain ⟨t18, B18, sb1, _, _, g18⟩ := raw1 (o := .lst (cutV (qs.map V.ref) none (some x))) t7 B7 hs1
              have c18 : (upd H7 s1' (.lst (cutV (qs.map V.ref) none (some x)))) s1' = some (.lst (cutV (qs.map V.ref) none (some x))) := upd_same
              generalize upd H7 s1' (.lst (cutV (qs.map V.ref) none (some x))) = H18 at t18 B18 g18 c18 ⊢
              have g618 := g7.trans g18
              refine ⟨_, rfl, q, xs, rfl, .inl (SqL.of (g618.kp q _ nqb hxs)), fun l hl => ?_⟩
              obtain ⟨t19, B19, lb, l0, fl, g19⟩ := raw1 (o := .lst xs) t18 B18 hl
              have c19 : (upd H18 l (.lst xs)) l = some (.lst xs) := upd_same
              generalize upd H18 l (.lst xs) = H19 at t19 B19 g19 c19 ⊢
              refine ⟨by show 1 ≤ sizeLine; decide, fun d1 hd1 => ?_⟩
              obtain ⟨t20, B20, _, _, _, g20⟩ := raw1 (o := .lst [.ref l]) t19 B19 hd1
              have c20 : (upd H19 d1 (.lst [.ref l])) d1 = some (.lst [.ref l]) := upd_same
              generalize upd H19 d1 (.lst [.ref l]) = H20 at t20 B20 g20 c20 ⊢
              refine ⟨s1', d1, _, _, rfl, rfl, (g19.trans g20).kp s1' _ sb1 c18, c20, by rw [sizeLine_eq]; show _ + 1 ≤ _; omega, fun c1 hc1 => ?_⟩
              obtain ⟨t21, B21, cb1, _, _, g21⟩ := raw1 (o := .lst (cutV (qs.map V.ref) none (some x) ++ [.ref l])) t20 B20 hc1
              have c21 : (upd H20 c1 (.lst (cutV (qs.map V.ref) none (some x) ++ [.ref l]))) c1 = some (.lst (cutV (qs.map V.ref) none (some x) ++ [.ref l])) := upd_same
              generalize upd H20 c1 (.lst (cutV (qs.map V.ref) none (some x) ++ [.ref l])) = H21 at t21 B21 g21 c21 ⊢
              have g621 := g618.trans (g19.trans (g20.trans g21))
              refine ⟨_, rfl, _, rfl, _, rfl, r, _, rfl, SqL.of (rd6.gw g621).at_, fun s2' hs2 => ?_⟩
              obtain ⟨t22, B22, _, _, _, g22⟩ := raw1 (o := .lst (cutV (qs.map V.ref) (some x) none)) t21 B21 hs2
              have c22 : (upd H21 s2' (.lst (cutV (qs.map V.ref) (some x) none))) s2' = some (.lst (cutV (qs.map V.ref) (some x) none)) := upd_same
              generalize upd H21 s2' (.lst (cutV (qs.map V.ref) (some x) none)) = H22 at t22 B22 g22 c22 ⊢
              refine ⟨c1, s2', _, _, rfl, rfl, g22.kp c1 _ cb1 c21, c22, by rw [List.length_append, sizeLine_eq]; show _ + 1 + _ ≤ _; omega, fun r' hr' => ?_⟩
              exact hU _ _ ⟨r', _, rfl, insR t22 B22 (g621.trans g22) lb l0 fl (g618.fresh lb hl) ((g20.trans (g21.trans g22)).kp l _ lb c19) hr'⟩
        · rw [decide_eq_false rn]
          have rp : 0 < R.length := List.length_pos_iff.mpr rn
          refine iteT ⟨_, rfl, _, rfl, q, xs, rfl, .inl (SqL.of hxs7), F5, b, _, rfl, B7, t7.fh, by omega, sz_len (by omega), fun H8 y s8 B8 y0 y1 => ?_⟩
          refine gn ?_
          try dsimp only
          have t8 := seqB t7 B7 s8
          refine ⟨_, rfl, _, rfl, F5, b, _, oxs, rfl, .inl ⟨q3, rfl, SqL.of z3⟩, fun e => (by rw [e] at odl; cases odl), by omega, B8, t8.fh, fun H9 v i s9 B9 hv => ?_⟩
          obtain ⟨dv, gv, pv⟩ := odds v (List.mem_of_getElem? hv)
          dsimp only [gSub]
          have g69 := (g7.trans (.sb s8)).trans (.sb s9)
          refine ⟨_, rfl, _, rfl, q, xs, y, y.toNat, rfl, rfl, g69.kp q _ nqb hxs, ixN_nat y0 (by omega), ?_⟩
          exact hU _ _ ⟨r, _, rfl, putR (seqB t8 B8 s9) B9 g69 (dpAll_set hd pv) (by rw [List.length_set]; omega) fun d h => by
            rcases List.mem_or_eq_of_mem_set h with h | rfl
            · exact kRs.2 d h
            · exact gv⟩
      · refine ⟨_, rfl, rfl, _, rfl, ite2 (fun _ => ?_) (fun _ => ?_)⟩
        · refine ⟨_, rfl, q, xs, rfl, .inl (SqL.of ((Gw.refl (b := b) (F := F5) (H := H6)).kp q _ nqb hxs)), _, rfl, _, _, rfl, rfl, _, rfl, ite2 (fun e3' => ?_) (fun _ => ?_)⟩
          · have e3' := of_decide_eq_true e3'
            refine ⟨_, rfl, _, rfl, _, _, rfl, rfl, ⟨by decide, by decide, by decide⟩, by show 3 ≤ sizeLine; decide, fun e4 he4 => ?_⟩
            obtain ⟨t23, B23, eb, _, _, g23⟩ := raw1 (o := .lst [.int 1, .int (-1), .int ((10 : Int) ^ (40 : Int).toNat)]) t6 B6 he4
            refine ⟨F5, b, _, [.int 1, .int (-1), .int ((10 : Int) ^ (40 : Int).toNat)], rfl, .inr (.inl ⟨e4, rfl, eb, upd_same⟩), by simp, by show 3 ≤ 1000; decide, B23, t23.fh, fun H24 v i s24 B24 hv => ?_⟩
            obtain ⟨kv, rfl⟩ : ∃ kv, v = .int kv := by
              have hm := List.mem_of_getElem? hv
              simp only [List.mem_cons, List.not_mem_nil, or_false] at hm
              rcases hm with rfl | rfl | rfl <;> exact ⟨_, rfl⟩
            dsimp only [gSub]
            have g624 := g23.trans (.sb s24)
            refine ⟨_, rfl, _, rfl, q, xs, x, x.toNat, rfl, rfl, g624.kp q _ nqb hxs, ixN_nat x0 (by omega), ?_⟩
            exact hU _ _ ⟨r, _, rfl, putR (seqB t23 B23 s24) B24 g624 (dpAll_set hd (.int kv)) (by rw [List.length_set]; omega) fun d h => by
              rcases List.mem_or_eq_of_mem_set h with h | rfl
              · exact kRs.2 d h
              · exact gd_int⟩
          · refine ⟨_, rfl, rfl, _, rfl, ite2 (fun _ => ?_) (fun _ => ?_)⟩
            · refine ⟨_, rfl, _, rfl, _, rfl, r, _, rfl, SqL.of (rd6.gw .refl).at_, fun r' hr' => ?_⟩
              exact hU _ _ ⟨r', _, rfl, cutR t6 B6 .refl hr'⟩
            · refine ⟨_, rfl, _, rfl, _, rfl, r, _, rfl, SqL.of (rd6.gw .refl).at_, fun s1' hs1 => ?_⟩
              obtain ⟨t18, B18, sb1, _, _, g18⟩ := raw1 (o := .lst (cutV (qs.map V.ref) none (some x))) t6 B6 hs1
              have c18 : (upd H6 s1' (.lst (cutV (qs.map V.ref) none (some x)))) s1' = some (.lst (cutV (qs.map V.ref) none (some x))) := upd_same
              generalize upd H6 s1' (.lst (cutV (qs.map V.ref) none (some x))) = H18 at t18 B18 g18 c18 ⊢
              have g618 := g18
              refine ⟨_, rfl, q, xs, rfl, .inl (SqL.of (g618.kp q _ nqb hxs)), fun l hl => ?_⟩
              obtain ⟨t19, B19, lb, l0, fl, g19⟩ := raw1 (o := .lst xs) t18 B18 hl
              have c19 : (upd H18 l (.lst xs)) l = some (.lst xs) := upd_same
              generalize upd H18 l (.lst xs) = H19 at t19 B19 g19 c19 ⊢
              refine ⟨by show 1 ≤ sizeLine; decide, fun d1 hd1 => ?_⟩
              obtain ⟨t20, B20, _, _, _, g20⟩ := raw1 (o := .lst [.ref l]) t19 B19 hd1
              have c20 : (upd H19 d1 (.lst [.ref l])) d1 = some (.lst [.ref l]) := upd_same
              generalize upd H19 d1 (.lst [.ref l]) = H20 at t20 B20 g20 c20 ⊢
              refine ⟨s1', d1, _, _, rfl, rfl, (g19.trans g20).kp s1' _ sb1 c18, c20, by rw [sizeLine_eq]; show _ + 1 ≤ _; omega, fun c1 hc1 => ?_⟩
              obtain ⟨t21, B21, cb1, _, _, g21⟩ := raw1 (o := .lst (cutV (qs.map V.ref) none (some x) ++ [.ref l])) t20 B20 hc1
              have c21 : (upd H20 c1 (.lst (cutV (qs.map V.ref) none (some x) ++ [.ref l]))) c1 = some (.lst (cutV (qs.map V.ref) none (some x) ++ [.ref l])) := upd_same
              generalize upd H20 c1 (.lst (cutV (qs.map V.ref) none (some x) ++ [.ref l])) = H21 at t21 B21 g21 c21 ⊢
              have g621 := g618.trans (g19.trans (g20.trans g21))
              refine ⟨_, rfl, _, rfl, _, rfl, r, _, rfl, SqL.of (rd6.gw g621).at_, fun s2' hs2 => ?_⟩
              obtain ⟨t22, B22, _, _, _, g22⟩ := raw1 (o := .lst (cutV (qs.map V.ref) (some x) none)) t21 B21 hs2
              have c22 : (upd H21 s2' (.lst (cutV (qs.map V.ref) (some x) none))) s2' = some (.lst (cutV (qs.map V.ref) (some x) none)) := upd_same
              generalize upd H21 s2' (.lst (cutV (qs.map V.ref) (some x) none)) = H22 at t22 B22 g22 c22 ⊢
              refine ⟨c1, s2', _, _, rfl, rfl, g22.kp c1 _ cb1 c21, c22, by rw [List.length_append, sizeLine_eq]; show _ + 1 + _ ≤ _; omega, fun r' hr' => ?_⟩
              exact hU _ _ ⟨r', _, rfl, insR t22 B22 (g621.trans g22) lb l0 fl (g618.fresh lb hl) ((g20.trans (g21.trans g22)).kp l _ lb c19) hr'⟩
        · refine ⟨_, rfl, rfl, _, rfl, ite2 (fun _ => ?_) (fun _ => ?_)⟩
          · refine ⟨_, rfl, _, rfl, _, rfl, r, _, rfl, SqL.of (rd6.gw .refl).at_, fun r' hr' => ?_⟩
            exact hU _ _ ⟨r', _, rfl, cutR t6 B6 .refl hr'⟩
          · refine ⟨_, rfl, _, rfl, _, rfl, r, _, rfl, SqL.of (rd6.gw .refl).at_, fun s1' hs1 => ?_⟩
            obtain ⟨t18, B18, sb1, _, _, g18⟩ := raw1 (o := .lst (cutV (qs.map V.ref) none (some x))) t6 B6 hs1
            have c18 : (upd H6 s1' (.lst (cutV (qs.map V.ref) none (some x)))) s1' = some (.lst (cutV (qs.map V.ref) none (some x))) := upd_same
            generalize upd H6 s1' (.lst (cutV (qs.map V.ref) none (some x))) = H18 at t18 B18 g18 c18 ⊢
            have g618 := g18
            refine ⟨_, rfl, q, xs, rfl, .inl (SqL.of (g618.kp q _ nqb hxs)), fun l hl => ?_⟩
            obtain ⟨t19, B19, lb, l0, fl, g19⟩ := raw1 (o := .lst xs) t18 B18 hl
            have c19 : (upd H18 l (.lst xs)) l = some (.lst xs) := upd_same
            generalize upd H18 l (.lst xs) = H19 at t19 B19 g19 c19 ⊢
            refine ⟨by show 1 ≤ sizeLine; decide, fun d1 hd1 => ?_⟩
            obtain ⟨t20, B20, _, _, _, g20⟩ := raw1 (o := .lst [.ref l]) t19 B19 hd1
            have c20 : (upd H19 d1 (.lst [.ref l])) d1 = some (.lst [.ref l]) := upd_same
            generalize upd H19 d1 (.lst [.ref l]) = H20 at t20 B20 g20 c20 ⊢
            refine ⟨s1', d1, _, _, rfl, rfl, (g19.trans g20).kp s1' _ sb1 c18, c20, by rw [sizeLine_eq]; show _ + 1 ≤ _; omega, fun c1 hc1 => ?_⟩
            obtain ⟨t21, B21, cb1, _, _, g21⟩ := raw1 (o := .lst (cutV (qs.map V.ref) none (some x) ++ [.ref l])) t20 B20 hc1
            have c21 : (upd H20 c1 (.lst (cutV (qs.map V.ref) none (some x) ++ [.ref l]))) c1 = some (.lst (cutV (qs.map V.ref) none (some x) ++ [.ref l])) := upd_same
            generalize upd H20 c1 (.lst (cutV (qs.map V.ref) none (some x) ++ [.ref l])) = H21 at t21 B21 g21 c21 ⊢
            have g621 := g618.trans (g19.trans (g20.trans g21))
            refine ⟨_, rfl, _, rfl, _, rfl, r, _, rfl, SqL.of (rd6.gw g621).at_, fun s2' hs2 => ?_⟩
            obtain ⟨t22, B22, _, _, _, g22⟩ := raw1 (o := .lst (cutV (qs.map V.ref) (some x) none)) t21 B21 hs2
            have c22 : (upd H21 s2' (.lst (cutV (qs.map V.ref) (some x) none))) s2' = some (.lst (cutV (qs.map V.ref) (some x) none)) := upd_same
            generalize upd H21 s2' (.lst (cutV (qs.map V.ref) (some x) none)) = H22 at t22 B22 g22 c22 ⊢
            refine ⟨c1, s2', _, _, rfl, rfl, g22.kp c1 _ cb1 c21, c22, by rw [List.length_append, sizeLine_eq]; show _ + 1 + _ ≤ _; omega, fun r' hr' => ?_⟩
            exact hU _ _ ⟨r', _, rfl, insR t22 B22 (g621.trans g22) lb l0 fl (g618.fresh lb hl) ((g20.trans (g21.trans g22)).kp l _ lb c19) hr'⟩
    rintro _ H2 ⟨r', c6, rfl, kk⟩
    exact ⟨_, rfl, kk⟩
end
end K49

set_option Elab.async false
set_option linter.all false
set_option maxRecDepth 100000
set_option maxHeartbeats 4000000
namespace K49
open PySem PySem.Spec PyProof.Rows L2 Ew
theorem nat_of {i : Int} (h : 0 ≤ i) : ∃ x : Nat, i = (x : Int) := ⟨i.toNat, by omega⟩
/-- the other end of a link -/
theorem other_end {x y n : Nat} (hx : x < n) (hy : y + 1 < n) : ∃ z : Nat, ((x : Int) + 1 + (y : Int)) % (n : Int) = (z : Int) ∧ z < n ∧ x ≠ z := by
  refine ⟨(x + 1 + y) % n, ?_, Nat.mod_lt _ (by omega), ?_⟩
  · rw [show ((x : Int) + 1 + (y : Int)) = ((x + 1 + y : Nat) : Int) by omega]
    exact (Int.natCast_emod _ _).symm
  · rcases Nat.lt_or_ge (x + 1 + y) n with h | h
    · rw [Nat.mod_eq_of_lt h]
      omega
    · rw [Nat.mod_eq_sub_mod h, Nat.mod_eq_of_lt (by omega)]
      omega
section
variable {K : PySem.W.Frag} {b : Addr} {F H H' H2 : Hp} {p : Addr} {qs : List Addr} {n : Nat} {f : Tb2}
theorem allB (hf : Same F H) (B0 : Bag K b F H) (s : Sb b F H F H') (B : Bag K b F H') : Sb b F H (fz F H H') H' ∧ Bag K b (fz F H H') H' := by
  refine ⟨s.all hf, (memB K b).grow B (s.all hf).ff fun x z => ?_⟩
  rw [fz_old (by rw [z]; exact (memB K b).there B0 rfl)]
  exact (memB K b).off B z
/-- a step of the bag leaves the law's own tables -/
theorem Raw.bag (h : Raw H H' p qs n f) (B0 : Bag K b F H) (s : Sb b F H' F H2) : Raw H H2 p qs n f := by
  have hb : H b ≠ none := (memB K b).there B0 rfl
  have np : p ≠ b := fun z => hb (by rw [← z]; exact h.p0)
  have nq : ∀ q ∈ qs, q ≠ b := fun q hq z => hb (by rw [← z]; exact h.q0 q hq)
  exact ⟨s.hh _ _ np h.at_, h.len, h.nd, h.np, h.p0, h.q0, fun i q z => s.hh _ _ (nq q (List.mem_of_getElem? z)) (h.row i q z)⟩
theorem Raw.cell (h : Raw H H' p qs n f) {i : Nat} (hi : i < n) : ∃ q, qs[i]? = some q ∧ atI (qs.map V.ref) ((i : Nat) : Int) = some (.ref q) ∧ H' q = some (.lst (rowV n (f i))) := by
  obtain ⟨q, h1, h2⟩ := h.get hi
  rw [Int.zero_add] at h2
  exact ⟨q, h1, h2, h.row i q h1⟩
theorem picked_ints : ∀ {ys : List V} {l : List Nat}, Paired (fun y _ => ∃ k : Int, y = V.int k) ys l → ∃ ns : List Int, ys = ns.map V.int
  | [], [], _ => ⟨[], rfl⟩
  | y :: ys, i :: l, .cons ⟨k, e⟩ t => by
    obtain ⟨ns, h⟩ := picked_ints t
    exact ⟨k :: ns, by rw [e, h]; rfl⟩
end
theorem gd_ints {n : Nat} (ns : List Int) : ∀ d ∈ ns.map PyData.int, Gd n d := fun d hd => by
  obtain ⟨i, _, rfl⟩ := List.mem_map.mp hd
  exact gd_int
section
variable {P : Program} {w : World} {K : PySem.W.Frag} {mg : Str → Option Value} {base : Heap} {a : Ad}
def sp__law_edge (K : PySem.W.Frag) : Sp := fun vs H Q _ => ∃ (F H0 : Hp) (b r : Addr) (qs : List Addr) (n : Nat) (f : Tb2), vs = [.ref b, .ref r] ∧ Same F H0 ∧ Bag K b F H0 ∧ Sb b F H0 F H ∧ Bag K b F H ∧ Raw H0 H r qs n f ∧ 1 ≤ n ∧ n ≤ 21 ∧
  ∀ H' f', Sb b F H0 F H' → Bag K b F H' → Raw H0 H' r qs n f' → Q (.ref r) H'
theorem c__law_edge (T : Txt K mg a) : Cl P w K mg base 3 "_law_edge" P__law_edge (sp__law_edge K) [] :=
  T.d__law_edge.cl sc__law_edge (fun vs H Q E h => by obtain ⟨F, H0, b, r, qs, n, f, rfl, _⟩ := h; rfl) fun f cdv A outer s H vs Q E hr h => by
    obtain ⟨F, H0, b, r, qs, n, f, rfl, hf0, B0, s0, B, rw, n1, n21, k⟩ := h
    refine ⟨_, ((pss_cons (ps_set (i := 2) sc__law_edge.nd rfl (Or.inl rfl) (pe_callB call_len_seq (by rfl) T.n_len (by decide +kernel) (pa_cons (pv 1) pa_nil)))
 (pss_cons (ps_if (pt_cmpR op_lt (pv 2) pe_int (nomark _))
 (pss_one (ps_ret (pv 1)))
 pss_nil)
 (pss_cons (ps_set (i := 3) sc__law_edge.nd rfl (Or.inr rfl) (pe_f (c__law_pick T) (takes_of rfl rfl rfl rfl) hr (by decide) rfl (pa_cons (pv 0) (pa_cons (pv 2) pa_nil))))
 (pss_cons (ps_set (i := 4) sc__law_edge.nd rfl (Or.inr rfl) (pe_op op_mod (pe_callTy call_int1 (by rfl) T.n_int (by decide +kernel) (pa_cons (pe_op op_add (pe_op op_add (pv 3) pe_int) (pe_f (c__law_pick T) (takes_of rfl rfl rfl rfl) hr (by decide) rfl (pa_cons (pv 0) (pa_cons (pe_op op_sub (pv 2) pe_int) pa_nil)))) pa_nil)) (pv 2)))
 (pss_cons (ps_setLc (i := 5) (own := [("_law_b", 6)]) (g := (gName 6)) (by rfl) sc__law_edge.nd rfl rfl (sw_true rfl rfl rfl (by decide +kernel)) (pi_range1 (by rfl) T.n_range (pa_cons (pv 2) pa_nil)) (blkOk_by (own := [("_law_b", 6)]) (N := N__law_edge) (sc := defScope s__law_edge) (by decide +kernel)) (fun _ _ _ _ _ => (pg_name (i := 6) sc__law_edge.nd rfl (Or.inl rfl) (hf := .inr rfl))) (fun _ _ _ _ _ => (pts_one (PW.pt (pw_and (pt_cmpR op_ne (pv 6) (pv 3) (nomark _)) (pw_and1 (pt_cmpR op_ne (pv 6) (pv 4) (nomark _))))))) (fun _ _ _ _ _ => (pe_op op_add (pe_ix (r := rIxL K) ix_list (pe_ix (r := rIxL K) ix_list (pv 1) (pv 3) (fun _ _ => rfl)) (pv 6) (fun _ _ => rfl)) (pe_ix (r := rIxL K) ix_list (pe_ix (r := rIxL K) ix_list (pv 1) (pv 6) (fun _ _ => rfl)) (pv 4) (fun _ _ => rfl)))))
 (pss_cons (ps_if (PW.pt (pw_or (pt_cmpR (op_eqD hr.units) (pv 5) (pe_lst pa_nil) (nomark _)) (pw_or1 (pt_val (pe_f (c__law_one_in T) (takes_of rfl rfl rfl rfl) hr (by decide) rfl (pa_cons (pv 0) (pa_cons pe_int pa_nil)))))))
 (pss_one (ps_asg (pe_op op_sub (pe_op op_sub (pe_f (c__law_pick T) (takes_of rfl rfl rfl rfl) hr (by decide) rfl (pa_cons (pv 0) (pa_cons pe_int pa_nil))) pe_int) (pe_ix ix_list (pe_ix ix_list (pv 1) (pv 4) (fun _ _ => rfl)) (pv 3) (fun _ _ => rfl))) (pg_sub (pe_ix ix_list (pv 1) (pv 3) (fun _ _ => rfl)) (pv 4) set_list)))
 (pss_one (ps_asg (pe_op op_add (pe_callB (cr_min rfl) (by rfl) T.n_min (by decide +kernel) (pa_cons (pv 5) pa_nil)) (pe_f (c__law_pick T) (takes_of rfl rfl rfl rfl) hr (by decide) rfl (pa_cons (pv 0) (pa_cons pe_int pa_nil)))) (pg_sub (pe_ix ix_list (pv 1) (pv 3) (fun _ _ => rfl)) (pv 4) set_list))))
 (pss_one (ps_ret (pv 1)))))))))), ?_⟩
    have hb : H0 b ≠ none := (memB K b).there B0 rfl
    have ml : (qs.map V.ref).length = n := by rw [List.length_map, rw.len]
    refine ⟨_, rfl, r, _, rfl, .inl (SqL.of rw.at_), ?_⟩
    rw [ml]
    refine gn ?_
    try dsimp only
    refine ⟨_, rfl, _, _, rfl, rfl, _, rfl, ?_⟩
    by_cases one : n < 2
    · exact iteY (decide_eq_true (by omega)) ⟨_, rfl, k H f s0 B rw⟩
    refine iteN (by rw [decide_eq_false (by omega)]; decide) ?_
    refine ⟨_, rfl, _, rfl, F, b, (n : Int), rfl, B, s0.fh, by omega, sz_len (by omega), fun H1 i1 s1 B1 i0 il => ?_⟩
    obtain ⟨x, rfl⟩ := nat_of i0
    have hx : x < n := by omega
    refine gn ?_
    try dsimp only
    refine ⟨_, rfl, _, _, rfl, rfl, _, rfl, _, rfl, _, _, rfl, rfl, F, b, _, rfl, B1, s1.fh, by omega, (by rw [show ((n : Int) - 1) = ((n - 1 : Nat) : Int) by omega]; exact sz_len (by omega)), fun H2 j s2 B2 j0 j1 => ?_⟩
    obtain ⟨y, rfl⟩ := nat_of j0
    obtain ⟨z, ez, zn, nez⟩ := other_end hx (by omega : y + 1 < n)
    refine ⟨_, _, rfl, rfl, .inl ⟨_, rfl, _, rfl, _, _, rfl, rfl, by omega, ?_⟩⟩
    dsimp only
    rw [ez]
    refine gn ?_
    try dsimp only
    have t2 := seqB (seqB s0 B s1) B1 s2
    have r2 := (rw.bag B0 s1).bag B0 s2
    refine seq_asg ⟨_, rfl, (n : Int), rfl, by omega, by omega, fun D hD => ?_⟩
    rw [show ((n : Int)).toNat = n by omega]
    have Dn : ∀ q ∈ r :: qs, D ≠ q := fun q hq e => by
      rcases List.mem_cons.mp hq with h | h
      · rw [e, h, r2.at_] at hD; cases hD
      · obtain ⟨i, hi⟩ := List.mem_iff_getElem?.mp h
        rw [e, r2.row i q hi] at hD; cases hD
    refine lcF walk_range (fun i => !(decide (i = x)) && !(decide (i = z))) (.refl H2) hD (fun i F y => ∃ k : Int, y = V.int k) (fun _ _ _ _ _ z => z) (by omega) (fun _ _ _ _ => trivial) ?_ ?_
    · rintro i v F' _ H4 Kt Kn hi s4 ⟨rfl, rfl⟩ kt kn
      have r4 := r2.up (s4.ff.trans s4.fh)
      refine ⟨rfl, _, rfl, _, rfl, rfl, _, rfl, ?_⟩
      obtain ⟨qx, hqx, ax, rx⟩ := r4.cell hx
      obtain ⟨qi, hqi, ai⟩ := r4.get hi
      have ri := r4.row i qi hqi
      by_cases e1 : i = x
      · exact iteN (by simp [e1]) (kn (by simp [e1]) _ _ (.refl s4.fh))
      refine iteY (by rw [decide_eq_false (fun e => e1 (by have := V.int.inj e; omega))]; rfl) ⟨_, rfl, _, rfl, rfl, _, rfl, ?_⟩
      by_cases e2 : i = z
      · exact iteN (by simp [e2]) (kn (by simp [e2]) _ _ (.refl s4.fh))
      refine iteY (by rw [decide_eq_false (fun e => e2 (by have := V.int.inj e; omega))]; rfl) ?_
      refine ⟨_, rfl, _, rfl, r, _, _, _, rfl, rfl, SqL.of r4.at_, ax, _, rfl, qx, _, _, _, rfl, rfl, SqL.of rx, row_at hi, ?_⟩
      exact ⟨_, rfl, _, rfl, r, _, _, _, rfl, rfl, SqL.of r4.at_, ai, _, rfl, qi, _, _, _, rfl, rfl, SqL.of ri, row_cell zn, _, _, rfl, rfl, kt (by simp [e1, e2]) _ _ _ (.refl s4.fh) ⟨_, rfl⟩⟩
    · intro F3 H4 ys s4 hD4 pr4
      obtain ⟨ns, rfl⟩ := picked_ints pr4
      have e4 := s4.ff.trans s4.fh
      have hD4 := s4.fh _ _ hD4
      have nsl : ns.length ≤ n := by
        have h1 := Paired.length pr4
        have h2 := List.length_filter_le (fun i => !(decide (i = x)) && !(decide (i = z))) (List.range n)
        rw [List.length_map] at h1
        rw [List.length_range] at h2
        omega
      obtain ⟨t4, B4⟩ := pureB t2 B2 (stp_same t2.fh e4)
      have r4 := r2.up e4
      have Db : D ≠ b := fun e => by
        have := (memB K b).there B2 (x := D) e
        exact this hD
      refine gn ?_
      try dsimp only
      have fin : ∀ {H5 : Hp} (v : Int), Sb b F H0 F H5 → Bag K b F H5 → Raw H0 H5 r qs n f → ∃ q, qs[x]? = some q ∧ H5 q = some (.lst (rowV n (f x))) ∧ Q (.ref r) (upd H5 q (.lst ((rowV n (f x)).set z (.int v)))) := fun {H5} v s B r5 => by
        obtain ⟨q, hq, _, rq⟩ := r5.cell hx
        have qm := List.mem_of_getElem? hq
        have q0 := r5.q0 q qm
        have qb : q ≠ b := fun e => hb (by rw [← e]; exact q0)
        obtain ⟨s', B'⟩ := mutB (o := .lst ((rowV n (f x)).set z (.int v))) s B (hf0.free q0) q0 qb
        exact ⟨q, hq, rq, k _ _ s' B' (r5.put hq)⟩
      refine seq_with (fun σ' H' => ∃ c5 c6, σ' = [some (.ref b), some (.ref r), some (.int (n : Nat)), some (.int (x : Nat)), some (.int (z : Nat)), c5, c6] ∧ Q (.ref r) H') (fun U hU => ?_) ?_
      · refine ⟨_, rfl, by show 0 ≤ sizeLine; decide, fun e0 he0 => ?_⟩
        have e5 := e4.trans (same_new (o := .lst []) he0)
        have hD5 := same_new (o := .lst []) he0 _ _ hD4
        obtain ⟨t5, B5⟩ := pureB t2 B2 (stp_same t2.fh e5)
        have r5 := r2.up e5
        refine ⟨.list (ns.map .int), .list [], .lst (SqL.of hD5) (dpAll_ints ns), .lst (SqL.of upd_same) .nil, ((gd_list (gd_ints (n := 0) ns)).fl).sh (by decide), (Fl.lst (n := 0) .nil).sh (by decide), _, rfl, ?_⟩
        rw [eqv_nil]
        generalize upd H4 e0 (.lst []) = H5 at e5 hD5 t5 B5 r5 ⊢
        by_cases nil : ns = []
        · rw [decide_eq_true (by rw [nil]; rfl)]
          refine iteT ?_
          refine ⟨_, rfl, F, b, 3, rfl, B5, t5.fh, by decide, sz_of 2 (by decide) (by decide), fun H7 d s7 B7 _ _ => ?_⟩
          have t7 := seqB t5 B5 s7
          have r7 := r5.bag B0 s7
          obtain ⟨qz, hqz, az, rz⟩ := r7.cell zn
          obtain ⟨qx, hqx, ax, rx⟩ := r7.cell hx
          refine ⟨_, _, rfl, rfl, _, rfl, _, rfl, r, _, _, _, rfl, rfl, SqL.of r7.at_, az, _, rfl, qz, _, _, _, rfl, rfl, SqL.of rz, row_cell hx, _, _, rfl, rfl, ?_⟩
          obtain ⟨q, hq, rq, kk⟩ := fin (d - 1 - f z x) t7 B7 r7
          rw [hqx] at hq
          cases hq
          dsimp only [gSub]
          exact ⟨_, rfl, _, rfl, r, _, _, _, rfl, rfl, SqL.of r7.at_, ax, _, rfl, qx, _, (z : Nat), z, rfl, rfl, rq, ixN_nat (by omega) (by rw [rowV_len]; omega), hU _ _ ⟨_, _, rfl, kk⟩⟩
        · rw [decide_eq_false (fun e => nil (List.map_eq_nil_iff.mp e))]
          refine iteF ⟨_, rfl, F, b, 3, rfl, B5, t5.fh, by decide, sz_of 2 (by decide) (by decide), fun H6 c s6 B6 => ⟨c, rfl, ?_⟩⟩
          have t6 := seqB t5 B5 s6
          have r6 := r5.bag B0 s6
          cases c with
          | true =>
            refine iteT ?_
            refine ⟨_, rfl, F, b, 3, rfl, B6, t6.fh, by decide, sz_of 2 (by decide) (by decide), fun H7 d s7 B7 _ _ => ?_⟩
            have t7 := seqB t6 B6 s7
            have r7 := r6.bag B0 s7
            obtain ⟨qz, hqz, az, rz⟩ := r7.cell zn
            obtain ⟨qx, hqx, ax, rx⟩ := r7.cell hx
            refine ⟨_, _, rfl, rfl, _, rfl, _, rfl, r, _, _, _, rfl, rfl, SqL.of r7.at_, az, _, rfl, qz, _, _, _, rfl, rfl, SqL.of rz, row_cell hx, _, _, rfl, rfl, ?_⟩
            obtain ⟨q, hq, rq, kk⟩ := fin (d - 1 - f z x) t7 B7 r7
            rw [hqx] at hq
            cases hq
            dsimp only [gSub]
            exact ⟨_, rfl, _, rfl, r, _, _, _, rfl, rfl, SqL.of r7.at_, ax, _, rfl, qx, _, (z : Nat), z, rfl, rfl, rq, ixN_nat (by omega) (by rw [rowV_len]; omega), hU _ _ ⟨_, _, rfl, kk⟩⟩
          | false =>
            have hD6 := s6.hh D _ Db hD5
            refine iteF ⟨_, rfl, D, ns, rfl, SqL.of hD6, List.length_pos_iff.mpr nil, fun m _ _ => ?_⟩
            refine ⟨_, rfl, F, b, 3, rfl, B6, t6.fh, by decide, sz_of 2 (by decide) (by decide), fun H7 d s7 B7 _ _ => ?_⟩
            have t7 := seqB t6 B6 s7
            have r7 := r6.bag B0 s7
            obtain ⟨qx, hqx, ax, rx⟩ := r7.cell hx
            refine ⟨_, _, rfl, rfl, ?_⟩
            obtain ⟨q, hq, rq, kk⟩ := fin (m + d) t7 B7 r7
            rw [hqx] at hq
            cases hq
            dsimp only [gSub]
            exact ⟨_, rfl, _, rfl, r, _, _, _, rfl, rfl, SqL.of r7.at_, ax, _, rfl, qx, _, (z : Nat), z, rfl, rfl, rq, ixN_nat (by omega) (by rw [rowV_len]; omega), hU _ _ ⟨_, _, rfl, kk⟩⟩
      · rintro _ H5 ⟨c5, c6, rfl, kk⟩
        exact ⟨_, rfl, kk⟩
end
end K49

set_option Elab.async false
set_option linter.all false
set_option maxRecDepth 100000
set_option maxHeartbeats 4000000
namespace K49
open PySem PySem.Spec PyProof.Rows L2 Ew
theorem prd_of {α β : Type} {R : α → β → Prop} : ∀ {xs : List α} {ys : List β}, xs.length = ys.length → (∀ (i : Nat) x y, xs[i]? = some x → ys[i]? = some y → R x y) → Paired R xs ys
  | [], [], _, _ => .nil
  | [], _ :: _, h, _ => by simp at h
  | _ :: _, [], h, _ => by simp at h
  | x :: xs, y :: ys, h, k => .cons (k 0 x y rfl rfl) (prd_of (by simpa using h) fun i x y h1 h2 => k (i + 1) x y h1 h2)
section
variable {K : PySem.W.Frag} {b : Addr} {F H H' F' H2 : Hp} {p r : Addr} {qs : List Addr} {n : Nat} {f : Tb2} {Rs : List (List PyData)} {H0 : Hp}
theorem Raw.rawD (h : Raw H0 H' p qs n f) (H1 : Hp) (e : Same H1 H0) (hf : Same F H0) (hb : H0 b ≠ none) : RawD K b H1 F H' p qs (tabL n f) where
  at_ := h.at_
  nd := List.nodup_cons.mpr ⟨h.np, h.nd⟩
  nb := fun x hx z => hb (by
    rw [← z]
    rcases List.mem_cons.mp hx with rfl | hx
    · exact h.p0
    · exact h.q0 x hx)
  fr := hf.free h.p0
  r0 := e.free h.p0
  rows := prd_of (by rw [h.len, tabL_len]) fun i q R h1 h2 => by
    obtain ⟨_, rfl⟩ := tabL_get h2
    exact ⟨hf.free (h.q0 q (List.mem_of_getElem? h1)), e.free (h.q0 q (List.mem_of_getElem? h1)), _, h.row i q h1, dp_rowV⟩
theorem RawD.kp2 (h : RawD K b H0 F H r qs Rs) (np : p ∉ r :: qs) (k : Kp (m2 b p) H H') (e : Same F F') (nw : ∀ x, x ≠ b → H x ≠ none → F x = none → F' x = none) : RawD K b H0 F' H' r qs Rs := by
  have nm : ∀ x ∈ r :: qs, ¬ m2 b p x := fun x hx z => by
    rcases z with z | z
    · exact h.nb x hx z
    · exact np (by rw [← z]; exact hx)
  exact ⟨k r _ (nm r List.mem_cons_self) h.at_, h.nd, h.nb, nw r (h.nb r List.mem_cons_self) (by rw [h.at_]; exact fun z => nomatch z) h.fr, h.r0, prd_imp h.rows fun q R hq z => by
    obtain ⟨z1, z2, xs, z3, z4⟩ := z
    have hq := List.mem_cons_of_mem r hq
    exact ⟨nw q (h.nb q hq) (by rw [z3]; exact fun z => nomatch z) z1, z2, xs, k q _ (nm q hq) z3, dpAll_up e z4⟩⟩
/-- [list(row) for row in rows], of any data -/
theorem copy_ro {v : V} {σ : L2.St} {vs : List Nat} {Q : VK} {i j : Nat} (h0 : σ[i]? = some (some v)) (hv : ∀ x, ((wipe σ vs).set j (some x))[j]? = some (some x)) (hw : ∀ x, wipe ((wipe σ vs).set j (some x)) vs = wipe σ vs) (ro : RoD K false H v Rs) (hn : Rs.length ≤ 1000)
    (k : ∀ H' p, Same H H' → RoD K false H' (.ref p) Rs → Q (.ref p) H') : tLc (iList K (tVar i)) (gName j) tYes (tCB (rLstS K) (tCons (tVar j) tNil)) vs σ H Q := by
  obtain ⟨p, us, rfl, hp, hl, hu⟩ := ro
  refine lc_l h0 hp (fun i F y => ∃ q R, y = V.ref q ∧ Rs[i]? = some R ∧ Its K false F q R) (fun _ _ _ _ e z => by obtain ⟨q, R, z1, z2, z3⟩ := z; exact ⟨q, R, z1, z2, z3.up e⟩) (by omega) ?_ ?_
  · rintro i x F' _ H1 Kt Kn hi s1 ⟨rfl, hx⟩ kk
    obtain ⟨R, hR⟩ : ∃ R, Rs[i]? = some R := ⟨_, List.getElem?_eq_getElem (by omega)⟩
    obtain ⟨q, rfl, xs, hq, hd⟩ := hu i x R hx hR
    refine ⟨hw _, lc_yes ⟨_, hv _, ?_⟩⟩
    dsimp only [tNil]
    refine ⟨q, xs, rfl, .inl (upL (s1.ff.trans s1.fh) hq), fun l hl => ?_⟩
    exact kk (.ref l) _ _ ((Stm.refl s1.fh).newP hl) ⟨l, R, rfl, hR, xs, SqL.of upd_same, dpAll_up (s1.ff.trans (same_new (s1.fh.free hl))) hd⟩
  · intro F1 H1 ys D s1 _ hD hy hr
    refine k H1 D (s1.ff.trans s1.fh) ⟨D, ys, rfl, SqL.of (s1.fh _ _ hD), hy.trans hl, fun i u R h1 h2 => ?_⟩
    obtain ⟨q, R', z1, z2, z3⟩ := hr i u h1
    rw [h2] at z2
    cases z2
    exact ⟨q, z1, z3.up s1.fh⟩
end
section
variable {P : Program} {w : World} {K : PySem.W.Frag} {mg : Str → Option Value} {base : Heap} {a : Ad}
def sp__law_judged (K : PySem.W.Frag) : Sp := fun vs H Q _ => ∃ (F : Hp) (b l r : Addr) (ps : List Spot) (f : Tb2), vs = [.ref b, .ref l, .ref r] ∧ Bag K b F H ∧ Same F H ∧ Sps K false F l ps ∧ OkS ps ∧ ps.length ≤ 21 ∧ Tb K false F (.ref r) ps.length f ∧
  ∀ F' H', Sb b F H F' H' → Bag K b F' H' → Q (.bl true) H'
theorem c__law_judged (T : Txt K mg a) : Cl P w K mg base 8 "_law_judged" P__law_judged (sp__law_judged K) [] :=
  T.d__law_judged.cl sc__law_judged (fun vs H Q E h => by obtain ⟨F, b, l, r, ps, f, rfl, _⟩ := h; rfl) fun f cdv A outer s H vs Q E hr h => by
    obtain ⟨F, b, l, r, ps, f, rfl, B0, hf, hps, ok, p21, tb, k⟩ := h
    obtain ⟨us, hus, hpr⟩ := id hps
    have hus : SqL K F l us := hus
    have hul := Paired.length hpr
    have pos := ok.pos
    refine ⟨_, ((pss_cons (ps_set (i := 3) sc__law_judged.nd rfl (Or.inl rfl) (pe_callTy call_list_of (by rfl) T.n_list (by decide +kernel) (pa_cons (pv 1) pa_nil)))
 (pss_cons (ps_setLc (i := 4) (own := [("_law_row", 11)]) (g := (gName 11)) (by rfl) sc__law_judged.nd rfl rfl (sw_true rfl rfl rfl (by decide +kernel)) (pi_list (pv 2)) (blkOk_by (own := [("_law_row", 11)]) (N := N__law_judged) (sc := defScope s__law_judged) (by decide +kernel)) (fun _ _ _ _ _ => (pg_name (i := 11) sc__law_judged.nd rfl (Or.inl rfl) (hf := .inr rfl))) (fun _ _ _ _ _ => pts_nil) (fun _ _ _ _ _ => (pe_callTy (T := "list") (r := rLstS K) call_lstS (by rfl) T.n_list (by decide +kernel) (pa_cons (pv 11) pa_nil))))
 (pss_cons (ps_if (pt_val (pe_f (c__law_one_in T) (takes_of rfl rfl rfl rfl) hr (by decide) rfl (pa_cons (pv 0) (pa_cons pe_int pa_nil))))
 (pss_one (ps_set (i := 4) sc__law_judged.nd rfl (Or.inl rfl) (pe_f (c__law_edge T) (takes_of rfl rfl rfl rfl) hr (by decide) rfl (pa_cons (pv 0) (pa_cons (pv 4) pa_nil)))))
 (pss_one (ps_for (passes_of rfl) rfl (pi_range1 (by rfl) T.n_range (pa_cons (pe_op op_add pe_int (pe_f (c__law_pick T) (takes_of rfl rfl rfl rfl) hr (by decide) rfl (pa_cons (pv 0) (pa_cons pe_int pa_nil)))) pa_nil)) (pg_name (i := 5) sc__law_judged.nd rfl (Or.inl rfl))
 (pss_one (ps_if (pt_val (pe_f (c__law_one_in T) (takes_of rfl rfl rfl rfl) hr (by decide) rfl (pa_cons (pv 0) (pa_cons pe_int pa_nil))))
 (pss_one (ps_set (i := 3) sc__law_judged.nd rfl (Or.inl rfl) (pe_f (c__law_spoil_spots T) (takes_of rfl rfl rfl rfl) hr (by decide) rfl (pa_cons (pv 0) (pa_cons (pv 3) pa_nil)))))
 (pss_one (ps_set (i := 4) sc__law_judged.nd rfl (Or.inl rfl) (pe_f (c__law_spoil_rows T) (takes_of rfl rfl rfl rfl) hr (by decide) rfl (pa_cons (pv 0) (pa_cons (pv 4) pa_nil))))))))))
 (pss_cons (ps_set (i := 6) sc__law_judged.nd rfl (Or.inl rfl) (pe_f (c__law_due_of T) (takes_of rfl rfl rfl rfl) hr (by decide) rfl (pa_cons (pv 3) (pa_cons (pv 4) pa_nil))))
 (pss_cons (ps_set (i := 7) sc__law_judged.nd rfl (Or.inl rfl) (pe_callTy call_list_of (by rfl) T.n_list (by decide +kernel) (pa_cons (pv 3) pa_nil)))
 (pss_cons (ps_setLc (i := 8) (own := [("_law_row", 11)]) (g := (gName 11)) (by rfl) sc__law_judged.nd rfl rfl (sw_true rfl rfl rfl (by decide +kernel)) (pi_list (pv 4)) (blkOk_by (own := [("_law_row", 11)]) (N := N__law_judged) (sc := defScope s__law_judged) (by decide +kernel)) (fun _ _ _ _ _ => (pg_name (i := 11) sc__law_judged.nd rfl (Or.inl rfl) (hf := .inr rfl))) (fun _ _ _ _ _ => pts_nil) (fun _ _ _ _ _ => (pe_callTy (T := "list") (r := rLstS K) call_lstS (by rfl) T.n_list (by decide +kernel) (pa_cons (pv 11) pa_nil))))
 (pss_cons (ps_set (i := 9) sc__law_judged.nd rfl (Or.inl rfl) (pe_f (c__law_made T) (takes_of rfl rfl rfl rfl) hr (by decide) rfl (pa_cons (pv 7) (pa_cons (pv 8) pa_nil))))
 (pss_cons (ps_if (PW.pt (pw_or (pt_cmpR (op_neD hr.units) (pv 7) (pv 3) (nomark _)) (pw_or1 (pt_cmpR (op_neD hr.units) (pv 8) (pv 4) (nomark _)))))
 (pss_one (ps_ret pe_bl))
 pss_nil)
 (pss_cons (ps_if (pt_cmpR op_isN (pv 6) pe_non (nomark _))
 (pss_one (ps_ret (pe_and (pe_cmpR op_eq (pe_ix ix_tup (pv 9) pe_int (fun _ _ => rfl)) pe_str (nomark _)) (pe_one (pe_f (c__law_right_card T) (takes_of rfl rfl rfl rfl) hr (by decide) rfl (pa_cons (pe_ix ix_tup (pv 9) pe_int (fun _ _ => rfl)) (pa_cons (pv 3) (pa_cons (pv 4) pa_nil))))))))
 pss_nil)
 (pss_cons (ps_if (PW.pt (pw_or (pt_cmpR op_ne (pe_ix ix_tup (pv 9) pe_int (fun _ _ => rfl)) pe_str (nomark _)) (pw_or (pt_not (pt_val (pe_f (c__law_integer T) (takes_of rfl rfl rfl rfl) hr (by decide) rfl (pa_cons (pe_ix ix_tup (pv 9) pe_int (fun _ _ => rfl)) pa_nil)))) (pw_or1 (pt_cmpR op_ne (pe_ix ix_tup (pv 9) pe_int (fun _ _ => rfl)) (pv 6) (nomark _))))))
 (pss_one (ps_ret pe_bl))
 pss_nil)
 (pss_cons (ps_set (i := 10) sc__law_judged.nd rfl (Or.inl rfl) (pe_f (c__law_made T) (takes_of rfl rfl rfl rfl) hr (by decide) rfl (pa_cons (pe_lst pa_nil) (pa_cons (pv 8) pa_nil))))
 (pss_one (ps_ret (pe_and (pe_cmpR op_eq (pe_ix ix_tup (pv 10) pe_int (fun _ _ => rfl)) pe_str (nomark _)) (pe_and (pe_f (c__law_integer T) (takes_of rfl rfl rfl rfl) hr (by decide) rfl (pa_cons (pe_ix ix_tup (pv 10) pe_int (fun _ _ => rfl)) pa_nil)) (pe_one (pe_cmpR op_eq (pe_ix ix_tup (pv 10) pe_int (fun _ _ => rfl)) pe_int (nomark _))))))))))))))))))), ?_⟩
    refine ⟨_, rfl, l, us, rfl, .inl (upL hf hus), fun p hp => ?_⟩
    obtain ⟨t1, B1, pb, p0, fp, g1⟩ := raw1 (o := .lst us) (Stm.refl hf : Sb b F H F H) B0 hp
    have hp1 : (upd H p (.lst us)) p = some (.lst us) := upd_same
    have e1 : Same H (upd H p (.lst us)) := same_new hp
    generalize upd H p (.lst us) = H1 at t1 B1 g1 hp1 e1 ⊢
    refine gn ?_
    try dsimp only
    refine seq_asg (copy_tab (i := 2) (j := 11) rfl (by intro _; rfl) (by intro _; rfl) (tb.up t1.fh) (by omega) fun H2 r2 qs e2 rw2 => ?_)
    refine gn ?_
    try dsimp only
    obtain ⟨t2, B2⟩ := pureB t1 B1 (stp_same t1.fh e2)
    have u2 : Sb b F H1 F H2 := (pureB (Stm.refl t1.fh : Sb b F H1 F H1) B1 (stp_same t1.fh e2)).1
    have hp2 := e2 _ _ hp1
    have dps0 : DpAll K F us (ps.map spD) := sps_all hpr
    have hb1 : H1 b ≠ none := (memB K b).there B1 rfl
    have od0 : OkDs 21 (ps.map spD) := ⟨fun z => by have := ok.pos; rw [List.map_eq_nil_iff.mp z] at this; simp at this, by rw [List.length_map]; exact p21, fun d hd => by
      obtain ⟨s, hs, rfl⟩ := List.mem_map.mp hd
      exact gd_sp (ok.ok s hs)⟩
    have okt : ∀ g : Tb2, OkRs 21 (tabL ps.length g) := fun g => ⟨by rw [tabL_len]; exact p21, fun R hR => by
      obtain ⟨i, hi⟩ := List.mem_iff_getElem?.mp hR
      obtain ⟨_, rfl⟩ := tabL_get hi
      exact ⟨by rw [rowL_len]; exact p21, fun d hd => by
        obtain ⟨j, hj⟩ := List.mem_iff_getElem?.mp hd
        obtain ⟨_, rfl⟩ := rowL_get hj
        exact gd_int⟩⟩
    have pne : ∀ x ∈ r2 :: qs, x ≠ p := fun x hx z => by
      have : H1 x = none := by
        rcases List.mem_cons.mp hx with rfl | hx
        · exact rw2.p0
        · exact rw2.q0 x hx
      rw [z, hp1] at this
      cases this
    refine seq_with (fun σ' H' => ∃ F' r' us' ds' Rs' c5, σ' = [some (.ref b), some (.ref l), some (.ref r), some (.ref p), some (.ref r'), c5, none, none, none, none, none, none] ∧ Sb b F H F' H' ∧ Bag K b F' H' ∧ H' p = some (.lst us') ∧ DpAll K H' us' ds' ∧ OkDs 30 ds' ∧ RoD K false H' (.ref r') Rs' ∧ OkRs 30 Rs') (fun U hU => ?_) ?_
    · refine ⟨_, rfl, F, b, 3, rfl, B2, t2.fh, by decide, sz_of 2 (by decide) (by decide), fun H3 c s3 B3 => ⟨c, rfl, ?_⟩⟩
      have t3 := seqB t2 B2 s3
      cases c with
      | true =>
        refine iteT ⟨_, rfl, _, rfl, F, H1, b, r2, qs, ps.length, f, rfl, t1.fh, B1, seqB u2 B2 s3, B3, rw2.bag B1 s3, pos, p21, fun H4 f' s4 B4 r4 => ?_⟩
        refine hU _ _ ⟨F, r2, us, ps.map spD, tabL ps.length f', _, rfl, seqB t1 B1 s4, B4, s4.hh p _ pb hp1, dpAll_up s4.fh dps0, ⟨od0.ne, Nat.le_trans od0.le (by decide), od0.gd⟩, r4.tb.ro, (okt f').up (by decide)⟩
      | false =>
        refine iteF ⟨_, rfl, F, b, 2, rfl, B3, t3.fh, by decide, sz_of 2 (by decide) (by decide), fun H4 m s4 B4 m0 m1 => ⟨_, _, rfl, rfl, _, rfl, by omega, by omega, ?_⟩⟩
        have t4 := seqB t3 B3 s4
        have rd4 : RawD K b H F H4 r2 qs (tabL ps.length f) := ((rw2.bag B1 s3).bag B1 s4).rawD H e1 t1.fh hb1
        have hp4 := s4.hh p _ pb (s3.hh p _ pb hp2)
        refine for_it walk_range (fun j σ' H' => ∃ F' r' qs' us' ds' Rs' c5, σ' = [some (.ref b), some (.ref l), some (.ref r), some (.ref p), some (.ref r'), c5, none, none, none, none, none, none] ∧ Sb b F H F' H' ∧ Bag K b F' H' ∧ F' p = none ∧ H' p = some (.lst us') ∧ DpAll K F' us' ds' ∧ OkDs (21 + j) ds' ∧ RawD K b H F' H' r' qs' Rs' ∧ OkRs (21 + j) Rs' ∧ p ∉ r' :: qs') ?_ (fun _ _ _ _ _ => trivial) ?_ ?_
        · exact ⟨F, r2, qs, us, _, _, none, rfl, t4, B4, fp, hp4, dps0, od0, rd4, okt f, fun z => pne p z rfl⟩
        · rintro j _ _ _ H5 hj ⟨F5, r5, qs5, us5, ds5, Rs5, c5, rfl, t5, B5, fp5, hp5, dp5, od5, rd5, ok5, np5⟩ ⟨rfl, rfl⟩
          refine gn ?_
          try dsimp only
          refine ⟨_, rfl, F5, b, 2, rfl, B5, t5.fh, by decide, sz_of 2 (by decide) (by decide), fun H6 c s6 B6 => ⟨c, rfl, ?_⟩⟩
          have t6 := seqB t5 B5 s6
          have hp6 := s6.hh p _ pb hp5
          have rd6 := rd5.gw (.sb s6)
          cases c with
          | true =>
            refine iteT ⟨_, rfl, _, rfl, F, H, F5, b, p, us5, ds5, 21 + j, rfl, t6, B6, fp5, p0, pb, hp6, dp5, od5, by omega, fun F7 H7 us7 ds7 t7 B7 e57 nw7 fp7 kp7 hp7 dp7 od7 => ?_⟩
            exact ⟨F7, r5, qs5, us7, ds7, Rs5, _, rfl, t7, B7, fp7, hp7, dp7, od7, rd6.kp2 np5 kp7 e57 nw7, ok5.up (by omega), np5⟩
          | false =>
            refine iteF ⟨_, rfl, _, rfl, F, H, F5, b, r5, qs5, Rs5, 21 + j, rfl, t6, B6, rd6, ok5, by omega, fun F7 H7 r7 qs7 Rs7 t7 B7 e57 nw7 kp7 rd7 ok7 new7 => ?_⟩
            have hp7 := kp7 p _ (fun z => by
              rcases z with z | z
              · exact pb z
              · exact np5 z) hp6
            refine ⟨F7, r7, qs7, us5, ds5, Rs7, _, rfl, t7, B7, nw7 p pb (by rw [hp6]; exact fun z => nomatch z) fp5, hp7, dpAll_up e57 dp5, ⟨od5.ne, by have := od5.le; omega, od5.gd⟩, rd7, ok7, fun z => ?_⟩
            rcases new7 p z with h | h
            · exact np5 h
            · rw [hp6] at h; cases h
        · rintro _ H5 ⟨F5, r5, qs5, us5, ds5, Rs5, c5, rfl, t5, B5, fp5, hp5, dp5, od5, rd5, ok5, np5⟩
          exact hU _ _ ⟨F5, r5, us5, ds5, Rs5, _, rfl, t5, B5, hp5, dpAll_up t5.fh dp5, ⟨od5.ne, by have := od5.le; omega, od5.gd⟩, rd5.ro t5.fh, ok5.up (by omega)⟩
    rintro _ H4 ⟨F4, r4, us4, ds4, Rs4, c5, rfl, t4, B4, hp4, dp4, od4, ro4, ok4⟩
    have its4 : Its K false H4 p ds4 := ⟨us4, SqL.of hp4, dp4⟩
    have fl4 : ∀ d ∈ ds4, Fl 2 d := fun d hd => (od4.gd d hd).fl
    have le4 := od4.le
    have ul4 := dpAll_len dp4
    have lr4 := ok4.le
    have gdD : Gd 3 (.list ds4) := gd_list od4.gd
    have fin : ∀ H', Same H4 H' → Q (.bl true) H' := fun H' e => by
      obtain ⟨t5, B5⟩ := pureB t4 B4 (stp_same t4.fh e)
      exact k F4 H' t5 B5
    refine seq_with (fun σ' H' => ∃ v, σ' = [some (.ref b), some (.ref l), some (.ref r), some (.ref p), some (.ref r4), c5, some v, none, none, none, none, none] ∧ Same H4 H' ∧ ((∃ z, v = .int z ∧ Flaw ds4 Rs4 z) ∨ (v = .non ∧ ∃ qs g, ds4 = qs.map spD ∧ OkS qs ∧ Rs4 = tabL qs.length g ∧ Cld qs.length g))) (fun U hU => ?_) ?_
    · refine ⟨_, rfl, _, rfl, p, _, ds4, Rs4, rfl, its4, by omega, fl4, ro4, by omega, fun R hR => ⟨by have := (ok4.gd R hR).1; omega, fun d hd => ((ok4.gd R hR).2 d hd).fl⟩, fun z fz H5 e5 => ?_, fun qs g g1 g2 g3 g4 H5 e5 => ?_⟩
      · exact hU _ _ ⟨_, rfl, e5, .inl ⟨z, rfl, fz⟩⟩
      · exact hU _ _ ⟨_, rfl, e5, .inr ⟨rfl, qs, g, g1, g2, g3, g4⟩⟩
    rintro _ H5 ⟨v, rfl, e5, due⟩
    refine ⟨_, rfl, p, us4, rfl, .inl (SqL.of (e5 _ _ hp4)), fun hd hhd => ?_⟩
    have e6 := e5.trans (same_new (o := .lst us4) hhd)
    have its6 : Its K false (upd H5 hd (.lst us4)) hd ds4 := ⟨us4, SqL.of upd_same, dpAll_up e6 dp4⟩
    generalize upd H5 hd (.lst us4) = H6 at e6 its6 ⊢
    refine gn ?_
    try dsimp only
    refine seq_asg (copy_ro (i := 4) (j := 11) rfl (by intro _; rfl) (by intro _; rfl) (ro4.up e6) (by omega) fun H7 inn e7 ro7 => ?_)
    refine gn ?_
    try dsimp only
    have e47 := e6.trans e7
    refine seq_with (fun σ' H' => ∃ an, σ' = [some (.ref b), some (.ref l), some (.ref r), some (.ref p), some (.ref r4), c5, some v, some (.ref hd), some (.ref inn), some (.ref an), none, none] ∧ Same H7 H' ∧ ((∃ z, SqT K H' an [.str "bad", .int z] ∧ Flaw ds4 Rs4 z) ∨ (∃ x qs g, SqT K H' an [.str "good", .ref x] ∧ Cd P w K a.Card H' (.ref x) qs g ∧ ds4 = qs.map spD ∧ OkS qs ∧ Rs4 = tabL qs.length g ∧ Cld qs.length g))) (fun U hU => ?_) ?_
    · refine ⟨_, rfl, _, rfl, false, false, hd, _, ds4, Rs4, rfl, its6.up e7, by omega, fl4, ro7, fun qs g g1 g2 g3 g4 H8 an x e8 h8 c8 => ?_, fun z fz H8 an e8 h8 => ?_⟩
      · exact hU _ _ ⟨_, rfl, e8, .inr ⟨x, qs, g, h8, c8, g1, g2, g3, g4⟩⟩
      · exact hU _ _ ⟨_, rfl, e8, .inl ⟨z, h8, fz⟩⟩
    rintro _ H8 ⟨an, rfl, e8, ans⟩
    have e48 := e47.trans e8
    refine ⟨_, rfl, _, rfl, .list ds4, .list ds4, .lst (its6.up (e7.trans e8)).choose_spec.1 (its6.up (e7.trans e8)).choose_spec.2, .lst (SqL.of (e48 _ _ hp4)) (dpAll_up e48 dp4), gdD.fl.sh (by decide), gdD.fl.sh (by decide), _, rfl, ?_⟩
    rw [gdD.eq]
    refine iteF ⟨_, rfl, _, rfl, .list (Rs4.map .list), .list (Rs4.map .list), (ro7.up e8).dp, (ro4.up e48).dp, ok4.gdl.fl.sh (by decide), ok4.gdl.fl.sh (by decide), _, rfl, ?_⟩
    rw [ok4.gdl.eq]
    refine iteF ?_
    rcases due with ⟨z, rfl, fz⟩ | ⟨rfl, qs', g, g1, g2, g3, g4⟩
    · refine ⟨_, rfl, rfl, _, rfl, iteN (by simp) ?_⟩
      obtain ⟨y, h8, fy⟩ : ∃ y, SqT K H8 an [.str "bad", .int y] ∧ Flaw ds4 Rs4 y := by
        rcases ans with h | ⟨x, qs', g, _, _, g1, g2, g3, g4⟩
        · exact h
        · rw [g1, g3] at fz
          exact absurd fz (Flaw.no g2 g4)
      obtain rfl := fz.uniq fy
      refine ⟨_, rfl, an, _, 0, _, rfl, rfl, h8, rfl, rfl, _, rfl, iteN (by decide +kernel) ?_⟩
      refine ⟨_, rfl, an, _, 1, _, rfl, rfl, h8, rfl, _, rfl, .inl ⟨z, rfl, _, rfl, iteF ?_⟩⟩
      refine ⟨_, rfl, an, _, 1, _, rfl, rfl, h8, rfl, _, rfl, rfl, _, rfl, iteN (by simp) ?_⟩
      refine ⟨by show 0 ≤ sizeLine; decide, fun e0 he0 => ?_⟩
      have e9 := e8.trans (same_new (o := .lst []) he0)
      have e89 := same_new (o := .lst []) he0
      have h09 : (upd H8 e0 (.lst [])) e0 = some (.lst []) := upd_same
      generalize upd H8 e0 (.lst []) = H9 at e9 e89 h09 ⊢
      refine ⟨_, rfl, false, false, e0, _, [], Rs4, rfl, ⟨[], SqL.of h09, .nil⟩, by decide, (fun d hd => nomatch hd), ro7.up e9, fun qs g g1 g2 g3 g4 H10 an2 x e10 h10 c10 => ?_, fun z2 fz2 H10 an2 e10 h10 => ?_⟩
      · exfalso
        have := g2.pos
        have h0 : qs = [] := List.map_eq_nil_iff.mp g1.symm
        rw [h0] at this
        simp at this
      · obtain rfl := fz2.uniq (.spot (i := 0) (.inl ⟨rfl, rfl⟩))
        refine gn ?_
        try dsimp only
        refine ⟨_, rfl, an2, _, 0, _, rfl, rfl, h10, rfl, rfl, _, rfl, iteT ?_⟩
        refine ⟨_, rfl, an2, _, 1, _, rfl, rfl, h10, rfl, _, rfl, .inl ⟨_, rfl, _, rfl, iteT ?_⟩⟩
        exact ⟨_, rfl, an2, _, 1, _, rfl, rfl, h10, rfl, rfl, fin _ (e48.trans (e89.trans e10))⟩
    · refine ⟨_, rfl, rfl, _, rfl, iteY (by decide) ?_⟩
      obtain ⟨x, qs, g', h8, c8⟩ : ∃ x qs g', SqT K H8 an [.str "good", .ref x] ∧ Cd P w K a.Card H8 (.ref x) qs g' ∧ ds4 = qs.map spD ∧ Rs4 = tabL qs.length g' := by
        rcases ans with ⟨z, _, fz⟩ | ⟨x, qs, g', h, c, k1, _, k3, _⟩
        · rw [g1, g3] at fz
          exact absurd fz (Flaw.no g2 g4)
        · exact ⟨x, qs, g', h, c, k1, k3⟩
      obtain ⟨c8, k1, k3⟩ := c8
      obtain rfl : qs = qs' := map_spD_inj (k1.symm.trans g1)
      have c8 := c8.congr (tabL_inj (k3.symm.trans g3))
      subst g1
      subst g3
      refine ⟨_, rfl, an, _, 0, _, rfl, rfl, h8, rfl, rfl, _, rfl, iteT ?_⟩
      refine ⟨_, rfl, an, _, 1, _, rfl, rfl, h8, rfl, _, rfl, _, rfl, ?_⟩
      refine ⟨.ref x, _, p, qs, g, rfl, c8, (its4.up e48).sps, g2, (ro4.up e48).tb, fun H9 e9 => fin _ (e48.trans e9)⟩
end
end K49

set_option Elab.async false
set_option linter.all false
set_option maxRecDepth 100000
set_option maxHeartbeats 4000000
namespace K49
open PySem PySem.Spec PyProof.Rows L2 Ew
def sg (ps : List Spot) (k : Nat) : Spot := ps.getD k ground
theorem sg_at {ps : List Spot} {k : Nat} {s : Spot} (h : ps[k]? = some s) : sg ps k = s := by
  unfold sg
  rw [List.getD_eq_getElem?_getD, h]
  rfl
theorem sg_inj {ps : List Spot} (nd : ps.Nodup) {i j : Nat} (hi : i < ps.length) (hj : j < ps.length) (e : sg ps i = sg ps j) : i = j := by
  have e1 := List.getElem?_eq_getElem hi
  have e2 := List.getElem?_eq_getElem hj
  rw [sg_at e1, sg_at e2] at e
  exact (List.getElem?_inj hi nd).mp (by rw [e1, e2, e])
theorem sub_ok {ps : List Spot} {os : List Nat} (ok : OkS ps) (h : ∀ k ∈ os, k < ps.length) (nd : os.Nodup) (h0 : os[0]? = some 0) (hl : os.length ≤ 1000) : OkS (os.map (sg ps)) where
  nd := by
    rw [List.nodup_iff_pairwise_ne, List.pairwise_map]
    refine List.Pairwise.imp_of_mem (fun {a b} ha hb ne e => ne (sg_inj ok.nd (h a ha) (h b hb) e)) (List.nodup_iff_pairwise_ne.mp nd)
  g := by rw [List.getElem?_map, h0]; exact congrArg some (sg_at ok.g)
  ok := fun p hp => by
    obtain ⟨k, hk, rfl⟩ := List.mem_map.mp hp
    have e := List.getElem?_eq_getElem (h k hk)
    rw [sg_at e]
    exact ok.ok _ (List.getElem_mem _)
  le := by rw [List.length_map]; exact hl
/-- the last two turned about -/
def swO (k : Nat) : List Nat := List.range k ++ [k + 1, k]
theorem swO_len {k : Nat} : (swO k).length = k + 2 := by simp [swO]
theorem swO_lt {k : Nat} : ∀ i ∈ swO k, i < k + 2 := fun i hi => by
  unfold swO at hi
  simp only [List.mem_append, List.mem_range, List.mem_cons, List.not_mem_nil, or_false] at hi
  omega
theorem swO_nd {k : Nat} : (swO k).Nodup := by
  unfold swO
  rw [List.nodup_append]
  refine ⟨List.nodup_range, by simp, fun x hx y hy => ?_⟩
  simp only [List.mem_range, List.mem_cons, List.not_mem_nil, or_false] at hx hy
  omega
theorem swO_zero {k : Nat} (h : 1 ≤ k) : (swO k)[0]? = some 0 := by
  unfold swO
  rw [List.getElem?_append_left (by simp; omega), List.getElem?_range (by omega)]
theorem swO_at {k : Nat} : (swO k)[k]? = some (k + 1) := by
  unfold swO
  rw [List.getElem?_append_right (by simp)]
  simp
theorem swO_ne {ps : List Spot} {k : Nat} (nd : ps.Nodup) (h : ps.length = k + 2) : (swO k).map (sg ps) ≠ ps := fun e => by
  have h1 : ((swO k).map (sg ps))[k]? = some (sg ps (k + 1)) := by rw [List.getElem?_map, swO_at]; rfl
  rw [e, List.getElem?_eq_getElem (by omega : k < ps.length)] at h1
  have e1 := List.getElem?_eq_getElem (by omega : k < ps.length)
  have h2 : sg ps k = sg ps (k + 1) := (sg_at e1).trans (Option.some.inj h1)
  have := sg_inj nd (by omega) (by omega) h2
  omega
theorem rg_sw (k : Nat) : rgV 0 (((k : Nat) : Int) + 1 - 1) ++ [V.int (((k : Nat) : Int) + 1), V.int (((k : Nat) : Int) + 1 - 1)] = natV (swO k) := by
  have e : (((k : Nat) : Int) + 1 - 1) = (k : Int) := by omega
  rw [e]
  unfold natV swO rgV
  rw [List.map_append]
  congr 1
  · rw [show (((k : Nat) : Int) - 0).toNat = k by omega]
    refine List.map_congr_left fun i _ => ?_
    rw [Int.zero_add]
section
variable {P : Program} {w : World} {K : PySem.W.Frag} {mg : Str → Option Value} {base : Heap} {a : Ad}
/-- ==, as it is asked -/
theorem eqA {H : Hp} {x y : Addr} {ps qs : List Spot} {f g : Tb2} {b : Bool} {Q : VK} {E : XK} (c1 : Cd P w K a.Card H (.ref x) ps f) (c2 : Cd P w K a.Card H (.ref y) qs g) (ok1 : OkS ps) (ok2 : OkS qs) (eb : b = (decide (ps = qs) && PyData.eqv (tabD ps.length f) (tabD qs.length g))) (k : Q (.bl b) H) :
    ∃ p dx fs, V.ref x = .ref p ∧ H p = some (.ins a.Card dx fs) ∧ RhsAny K a.Card H (.ref y) ∧ sp_eq P w K a [.ref x, .ref y] H Q E := by
  obtain ⟨x', dx, _, _, _, ex, hx, _⟩ := id c1
  obtain ⟨y', dy, _, _, _, ey, hy, _⟩ := id c2
  cases ex
  cases ey
  exact ⟨x, _, _, rfl, hx, .inr (.inr (.inr (.inr ⟨y, rfl, .inl ⟨_, _, hy⟩⟩))), _, _, ps, f, b, rfl, c1, ok1, .inl ⟨qs, g, c2, ok2, eb⟩, k⟩
theorem eqA_no {H : Hp} {x y : Addr} {ps qs : List Spot} {f g : Tb2} {Q : VK} {E : XK} (c1 : Cd P w K a.Card H (.ref x) ps f) (c2 : Cd P w K a.Card H (.ref y) qs g) (ok1 : OkS ps) (ok2 : OkS qs) (ne : ps ≠ qs) (k : Q (.bl false) H) :
    ∃ p dx fs, V.ref x = .ref p ∧ H p = some (.ins a.Card dx fs) ∧ RhsAny K a.Card H (.ref y) ∧ sp_eq P w K a [.ref x, .ref y] H Q E := eqA c1 c2 ok1 ok2 (by rw [decide_eq_false ne]; rfl) k
theorem eqA_yes {H : Hp} {x y : Addr} {ps : List Spot} {f : Tb2} {Q : VK} {E : XK} (c1 : Cd P w K a.Card H (.ref x) ps f) (c2 : Cd P w K a.Card H (.ref y) ps f) (ok1 : OkS ps) (k : Q (.bl true) H) :
    ∃ p dx fs, V.ref x = .ref p ∧ H p = some (.ins a.Card dx fs) ∧ RhsAny K a.Card H (.ref y) ∧ sp_eq P w K a [.ref x, .ref y] H Q E := eqA c1 c2 ok1 ok1 (by rw [decide_eq_true rfl, eqv_tab.mpr fun _ _ _ _ => rfl]; rfl) k
theorem mkW2 {C : Addr} {sp : Sp} {W : WX} {ta tb : TE} {σ : L2.St} {H : Hp} {Q : VK} (h : ta σ H fun v H1 => tb σ H1 fun u H2 => ∀ o d, H2 o = none → H2 d = none → d ≠ o → sp (.ref o :: [v, u]) (upd (upd H2 d (.own o)) o (.ins C d [])) (fun v H3 => v = .non ∧ Q (.ref o) H3) (WE W σ)) : tMkW C sp W (tCons ta (tCons tb tNil)) σ H Q := h
/-- the spots, in an order -/
theorem sub_sps {H : Hp} {σ : L2.St} {q l : Addr} {os : List Nat} {ps : List Spot} {i j il : Nat} {R : VK} (h0 : σ[i]? = some (some (.ref q))) (hq : SqL K H q (natV os)) (hl : Sps K false H l ps) (ho : ∀ k ∈ os, k < ps.length) (le : os.length ≤ 1000)
    (hσ : ∀ x, ((wipe σ [j]).set j (some x))[il]? = some (some (.ref l)) ∧ ((wipe σ [j]).set j (some x))[j]? = some (some x) ∧ wipe ((wipe σ [j]).set j (some x)) [j] = wipe σ [j])
    (k : ∀ H' D, Same H H' → Sps K false H' D (os.map (sg ps)) → R (.ref D) H') : tLc (iList K (tVar i)) (gName j) tYes (tOp (rIxL K) (tVar il) (tVar j)) [j] σ H R := by
  refine lc_l h0 hq (fun j F y => ∃ o, os[j]? = some o ∧ Spt K F y (sg ps o)) (fun _ _ _ _ e z => by obtain ⟨o, z1, z2⟩ := z; exact ⟨o, z1, z2.up e⟩) (by rw [natV_len]; omega) ?_ ?_
  · rintro m x F' _ H5 Kt Kn hj s5 ⟨rfl, hx⟩ kt
    obtain ⟨o, hoj, rfl⟩ := nat_item hx
    have e5 := s5.ff.trans s5.fh
    have ol := ho o (List.mem_of_getElem? hoj)
    obtain ⟨us, u, s, h1, _, h2, h3, h4⟩ := hl.at_ ol
    rw [Int.zero_add] at h4
    obtain ⟨g1, g2, g3⟩ := hσ (.int (o : Nat))
    have h1 : SqL K H l us := h1
    exact ⟨g3, lc_yes ⟨_, g1, _, g2, l, us, _, _, rfl, rfl, upL e5 h1, h4, kt _ _ _ (.refl s5.fh) ⟨o, hoj, by rw [sg_at h2]; exact h3.up s5.ff⟩⟩⟩
  · intro F5 H5 zs D s5 _ hD hz hrz
    rw [natV_len] at hz
    refine k H5 D (s5.ff.trans s5.fh) ⟨zs, SqL.of (s5.fh _ _ hD), prd_of (by rw [List.length_map]; exact hz) fun m y s h1 h2 => ?_⟩
    obtain ⟨o, z1, z2⟩ := hrz m y h1
    rw [List.getElem?_map, z1] at h2
    cases h2
    exact z2.up s5.fh
def sp__law_turned_about (K : PySem.W.Frag) : Sp := fun vs H Q _ => ∃ (l r : Addr) (t : V) (ps : List Spot) (f : Tb2) (sp : Spot), vs = [.ref l, t, .ref r] ∧ Sps K false H l ps ∧ OkS ps ∧ ps.length ≤ 21 ∧ Spt K H t sp ∧ sp ∉ ps ∧ PyData.strOk sp.1 = true ∧ Tb K false H (.ref r) ps.length f ∧ Cld ps.length f ∧ ∀ H', Same H H' → Q (.bl true) H'
theorem c__law_turned_about (T : Txt K mg a) : Cl P w K mg base 7 "_law_turned_about" P__law_turned_about (sp__law_turned_about K) [] :=
  T.d__law_turned_about.cl sc__law_turned_about (fun vs H Q E h => by obtain ⟨l, r, t, ps, f, sp, rfl, _⟩ := h; rfl) fun f cdv A outer s H vs Q E hr h => by
    obtain ⟨l, r, t, ps, f, sp, rfl, hps, ok, p21, ht, nin, sok, tb, hc, k⟩ := h
    obtain ⟨us, hus, hpr⟩ := id hps
    have hus : SqL K H l us := hus
    have hul := Paired.length hpr
    have pos := ok.pos
    refine ⟨_, ((pss_cons (ps_set (i := 3) sc__law_turned_about.nd rfl (Or.inl rfl) (pe_mkW (mk_Card T) (takes_of rfl rfl rfl rfl) hr (by decide) rfl (pa_cons (pv 0) (pa_cons (pv 2) pa_nil))))
 (pss_cons (ps_set (i := 4) sc__law_turned_about.nd rfl (Or.inl rfl) (pe_op op_sub (pe_callB call_len_seq (by rfl) T.n_len (by decide +kernel) (pa_cons (pv 0) pa_nil)) pe_int))
 (pss_cons (ps_if (PW.pt (pw_and (pt_cmpR op_gt (pv 4) pe_int (nomark _)) (pw_and1 (pt_cmp (pc_eqC (o_Card_eq T) T.nf (takes_of rfl rfl rfl rfl) hr (by decide) (pv 3) (pe_mkW (mk_Card T) (takes_of rfl rfl rfl rfl) hr (by decide) rfl (pa_cons (pe_op op_cat (pe_slice sl_list (pv 0) po_none (po_some (pv 4))) (pe_lst (pa_cons (pv 1) pa_nil))) (pa_cons (pv 2) pa_nil)))) rfl))))
 (pss_one (ps_ret pe_bl))
 pss_nil)
 (pss_cons (ps_if (pt_cmpR op_lt (pv 4) pe_int (nomark _))
 (pss_one (ps_ret pe_bl))
 pss_nil)
 (pss_cons (ps_set (i := 5) sc__law_turned_about.nd rfl (Or.inr rfl) (pe_op op_cat (pe_listRg rfl (by rfl) T.n_list (prg_1 (by rfl) T.n_range (pe_op op_sub (pv 4) pe_int))) (pe_lst (pa_cons (pv 4) (pa_cons (pe_op op_sub (pv 4) pe_int) pa_nil)))))
 (pss_cons (ps_set (i := 6) sc__law_turned_about.nd rfl (Or.inl rfl) (pe_mkW (mk_Card T) (takes_of rfl rfl rfl rfl) hr (by decide) rfl (pa_cons (pe_lc (own := [("_law_k", 7)]) (g := (gName 7)) (by rfl) sc__law_turned_about.nd (pi_list (pv 5)) (blkOk_by (own := [("_law_k", 7)]) (N := N__law_turned_about) (sc := defScope s__law_turned_about) (by decide +kernel)) (fun _ _ _ _ _ => (pg_name (i := 7) sc__law_turned_about.nd rfl (Or.inl rfl) (hf := .inr rfl))) (fun _ _ _ _ _ => pts_nil) (fun _ _ _ _ _ => (pe_ix (r := rIxL K) ix_list (pv 0) (pv 7) (fun _ _ => rfl)))) (pa_cons (pe_lc (own := [("_law_j", 8)]) (g := (gName 8)) (by rfl) sc__law_turned_about.nd (pi_list (pv 5)) (blkOk_by (own := [("_law_j", 8)]) (N := N__law_turned_about) (sc := defScope s__law_turned_about) (by decide +kernel)) (fun _ _ _ _ _ => (pg_name (i := 8) sc__law_turned_about.nd rfl (Or.inr rfl) (hf := .inl rfl))) (fun _ _ _ _ _ => pts_nil) (fun _ _ _ _ _ => (by show PE _ _ (tLc (iList K (tVar 5)) (gName 7) tYes (tOp (rIxL K) (tOp (rIxL K) (tVar 2) (tVar 8)) (tVar 7)) [7]); exact (pe_lc (own := [("_law_k", 7)]) (g := (gName 7)) (by rfl) sc__law_turned_about.nd (pi_list (pv 5)) (blkOk_by (own := [("_law_k", 7)]) (N := N__law_turned_about) (by rfl)) (fun _ _ _ _ _ => (pg_name (i := 7) sc__law_turned_about.nd rfl (Or.inl rfl) (hf := .inr rfl))) (fun _ _ _ _ _ => pts_nil) (fun _ _ _ _ _ => (pe_ix (r := rIxL K) ix_list (pe_ix (r := rIxL K) ix_list (pv 2) (pv 8) (fun _ _ => rfl)) (pv 7) (fun _ _ => rfl))))))) pa_nil))))
 (pss_one (ps_ret (pe_and (pe_not (pe_cmp (pc_eqC (o_Card_eq T) T.nf (takes_of rfl rfl rfl rfl) hr (by decide) (pv 3) (pv 6)) rfl)) (pe_and (pe_not (pe_cmp (pc_eqC (o_Card_eq T) T.nf (takes_of rfl rfl rfl rfl) hr (by decide) (pv 6) (pv 3)) rfl)) (pe_one (pe_cmp (pc_eqC (o_Card_eq T) T.nf (takes_of rfl rfl rfl rfl) hr (by decide) (pv 3) (pe_mkW (mk_Card T) (takes_of rfl rfl rfl rfl) hr (by decide) rfl (pa_cons (pv 0) (pa_cons (pv 2) pa_nil)))) rfl))))))))))))), ?_⟩
    refine ⟨_, rfl, _, rfl, mk_cd (t1 := false) (t2 := false) hps ok tb hc fun H1 x1 e1 _ cd1 => ?_⟩
    refine gn ?_
    try dsimp only
    refine ⟨_, rfl, l, us, rfl, .inl (upL e1 hus), _, _, rfl, rfl, ?_⟩
    refine gn ?_
    try dsimp only
    refine seq_with (fun σ' H' => σ' = [some (.ref l), some t, some (.ref r), some (.ref x1), some (.int (((us.length : Nat) : Int) - 1)), none, none, none, none] ∧ Same H1 H') (fun U hU => ?_) ?_
    · refine ⟨_, rfl, _, _, rfl, rfl, _, rfl, ?_⟩
      by_cases n1 : ps.length ≤ 1
      · exact iteN (by rw [decide_eq_false (by omega)]; decide) (hU _ _ ⟨rfl, .refl H1⟩)
      refine iteY (decide_eq_true (by omega)) ?_
      refine ⟨_, rfl, _, rfl, _, rfl, _, rfl, l, us, rfl, upL e1 hus, fun s1 hs1 => ?_⟩
      have ec : cutV us none (some (((us.length : Nat) : Int) - 1)) = us.take (us.length - 1) := by
        rw [cut_toI _ (by omega)]
        congr 1
        omega
      rw [ec]
      have f2 := same_new (o := .lst (us.take (us.length - 1))) hs1
      have e2 := e1.trans f2
      have c2 : (upd H1 s1 (.lst (us.take (us.length - 1)))) s1 = some (.lst (us.take (us.length - 1))) := upd_same
      have cd2 := cd1.up (same_new (o := .lst (us.take (us.length - 1))) hs1)
      generalize upd H1 s1 (.lst (us.take (us.length - 1))) = H2 at e2 f2 c2 cd2 ⊢
      refine ⟨_, rfl, by show 1 ≤ sizeLine; decide, fun d1 hd1 => ?_⟩
      have e3 := same_new (o := .lst [t]) hd1
      have c3 : (upd H2 d1 (.lst [t])) d1 = some (.lst [t]) := upd_same
      generalize upd H2 d1 (.lst [t]) = H3 at e3 c3 ⊢
      refine ⟨s1, d1, _, _, rfl, rfl, e3 _ _ c2, c3, by rw [List.length_take, sizeLine_eq]; show _ + 1 ≤ _; omega, fun c1 hc1 => ?_⟩
      have e4 := same_new (o := .lst (us.take (us.length - 1) ++ [t])) hc1
      have c4 : (upd H3 c1 (.lst (us.take (us.length - 1) ++ [t]))) c1 = some (.lst (us.take (us.length - 1) ++ [t])) := upd_same
      generalize upd H3 c1 (.lst (us.take (us.length - 1) ++ [t])) = H4 at e4 c4 ⊢
      have e24 := e3.trans e4
      have e04 := e2.trans e24
      have cd4 := cd2.up e24
      have nin' : ∀ s ∈ ps.take (us.length - 1), s ≠ sp := fun s hs e => nin (by rw [← e]; exact List.mem_of_mem_take hs)
      have ql : (ps.take (us.length - 1) ++ [sp]).length = ps.length := by simp only [List.length_append, List.length_take, List.length_singleton]; omega
      have okq : OkS (ps.take (us.length - 1) ++ [sp]) := by
        refine ⟨?_, ?_, fun p hp => ?_, by rw [ql]; exact ok.le⟩
        · rw [List.nodup_append]
          exact ⟨List.Nodup.sublist (List.take_sublist _ _) ok.nd, by simp, fun x hx y hy => by rw [List.mem_singleton.mp hy]; exact nin' x hx⟩
        · rw [List.getElem?_append_left (by rw [List.length_take]; omega), List.getElem?_take, if_pos (by omega)]
          exact ok.g
        · rcases List.mem_append.mp hp with hp | hp
          · exact ok.ok p (List.mem_of_mem_take hp)
          · rw [List.mem_singleton.mp hp]
            exact sok
      have sq : Sps K false H4 c1 (ps.take (us.length - 1) ++ [sp]) := ⟨_, SqL.of c4, prd_app (prd_take _ (Paired.mapP hpr fun _ _ z => z.up e04)) (.cons (ht.up e04) .nil)⟩
      refine ⟨_, rfl, mk_cd (t1 := false) (t2 := false) sq okq (by rw [ql]; exact tb.up e04) (by rw [ql]; exact hc) fun H5 x2 e5 _ cd5 => ?_⟩
      refine eqA_no (cd4.up e5) cd5 ok okq (fun e => nin (by rw [e]; simp)) ?_
      exact ⟨_, rfl, iteF (hU _ _ ⟨rfl, f2.trans (e24.trans e5)⟩)⟩
    rintro _ H2 ⟨rfl, e12⟩
    have e2 := e1.trans e12
    have cd1 := cd1.up e12
    refine ⟨_, rfl, _, _, rfl, rfl, _, rfl, ?_⟩
    by_cases n2 : ps.length ≤ 2
    · exact iteY (decide_eq_true (by omega)) (k _ e2)
    refine iteN (by rw [decide_eq_false (by omega)]; decide) ?_
    obtain ⟨m, hm⟩ : ∃ m, ps.length = m + 2 := ⟨ps.length - 2, by omega⟩
    have el : (((us.length : Nat) : Int) - 1) = ((m : Nat) : Int) + 1 := by omega
    rw [el]
    refine ⟨_, rfl, _, _, rfl, rfl, _, rfl, RgOk.of_le (by omega) (by omega) (by omega) (by omega), fun q1 h1 => ?_⟩
    have g3 := same_new (o := .lst (rgV 0 (((m : Nat) : Int) + 1 - 1))) h1
    have e3 := e2.trans g3
    have cd1 := cd1.up g3
    have c3 : (upd H2 q1 (.lst (rgV 0 (((m : Nat) : Int) + 1 - 1)))) q1 = some (.lst (rgV 0 (((m : Nat) : Int) + 1 - 1))) := upd_same
    generalize upd H2 q1 (.lst (rgV 0 (((m : Nat) : Int) + 1 - 1))) = H3 at e3 c3 cd1 ⊢
    refine ⟨_, rfl, _, rfl, _, _, rfl, rfl, by show 2 ≤ sizeLine; decide, fun q2 h2 => ?_⟩
    have g4 := same_new (o := .lst [.int (((m : Nat) : Int) + 1), .int (((m : Nat) : Int) + 1 - 1)]) h2
    have c4 : (upd H3 q2 (.lst [.int (((m : Nat) : Int) + 1), .int (((m : Nat) : Int) + 1 - 1)])) q2 = some (.lst [.int (((m : Nat) : Int) + 1), .int (((m : Nat) : Int) + 1 - 1)]) := upd_same
    generalize upd H3 q2 (.lst [.int (((m : Nat) : Int) + 1), .int (((m : Nat) : Int) + 1 - 1)]) = H4 at g4 c4 ⊢
    have rgl : (rgV 0 (((m : Nat) : Int) + 1 - 1)).length = m := by rw [rgV_length]; omega
    refine ⟨q1, q2, _, _, rfl, rfl, g4 _ _ c3, c4, by rw [rgl, sizeLine_eq]; show m + 2 ≤ _; omega, fun od hod => ?_⟩
    rw [rg_sw]
    have g5 := g4.trans (same_new (o := .lst (natV (swO m))) hod)
    have e5 := e3.trans g5
    have cd1 := cd1.up g5
    have c5 : (upd H4 od (.lst (natV (swO m)))) od = some (.lst (natV (swO m))) := upd_same
    generalize upd H4 od (.lst (natV (swO m))) = H5 at e5 c5 cd1 ⊢
    refine gn ?_
    try dsimp only
    have lt : ∀ i ∈ swO m, i < ps.length := by rw [hm]; exact swO_lt
    have sl : (swO m).length = ps.length := by rw [swO_len, hm]
    refine seq_asg (mkW2 ?_)
    refine sub_sps (i := 5) (j := 7) (il := 0) rfl (SqL.of c5) (hps.up e5) lt (by omega) (fun x => ⟨rfl, rfl, rfl⟩) fun H6 D1 e6 sD1 => ?_
    refine sub_tab (n := ps.length) (f := f) (i := 5) rfl (SqL.of (e6 _ _ c5)) lt (by omega) (fun x => ⟨rfl, rfl, fun y => rfl⟩) (fun H7 xa yb Kt e7 hxa hyb kt => ?_) fun H7 D2 e7 tD2 => ?_
    · obtain ⟨rp, rus, rq, er, z1, z2, z3⟩ := (tb.up (e5.trans (e6.trans e7))).cell hxa
      cases er
      have z1 : SqL K H7 r rus := z1
      exact ⟨_, rfl, _, rfl, r, _, _, _, rfl, rfl, z1, z2, _, rfl, rq, _, _, _, rfl, rfl, z3, row_cell hyb, kt⟩
    have okq : OkS ((swO m).map (sg ps)) := sub_ok ok lt swO_nd (swO_zero (by omega)) (by omega)
    have ql : ((swO m).map (sg ps)).length = (swO m).length := List.length_map _
    refine mk_cd (t1 := false) (t2 := false) (sD1.up e7) okq (by rw [ql]; exact tD2) (by rw [ql]; exact sub_cld hc lt) fun H8 x2 e8 _ cd2 => ?_
    refine gn ?_
    try dsimp only
    have e58 := e6.trans (e7.trans e8)
    have cd1 := cd1.up e58
    have ne : ps ≠ (swO m).map (sg ps) := fun e => swO_ne ok.nd hm e.symm
    refine ⟨_, rfl, _, rfl, eqA_no cd1 cd2 ok okq ne ?_⟩
    refine ⟨_, rfl, _, rfl, iteT ?_⟩
    refine ⟨_, rfl, _, rfl, eqA_no cd2 cd1 okq ok (Ne.symm ne) ?_⟩
    refine ⟨_, rfl, _, rfl, iteT ?_⟩
    refine ⟨_, rfl, _, rfl, _, rfl, mk_cd (t1 := false) (t2 := false) (hps.up (e5.trans e58)) ok (tb.up (e5.trans e58)) hc fun H9 x3 e9 _ cd3 => ?_⟩
    exact eqA_yes (cd1.up e9) cd3 ok (k _ ((e5.trans e58).trans e9))
end
end K49

set_option Elab.async false
set_option linter.all false
set_option maxRecDepth 100000
set_option maxHeartbeats 4000000
namespace K49
open PySem PySem.Spec PyProof.Rows L2 Ew
/-- only a dict with plain keys may have changed -/
def NB (H H' : Hp) : Prop := ∀ p o, H p = some o → (∀ kvs, o ≠ HO.dK kvs) → H' p = some o
section
variable {K : PySem.W.Frag} {H H' H2 : Hp} {p : Addr} {xs : List V} {t : Bool} {v : V} {n : Nat} {f : Tb2} {ps : List Spot}
theorem NB.of (e : Same H H') : NB H H' := fun p o h _ => e p o h
theorem NB.trans (h : NB H H') (k : NB H' H2) : NB H H2 := fun p o e n => k p o (h p o e n) n
theorem rd_nb {u : HO} (e : NB H H') (h : Rd H p u) (n : ∀ kvs, u ≠ HO.dK kvs) : Rd H' p u := by
  rcases h with h | ⟨o, h⟩
  · exact .inl (e p _ h n)
  · exact .inr ⟨o, e p _ h fun _ z => nomatch z⟩
theorem sqT_nb (e : NB H H') (h : SqT K H p xs) : SqT K H' p xs := h.imp (fun z => rd_nb e z fun _ q => nomatch q) id
theorem sqL_nb (e : NB H H') (h : SqL K H p xs) : SqL K H' p xs := h.imp (fun z => rd_nb e z fun _ q => nomatch q) id
theorem Sq.nb (h : Sq K t H p xs) (e : NB H H') : Sq K t H' p xs := by
  cases t
  · exact sqL_nb e h
  · exact sqT_nb e h
theorem Spt.nb {s : Spot} (h : Spt K H v s) (e : NB H H') : Spt K H' v s := by obtain ⟨q, h1, h2⟩ := h; exact ⟨q, h1, sqT_nb e h2⟩
theorem Sps.nb (h : Sps K t H p ps) (e : NB H H') : Sps K t H' p ps := by
  obtain ⟨us, h1, h2⟩ := h
  exact ⟨us, h1.nb e, Paired.mapP h2 fun v q z => z.nb e⟩
theorem Tb.nb (h : Tb K t H v n f) (e : NB H H') : Tb K t H' v n f := by
  obtain ⟨p, us, h1, h2, h3, h4⟩ := h
  exact ⟨p, us, h1, h2.nb e, h3, fun i u hu => by obtain ⟨q, z1, z2⟩ := h4 i u hu; exact ⟨q, z1, z2.nb e⟩⟩
theorem Dtx_nb {P : Program} {w : World} {d : Addr} {kvs : List (List Key × V)} (h : Dtx P w K H d kvs) (e : NB H H') : Dtx P w K H' d kvs := by
  obtain ⟨h1, ys, h2, h3⟩ := h
  exact ⟨h1, ys, Paired.mapP h2 fun _ _ z => ⟨z.1, sqT_nb e z.2.1, z.2.2⟩, e _ _ h3 fun _ q => nomatch q⟩
theorem Cd.nb {P : Program} {w : World} {C : Addr} (h : Cd P w K C H v ps f) (e : NB H H') : Cd P w K C H' v ps f := by
  obtain ⟨x, dx, sp, d, rw, h1, h2, h3, h4, h5⟩ := h
  exact ⟨x, dx, sp, d, rw, h1, e _ _ h2 (fun _ q => nomatch q), h3.nb e, Dtx_nb h4 e, h5.nb e⟩
theorem bag_nb {b : Addr} {F F' : Hp} (B : Bag K b F H) (s : Sb b F H F' H') : NB H H' := fun x o hx no => by
  refine s.hh x o (fun z => ?_) hx
  obtain ⟨_, la, nns, at_, rest, mixed, count, _, _, _, q4⟩ := B
  rw [z, q4] at hx
  cases hx
  exact no _ rfl
end
mutual
theorem dp_nb {K : PySem.W.Frag} {H H' : Hp} (e : NB H H') : ∀ {v : V} {d : PyData}, Dp K H v d → Dp K H' v d
  | _, _, .non => .non
  | _, _, .bl b => .bl b
  | _, _, .int i => .int i
  | _, _, .str x => .str x
  | _, _, .lst h t => .lst (sqL_nb e h) (dpAll_nb e t)
  | _, _, .tup h t => .tup (sqT_nb e h) (dpAll_nb e t)
theorem dpAll_nb {K : PySem.W.Frag} {H H' : Hp} (e : NB H H') : ∀ {vs : List V} {ds : List PyData}, DpAll K H vs ds → DpAll K H' vs ds
  | _, _, .nil => .nil
  | _, _, .cons h t => .cons (dp_nb e h) (dpAll_nb e t)
end
theorem FstOut.uniq {ps : List Spot} {ds : List PyData} {i j : Nat} (h : FstOut ps ds i) (k : FstOut ps ds j) : i = j := by
  obtain ⟨d, h1, h2⟩ := h.out
  obtain ⟨e, k1, k2⟩ := k.out
  rcases Nat.lt_trichotomy i j with c | c | c
  · have := k.bef i d c h1
    rw [h2] at this
    cases this
  · exact c
  · have := h.bef j e c k1
    rw [k2] at this
    cases this
theorem FstOut.no {ps fs : List Spot} {i : Nat} (h : ∀ s ∈ fs, s ∈ ps) : ¬ FstOut ps (fs.map spD) i := fun k => by
  obtain ⟨d, h1, h2⟩ := k.out
  rw [List.getElem?_map, Option.map_eq_some_iff] at h1
  obtain ⟨s, h3, rfl⟩ := h1
  rw [inC_sp, decide_eq_true (h s (List.mem_of_getElem? h3))] at h2
  cases h2
theorem FstOut.noA {ps ss : List Spot} {ds : List PyData} {i : Nat} (h : AllIn ps ds ss) : ¬ FstOut ps ds i := by
  rw [h.1]
  exact FstOut.no h.2
/-- a foreign spot put in -/
theorem fst_ins {ps fs : List Spot} {sp : Spot} {n : Nat} (es : List Spot) (h : ∀ s ∈ fs, s ∈ ps) (hn : n ≤ fs.length) (nin : sp ∉ ps) : FstOut ps ((fs.take n ++ [sp] ++ fs.drop n ++ es).map spD) n := by
  have l : (fs.take n).length = n := by rw [List.length_take]; omega
  refine ⟨fun j d hj hd => ?_, spD sp, ?_, by rw [inC_sp, decide_eq_false nin]⟩
  · rw [List.getElem?_map, Option.map_eq_some_iff] at hd
    obtain ⟨s, h1, rfl⟩ := hd
    rw [List.append_assoc, List.append_assoc, List.getElem?_append_left (by omega), List.getElem?_take, if_pos hj] at h1
    rw [inC_sp, decide_eq_true (h s (List.mem_of_getElem? h1))]
  · rw [List.getElem?_map, List.append_assoc, List.append_assoc, List.getElem?_append_right (by omega), l, Nat.sub_self]
    rfl
theorem picked_sps {K : PySem.W.Frag} {F : Hp} {ps : List Spot} : ∀ {ys : List V}, (∀ (j : Nat) y, ys[j]? = some y → ∃ s, s ∈ ps ∧ Spt K F y s) → ∃ fs : List Spot, Paired (fun v q => Spt K F v q) ys fs ∧ ∀ s ∈ fs, s ∈ ps
  | [], _ => ⟨[], .nil, fun s hs => nomatch hs⟩
  | y :: ys, h => by
    obtain ⟨s, h1, h2⟩ := h 0 y rfl
    obtain ⟨fs, h3, h4⟩ := picked_sps (ys := ys) fun j y e => h (j + 1) y e
    exact ⟨s :: fs, .cons h2 h3, fun x hx => by
      rcases List.mem_cons.mp hx with rfl | hx
      · exact h1
      · exact h4 x hx⟩
section
variable {P : Program} {w : World} {K : PySem.W.Frag} {mg : Str → Option Value} {base : Heap} {a : Ad}
def sp__law_cuts (K : PySem.W.Frag) : Sp := fun vs H Q _ => ∃ (F : Hp) (b l t r : Addr) (ps : List Spot) (f : Tb2) (nm : Str), vs = [.ref b, .ref l, .ref t, .ref r] ∧ Bag K b F H ∧ Same F H ∧ Sps K false F l ps ∧ OkS ps ∧ ps.length ≤ 21 ∧ Spt K F (.ref t) (nm, 0, 0) ∧ PyData.strOk nm = true ∧ (nm, 0, 0) ∉ ps ∧ Tb K false F (.ref r) ps.length f ∧ Cld ps.length f ∧
  ∀ F' H', Sb b F H F' H' → Bag K b F' H' → Q (.bl true) H'
theorem c__law_cuts (T : Txt K mg a) : Cl P w K mg base 10 "_law_cuts" P__law_cuts (sp__law_cuts K) [] :=
  T.d__law_cuts.cl sc__law_cuts (fun vs H Q E h => by obtain ⟨F, b, l, t, r, ps, f, nm, rfl, _⟩ := h; rfl) fun f cdv A outer s H vs Q E hr h => by
    obtain ⟨F, b, l, t, r, ps, f, nm, rfl, B0, hf, hps, ok, p21, ht, snm, nin, tb, hc, k⟩ := h
    obtain ⟨us, hus, hpr⟩ := id hps
    have hus : SqL K F l us := hus
    have hul := Paired.length hpr
    have psp := ok.pos
    refine ⟨_, ((pss_cons (ps_set (i := 4) sc__law_cuts.nd rfl (Or.inl rfl) (pe_mkW (mk_Card T) (takes_of rfl rfl rfl rfl) hr (by decide) rfl (pa_cons (pv 1) (pa_cons (pv 3) pa_nil))))
 (pss_cons (ps_setLc (i := 5) (own := [("_law_k", 15)]) (g := (gName 15)) (by rfl) sc__law_cuts.nd rfl rfl (sw_true rfl rfl rfl (by decide +kernel)) (pi_range1 (by rfl) T.n_range (pa_cons (pe_f (c__law_pick T) (takes_of rfl rfl rfl rfl) hr (by decide) rfl (pa_cons (pv 0) (pa_cons pe_int pa_nil))) pa_nil)) (blkOk_by (own := [("_law_k", 15)]) (N := N__law_cuts) (sc := defScope s__law_cuts) (by decide +kernel)) (fun _ _ _ _ _ => (pg_name (i := 15) sc__law_cuts.nd rfl (Or.inl rfl) (hf := .inr rfl))) (fun _ _ _ _ _ => pts_nil) (fun _ _ _ _ _ => (pe_f (c__law_choice T) takes0 hr (by decide) rfl (pa_cons (pv 0) (pa_cons (pv 1) pa_nil)))))
 (pss_cons (ps_set (i := 6) sc__law_cuts.nd rfl (Or.inl rfl) (pe_lst (pa_cons (pe_f0 (c__law_ground T) hr (by decide) rfl) pa_nil)))
 (pss_cons (ps_for (passes_of rfl) rfl (pi_list (pv 5)) (pg_name (i := 7) sc__law_cuts.nd rfl (Or.inl rfl))
 (pss_one (ps_if (pt_cmpR (op_notInD (units5 hr)) (pv 7) (pv 6) (by rfl))
 (pss_one (ps_expr (pe_bm PySem.F.plainAttrs_list PySem.F.slot_list_append PySem.F.type_list_append mt_append (pv 6) (pa_cons (pv 7) pa_nil))))
 pss_nil)))
 (pss_cons (ps_set (i := 8) sc__law_cuts.nd rfl (Or.inr rfl) (pe_lc (own := [("_law_spot", 7)]) (g := (gName 7)) (by rfl) sc__law_cuts.nd (pi_list (pv 6)) (blkOk_by (own := [("_law_spot", 7)]) (N := N__law_cuts) (sc := defScope s__law_cuts) (by decide +kernel)) (fun _ _ _ _ _ => (pg_name (i := 7) sc__law_cuts.nd rfl (Or.inl rfl) (hf := .inr rfl))) (fun _ _ _ _ _ => pts_nil) (fun _ _ _ _ _ => (by show PE _ _ (tBM K "list" (rIndexD K) (tVar 1) (tCons (tVar 7) tNil)); exact pe_bm PySem.F.plainAttrs_list PySem.F.slot_list_index PySem.F.type_list_index (mt_indexD (by exact units5 hr)) (pv 1) (pa_cons (pv 7) pa_nil)))))
 (pss_cons (ps_setLc (i := 9) (own := [("_law_a", 16)]) (g := (gName 16)) (by rfl) sc__law_cuts.nd rfl rfl (sw_true rfl rfl rfl (by decide +kernel)) (pi_list (pv 8)) (blkOk_by (own := [("_law_a", 16)]) (N := N__law_cuts) (sc := defScope s__law_cuts) (by decide +kernel)) (fun _ _ _ _ _ => (pg_name (i := 16) sc__law_cuts.nd rfl (Or.inr rfl) (hf := .inl rfl))) (fun _ _ _ _ _ => pts_nil) (fun _ _ _ _ _ => (by show PE _ _ (tLc (iList K (tVar 8)) (gName 17) tYes (tOp (rIxL K) (tOp (rIxL K) (tVar 3) (tVar 16)) (tVar 17)) [17]); exact (pe_lc (own := [("_law_b", 17)]) (g := (gName 17)) (by rfl) sc__law_cuts.nd (pi_list (pv 8)) (blkOk_by (own := [("_law_b", 17)]) (N := N__law_cuts) (by rfl)) (fun _ _ _ _ _ => (pg_name (i := 17) sc__law_cuts.nd rfl (Or.inl rfl) (hf := .inr rfl))) (fun _ _ _ _ _ => pts_nil) (fun _ _ _ _ _ => (pe_ix (r := rIxL K) ix_list (pe_ix (r := rIxL K) ix_list (pv 3) (pv 16) (fun _ _ => rfl)) (pv 17) (fun _ _ => rfl)))))))
 (pss_cons (ps_set (i := 10) sc__law_cuts.nd rfl (Or.inl rfl) (pe_callTy call_list_of (by rfl) T.n_list (by decide +kernel) (pa_cons (pv 5) pa_nil)))
 (pss_cons (ps_set (i := 11) sc__law_cuts.nd rfl (Or.inl rfl) (pe_f (c__law_cut T) (takes_of rfl rfl rfl rfl) hr (by decide) rfl (pa_cons (pv 4) (pa_cons (pv 10) pa_nil))))
 (pss_cons (ps_if (PW.pt (pw_or (pt_cmpR op_ne (pe_ix ix_tup (pv 11) pe_int (fun _ _ => rfl)) pe_str (nomark _)) (pw_or (pt_cmpR (op_neD hr.units) (pv 10) (pv 5) (nomark _)) (pw_or1 (pt_not (pt_val (pe_f (c__law_right_card T) (takes_of rfl rfl rfl rfl) hr (by decide) rfl (pa_cons (pe_ix ix_tup (pv 11) pe_int (fun _ _ => rfl)) (pa_cons (pv 6) (pa_cons (pv 9) pa_nil))))))))))
 (pss_one (ps_ret pe_bl))
 pss_nil)
 (pss_cons (ps_set (i := 12) sc__law_cuts.nd rfl (Or.inl rfl) (pe_f (c__law_pick T) (takes_of rfl rfl rfl rfl) hr (by decide) rfl (pa_cons (pv 0) (pa_cons (pe_op op_add (pe_callB call_len_seq (by rfl) T.n_len (by decide +kernel) (pa_cons (pv 5) pa_nil)) pe_int) pa_nil))))
 (pss_cons (ps_set (i := 13) sc__law_cuts.nd rfl (Or.inl rfl) (pe_op op_cat (pe_op op_cat (pe_slice sl_list (pv 5) po_none (po_some (pv 12))) (pe_lst (pa_cons (pv 2) pa_nil))) (pe_slice sl_list (pv 5) (po_some (pv 12)) po_none)))
 (pss_cons (ps_if (pt_val (pe_f (c__law_one_in T) (takes_of rfl rfl rfl rfl) hr (by decide) rfl (pa_cons (pv 0) (pa_cons pe_int pa_nil))))
 (pss_one (ps_set (i := 13) sc__law_cuts.nd rfl (Or.inl rfl) (pe_op op_cat (pv 13) (pe_lst (pa_cons (pe_tup (pa_cons (pe_ix ix_tup (pv 2) pe_int (fun _ _ => rfl)) (pa_cons pe_int (pa_cons pe_int pa_nil)))) pa_nil)))))
 pss_nil)
 (pss_cons (ps_if (PW.pt (pw_or (pt_cmpR (op_neD hr.units) (pe_f (c__law_cut T) (takes_of rfl rfl rfl rfl) hr (by decide) rfl (pa_cons (pv 4) (pa_cons (pv 13) pa_nil))) (pe_tup (pa_cons pe_str (pa_cons (pv 2) pa_nil))) (nomark _)) (pw_or1 (pt_not (pt_val (pe_f (c__law_right_card T) (takes_of rfl rfl rfl rfl) hr (by decide) rfl (pa_cons (pv 4) (pa_cons (pv 1) (pa_cons (pv 3) pa_nil)))))))))
 (pss_one (ps_ret pe_bl))
 pss_nil)
 (pss_cons (ps_set (i := 14) sc__law_cuts.nd rfl (Or.inl rfl) (pe_f (c__law_cut T) (takes_of rfl rfl rfl rfl) hr (by decide) rfl (pa_cons (pv 4) (pa_cons (pe_callTy call_tupS (by rfl) T.n_tuple (by decide +kernel) (pa_cons (pv 5) pa_nil)) pa_nil))))
 (pss_one (ps_ret (pe_and (pe_cmpR op_eq (pe_ix ix_tup (pv 14) pe_int (fun _ _ => rfl)) pe_str (nomark _)) (pe_and (pe_cmp (pc_eqC (o_Card_eq T) T.nf (takes_of rfl rfl rfl rfl) hr (by decide) (pe_ix ix_tup (pv 14) pe_int (fun _ _ => rfl)) (pe_ix ix_tup (pv 11) pe_int (fun _ _ => rfl))) rfl) (pe_one (pe_f (c__law_right_card T) (takes_of rfl rfl rfl rfl) hr (by decide) rfl (pa_cons (pe_ix ix_tup (pv 11) pe_int (fun _ _ => rfl)) (pa_cons (pv 6) (pa_cons (pv 9) pa_nil)))))))))))))))))))))))), ?_⟩
    refine ⟨_, rfl, _, rfl, mk_cd (t1 := false) (t2 := false) (hps.up hf) ok (tb.up hf) hc fun H1 x1 e1 _ cd1 => ?_⟩
    refine gn ?_
    try dsimp only
    obtain ⟨s1, B1⟩ := pureB (Stm.refl hf : Sb b F H F H) B0 (stp_same hf e1)
    refine seq_asg ⟨_, rfl, F, b, 8, rfl, B1, s1.fh, by decide, sz_of 4 (by decide) (by decide), fun H2 m s2 B2 m0 m1 => ⟨m, rfl, by omega, by omega, fun D hD => ?_⟩⟩
    have hD1 : H1 D = none := s2.fresh (fun x z => (memB K b).there B2 z) hD
    refine lcM (memB K b) walk_range s2.fh B2 hD (fun i F y => ∃ s, s ∈ ps ∧ Spt K F y s) (fun _ _ _ _ e z => by obtain ⟨s, z1, z2⟩ := z; exact ⟨s, z1, z2.up e⟩) (by omega) (fun _ _ _ _ => trivial) ?_ ?_
    · rintro i x F' _ H3 Kt Kn hi s3 B3 ⟨rfl, rfl⟩ kk
      refine ⟨rfl, lc_yes ⟨_, rfl, _, rfl, F', b, _, us, rfl, .inl ⟨l, rfl, upL s3.ff hus⟩, by rintro rfl; simp at hul; omega, by omega, B3, s3.fh, fun H4 v j s4 B4 hv => ?_⟩⟩
      obtain ⟨s, hs, hq⟩ := paired_get hpr hv
      exact kk _ F' H4 s4 B4 ⟨s, List.mem_of_getElem? hs, hq.up s3.ff⟩
    intro F3 H3 ys s3 B3 hD3 hy hr3
    obtain ⟨fs, hfs, fin⟩ := picked_sps hr3
    have t3 := seqB (seqB s1 B1 s2) B2 s3
    have fl := Paired.length hfs
    have f8 : fs.length ≤ 8 := by omega
    have nb13 : NB H1 H3 := (bag_nb B1 s2).trans (bag_nb B2 s3)
    have cd3 := cd1.nb nb13
    have ff := t3.ff
    have hD3 : SqL K H3 D ys := SqL.of (s3.fh _ _ hD3)
    have few3 : Sps K false H3 D fs := ⟨ys, hD3, Paired.mapP hfs fun _ _ z => z.up s3.fh⟩
    have hps3 := (hps.up ff).up t3.fh
    have tb3 := (tb.up ff).up t3.fh
    have ht3 := (ht.up ff).up t3.fh
    refine gn ?_
    try dsimp only
    refine ⟨rfl, fun tg htg => ⟨by show 1 ≤ sizeLine; decide, fun kl hkl => ?_⟩⟩
    have e34 := same_new (o := .tup (spV ground)) htg
    have sg4 : Spt K (upd H3 tg (.tup (spV ground))) (.ref tg) ground := ⟨tg, rfl, SqT.of upd_same⟩
    generalize upd H3 tg (.tup (spV ground)) = H4 at e34 sg4 hkl ⊢
    refine gn ?_
    try dsimp only
    have hk5 : (upd H4 kl (.lst [.ref tg])) kl = some (.lst [.ref tg]) := upd_same
    have e45 : Same H4 (upd H4 kl (.lst [.ref tg])) := same_new hkl
    generalize upd H4 kl (.lst [.ref tg]) = H5 at hk5 e45 ⊢
    have hD4 : SqL K H4 D ys := upL e34 hD3
    have fs4 : Paired (fun v q => Spt K H4 v q) ys fs := Paired.mapP hfs fun _ _ z => (z.up t3.fh).up e34
    have fok : ∀ s ∈ fs, PyData.strOk s.1 = true := fun s hs => ok.ok s (fin s hs)
    refine ⟨_, rfl, D, rfl, ⟨ys, upL e45 hD4⟩, ?_⟩
    refine for_it (walk_list (xs := ys)) (fun j σ' H' => ∃ xs c7, σ' = [some (.ref b), some (.ref l), some (.ref t), some (.ref r), some (.ref x1), some (.ref D), some (.ref kl), c7, none, none, none, none, none, none, none, none, none, none] ∧ Same H4 H' ∧ H' kl = some (.lst xs) ∧ Paired (fun v q => Spt K H4 v q) xs (onceG (fs.take j))) ?_ ?_ ?_ ?_
    · exact ⟨[.ref tg], none, rfl, e45, hk5, .cons sg4 .nil⟩
    · rintro j σ' H' _ ⟨xs, c7, _, e5, _⟩
      exact upL e5 hD4
    · rintro j x _ H6 _ hj ⟨xs, c7, rfl, e6, h6, pr6⟩ ⟨rfl, hx⟩
      obtain ⟨s, hs, hq⟩ := paired_get fs4 hx
      refine gn ?_
      try dsimp only
      have okj : ∀ s ∈ onceG (fs.take j), PyData.strOk s.1 = true := onceL_all _ (fun s hs => by rw [List.mem_singleton.mp hs]; decide +kernel) fun s hs => fok s (List.mem_of_mem_take hs)
      have flk : Fl 2 (.list ((onceG (fs.take j)).map spD)) := Fl.lst (FlA.all fun d hd => by
        obtain ⟨s, hs, rfl⟩ := List.mem_map.mp hd
        exact fl_sp (okj s hs))
      have kll : (onceG (fs.take j)).length ≤ 20 := by
        have := onceL_len (l := [ground]) (fs.take j)
        rw [List.length_singleton, List.length_take] at this
        unfold onceG
        omega
      refine ⟨_, rfl, _, rfl, spD s, (onceG (fs.take j)).map spD, (hq.up e6).dp, .lst (SqL.of h6) (dps pr6 fun v q y => (y.up e6).dp), (fl_sp (fok s (List.mem_of_getElem? hs))).sh (by decide), flk.sh (by decide), _, rfl, ?_⟩
      rw [any_sp]
      have tk : onceG (fs.take (j + 1)) = if s ∈ onceG (fs.take j) then onceG (fs.take j) else onceG (fs.take j) ++ [s] := by
        rw [List.take_add_one, hs]
        exact onceL_snoc _ _ _
      by_cases q : s ∈ onceG (fs.take j)
      · rw [decide_eq_true q]
        rw [if_pos q] at tk
        exact iteF ⟨xs, _, rfl, e6, h6, by rw [tk]; exact pr6⟩
      · rw [decide_eq_false q]
        rw [if_neg q] at tk
        refine iteT ⟨_, rfl, .inl ⟨rfl, _, SqL.of h6⟩, _, rfl, kl, _, _, rfl, rfl, h6, ?_, ?_⟩
        · have := Paired.length pr6
          rw [sizeLine_eq]
          omega
        · exact ⟨xs ++ [x], _, rfl, same_mut e6 hkl, upd_same, by rw [tk]; exact Paired.snoc pr6 hq⟩
    rintro _ H6 ⟨kxs, c7, rfl, e46, h6, kpr⟩
    rw [show ys.length = fs.length by omega, List.take_length] at kpr
    have kep6 : Sps K false H6 kl (onceG fs) := ⟨kxs, SqL.of h6, Paired.mapP kpr fun _ _ z => z.up e46⟩
    have okc := once_ok ok fin (by omega)
    have cl := okc.le
    have kln := Paired.length kpr
    have e36 := e34.trans e46
    refine seq_asg (lc_l (i := 6) rfl (SqL.of h6) (fun j F y => ∃ o, (cutO ps fs)[j]? = some o ∧ y = V.int (o : Nat)) (fun _ _ _ _ _ z => z) (by omega) ?_ ?_)
    · rintro j x F' _ H7 Kt Kn hj s7 ⟨rfl, hx⟩ kt
      obtain ⟨s, hs, hq⟩ := paired_get kpr hx
      have e7 := s7.ff.trans s7.fh
      have sin := once_in ok fin s (List.mem_of_getElem? hs)
      refine ⟨rfl, lc_yes ⟨_, rfl, .inl ⟨rfl, us, ?_⟩, _, rfl, l, _, spD s, ps.map spD, pos ps s, spD s, rfl, rfl, ?_, ((hq.up e46).up e7).dp, ?_, (fl_sp (ok.ok s sin)).sh (by decide), by rw [List.getElem?_map, pos_at sin]; rfl, by rw [eqv_sp, decide_eq_true rfl], fun m z' hm hz => ?_, ?_⟩⟩
      · exact upL (e36.trans e7) (upL t3.fh (upL ff hus))
      · exact .lst (upL (e36.trans e7) (upL t3.fh (upL ff hus))) (sps_all (Paired.mapP hpr fun _ _ z => ((z.up ff).up t3.fh).up (e36.trans e7)))
      · exact (Fl.lst (n := 1) (FlA.all fun d hd => by
          obtain ⟨s, hs, rfl⟩ := List.mem_map.mp hd
          exact fl_sp (ok.ok s hs))).sh (by decide)
      · rw [List.getElem?_map, Option.map_eq_some_iff] at hz
        obtain ⟨s', h1, rfl⟩ := hz
        rw [eqv_sp, decide_eq_false fun e => pos_fst hm (by rw [h1, e])]
      · exact kt _ _ _ (.refl s7.fh) ⟨pos ps s, by unfold cutO; rw [List.getElem?_map, hs]; rfl, rfl⟩
    intro F7 H7 zs pl s7 hpl0 hpl hz hrz
    obtain rfl : zs = natV (cutO ps fs) := natV_of (by rw [cutO_len]; omega) hrz
    have e67 : Same H6 H7 := s7.ff.trans s7.fh
    have hpl := s7.fh _ _ hpl
    refine gn ?_
    try dsimp only
    have e37 := e36.trans e67
    refine seq_asg (sub_tab (n := ps.length) (f := f) (i := 8) rfl (SqL.of hpl) (cutO_lt ok fin) (by rw [cutO_len]; exact cl) (fun x => ⟨rfl, rfl, fun y => rfl⟩) (fun H8 xa yb Kt e8 hxa hyb kt => ?_) fun H8 dd e78 tdd => ?_)
    · obtain ⟨rp, rus, rq, er, z1, z2, z3⟩ := (tb3.up (e37.trans e8)).cell hxa
      cases er
      have z1 : SqL K H8 r rus := z1
      exact ⟨_, rfl, _, rfl, r, _, _, _, rfl, rfl, z1, z2, _, rfl, rq, _, _, _, rfl, rfl, z3, row_cell hyb, kt⟩
    refine gn ?_
    try dsimp only
    have e38 := e37.trans e78
    rw [cutO_len] at tdd
    refine ⟨_, rfl, D, ys, rfl, .inl (upL e38 hD3), fun hd hhd => ?_⟩
    have e89 := same_new (o := .lst ys) hhd
    have h9 : (upd H8 hd (.lst ys)) hd = some (.lst ys) := upd_same
    generalize upd H8 hd (.lst ys) = H9 at e89 h9 ⊢
    refine gn ?_
    try dsimp only
    have e39 := e38.trans e89
    have dp3 : DpAll K H3 ys (fs.map spD) := sps_all (Paired.mapP hfs fun _ _ z => z.up t3.fh)
    have lfs : (fs.map spD).length = fs.length := List.length_map _
    refine ⟨_, rfl, _, rfl, false, hd, _, ps, f, ys, fs.map spD, rfl, cd3.up e39, ok, SqL.of h9, dpAll_up e39 dp3, by omega, fun ss al H10 an z e10 h10 c10 => ?_, fun i u _ fo => absurd fo (FstOut.no fin)⟩
    obtain rfl : fs = ss := map_spD_inj al.1
    have e3A := e39.trans e10
    refine gn ?_
    try dsimp only
    refine ⟨_, rfl, an, _, 0, _, rfl, rfl, h10, rfl, rfl, _, rfl, iteN (by decide +kernel) ?_⟩
    have flf : Fl 2 (.list (fs.map spD)) := Fl.lst (FlA.all fun d hd => by
      obtain ⟨s, hs, rfl⟩ := List.mem_map.mp hd
      exact fl_sp (fok s hs))
    refine ⟨_, rfl, _, rfl, .list (fs.map spD), .list (fs.map spD), .lst (SqL.of (e10 _ _ h9)) (dpAll_up e3A dp3), .lst (upL e3A hD3) (dpAll_up e3A dp3), flf.sh (by decide), flf.sh (by decide), _, rfl, ?_⟩
    rw [PyData.eqv, eqvAll_map eqv_sp, decide_eq_true rfl]
    refine iteF ?_
    refine ⟨_, rfl, an, _, 1, _, rfl, rfl, h10, rfl, _, rfl, _, rfl, z, _, kl, onceG fs, subT f (cutO ps fs), rfl, c10, (kep6.up (e67.trans (e78.trans (e89.trans e10)))), okc, tdd.up (e89.trans e10), fun H11 e11 => ⟨true, rfl, iteF ?_⟩⟩
    have e3B := e3A.trans e11
    have h11 := upT e11 h10
    have c11 := c10.up e11
    have kep11 := kep6.up (e67.trans (e78.trans (e89.trans (e10.trans e11))))
    have tdd11 := tdd.up (e89.trans (e10.trans e11))
    obtain ⟨t11, B11⟩ := pureB t3 B3 (stp_same t3.fh e3B)
    refine ⟨_, rfl, _, rfl, D, ys, rfl, .inl (upL e3B hD3), _, _, rfl, rfl, F3, b, _, rfl, B11, t11.fh, by omega, (by rw [show (((ys.length : Nat) : Int) + 1) = ((ys.length + 1 : Nat) : Int) by omega]; exact sz_len (by omega)), fun H12 at_ s12 B12 a0 a1 => ?_⟩
    refine gn ?_
    try dsimp only
    have nb : NB H3 H12 := (NB.of e3B).trans (bag_nb B11 s12)
    have t12 := seqB t11 B11 s12
    obtain ⟨n, rfl⟩ := nat_of a0
    have hD12 := sqL_nb nb hD3
    have hyl : ys.length = fs.length := fl
    have nle : n ≤ fs.length := by omega
    have ct : cutV ys none (some ((n : Nat) : Int)) = ys.take n := cut_to ys n
    have cf : cutV ys (some ((n : Nat) : Int)) none = ys.drop n := cut_from ys (by omega)
    refine ⟨_, rfl, _, rfl, _, rfl, D, ys, rfl, hD12, fun q1 hq1 => ?_⟩
    rw [ct]
    have g1 := same_new (o := .lst (ys.take n)) hq1
    have c1 : (upd H12 q1 (.lst (ys.take n))) q1 = some (.lst (ys.take n)) := upd_same
    generalize upd H12 q1 (.lst (ys.take n)) = H13 at g1 c1 ⊢
    refine ⟨_, rfl, by show 1 ≤ sizeLine; decide, fun q2 hq2 => ?_⟩
    have g2 := same_new (o := .lst [V.ref t]) hq2
    have c2 : (upd H13 q2 (.lst [V.ref t])) q2 = some (.lst [V.ref t]) := upd_same
    generalize upd H13 q2 (.lst [V.ref t]) = H14 at g2 c2 ⊢
    refine ⟨q1, q2, _, _, rfl, rfl, g2 _ _ c1, c2, by rw [List.length_take, sizeLine_eq]; show _ + 1 ≤ _; omega, fun q3 hq3 => ?_⟩
    have g3 := same_new (o := .lst (ys.take n ++ [V.ref t])) hq3
    have c3 : (upd H14 q3 (.lst (ys.take n ++ [V.ref t]))) q3 = some (.lst (ys.take n ++ [V.ref t])) := upd_same
    generalize upd H14 q3 (.lst (ys.take n ++ [V.ref t])) = H15 at g3 c3 ⊢
    refine ⟨_, rfl, _, rfl, _, rfl, D, ys, rfl, upL (g1.trans (g2.trans g3)) hD12, fun q4 hq4 => ?_⟩
    rw [cf]
    have g4 := same_new (o := .lst (ys.drop n)) hq4
    have c4 : (upd H15 q4 (.lst (ys.drop n))) q4 = some (.lst (ys.drop n)) := upd_same
    generalize upd H15 q4 (.lst (ys.drop n)) = H16 at g4 c4 ⊢
    refine ⟨q3, q4, _, _, rfl, rfl, g4 _ _ c3, c4, by rw [List.length_append, List.length_take, List.length_drop, sizeLine_eq]; show _ + 1 + _ ≤ _; omega, fun q5 hq5 => ?_⟩
    have g5 := same_new (o := .lst (ys.take n ++ [V.ref t] ++ ys.drop n)) hq5
    have c5 : (upd H16 q5 (.lst (ys.take n ++ [V.ref t] ++ ys.drop n))) q5 = some (.lst (ys.take n ++ [V.ref t] ++ ys.drop n)) := upd_same
    generalize upd H16 q5 (.lst (ys.take n ++ [V.ref t] ++ ys.drop n)) = H17 at g5 c5 ⊢
    refine gn ?_
    try dsimp only
    have g15 := g1.trans (g2.trans (g3.trans (g4.trans g5)))
    obtain ⟨t17, B17⟩ := pureB t12 B12 (stp_same t12.fh g15)
    have nb17 : NB H3 H17 := nb.trans (.of g15)
    have dps : ∀ {Hx : Hp}, NB H3 Hx → DpAll K Hx (ys.take n ++ [V.ref t] ++ ys.drop n) ((fs.take n ++ [((nm, 0, 0) : Spot)] ++ fs.drop n).map spD) := fun {Hx} e => by
      have h1 := dpAll_nb e dp3
      rw [List.map_append, List.map_append, List.map_take, List.map_drop]
      exact dpAll_app (dpAll_app (dpAll_take _ h1) (.cons (ht3.nb e).dp .nil)) (dpAll_drop _ h1)
    have itn : (ys.take n ++ [V.ref t] ++ ys.drop n)[n]? = some (V.ref t) := by
      rw [List.append_assoc, List.getElem?_append_right (by rw [List.length_take]; omega), List.length_take, show n - min n ys.length = 0 by omega]
      rfl
    have lfo : (fs.take n ++ [((nm, 0, 0) : Spot)] ++ fs.drop n).length ≤ 9 := by simp only [List.length_append, List.length_take, List.length_drop, List.length_singleton]; omega
    refine seq_with (fun σ' H' => ∃ fo us' ds', σ' = [some (.ref b), some (.ref l), some (.ref t), some (.ref r), some (.ref x1), some (.ref D), some (.ref kl), c7, some (.ref pl), some (.ref dd), some (.ref hd), some (.ref an), some (.int (n : Nat)), some (.ref fo), none, none, none, none] ∧ NB H3 H' ∧ NB H17 H' ∧ Sb b F H F3 H' ∧ Bag K b F3 H' ∧ SqL K H' fo us' ∧ DpAll K H' us' ds' ∧ FstOut ps ds' n ∧ us'[n]? = some (.ref t) ∧ ds'.length ≤ 500) (fun U hU => ?_) ?_
    · refine ⟨_, rfl, F3, b, 2, rfl, B17, t17.fh, by decide, sz_of 2 (by decide) (by decide), fun H18 c s18 B18 => ⟨c, rfl, ?_⟩⟩
      have t18 := seqB t17 B17 s18
      have nbc := bag_nb B17 s18
      have nb18 := nb17.trans nbc
      have c18 := sqL_nb nbc (SqL.of (K := K) c5)
      cases c with
      | false =>
        refine iteF (hU _ _ ⟨q5, _, _, rfl, nb18, nbc, t18, B18, c18, dps nb18, ?_, itn, by rw [List.length_map]; omega⟩)
        have := fst_ins (ps := ps) (sp := (nm, 0, 0)) [] fin nle nin
        rwa [List.append_nil] at this
      | true =>
        obtain ⟨_, et, htt⟩ := ht3.nb nb18
        cases et
        refine iteT ⟨_, rfl, _, rfl, t, _, 0, _, rfl, rfl, htt, rfl, by show 3 ≤ sizeLine; decide, fun q6 hq6 => ?_⟩
        have g6 := same_new (o := .tup (spV (nm, 1, 0))) hq6
        have s6 : Spt K (upd H18 q6 (.tup (spV (nm, 1, 0)))) (.ref q6) (nm, 1, 0) := ⟨q6, rfl, SqT.of upd_same⟩
        have es : HO.tup [V.str nm, V.int 1, V.int 0] = HO.tup (spV (nm, 1, 0)) := rfl
        have f6 : (upd H18 q6 (.tup (spV (nm, 1, 0)))) q5 = some (.lst (ys.take n ++ [V.ref t] ++ ys.drop n)) := g6 _ _ (by
          have := s18.hh q5 _ (fun z => by
            have := (memB K b).there B17 z
            rw [z] at c5
            obtain ⟨_, _, _, _, _, _, _, _, _, _, q4'⟩ := B17
            rw [c5] at q4'
            cases q4') c5
          exact this)
        refine ⟨by show 1 ≤ sizeLine; decide, fun q7 hq7 => ?_⟩
        have g7 := same_new (o := .lst [V.ref q6]) hq7
        refine ⟨q5, q7, _, _, rfl, rfl, g7 _ _ f6, upd_same, by simp only [List.length_append, List.length_take, List.length_drop, List.length_singleton]; rw [sizeLine_eq]; omega, fun q8 hq8 => ?_⟩
        have g8 := g6.trans (g7.trans (same_new (o := .lst (ys.take n ++ [V.ref t] ++ ys.drop n ++ [V.ref q6])) hq8))
        have g78 := g7.trans (same_new (o := .lst (ys.take n ++ [V.ref t] ++ ys.drop n ++ [V.ref q6])) hq8)
        obtain ⟨t20, B20⟩ := pureB t18 B18 (stp_same t18.fh g8)
        have nb20 := nb18.trans (.of g8)
        refine hU _ _ ⟨q8, ys.take n ++ [V.ref t] ++ ys.drop n ++ [V.ref q6], _, rfl, nb20, nbc.trans (.of g8), t20, B20, SqL.of upd_same, dpAll_app (dps nb20) (.cons (s6.up g78).dp .nil), ?_, ?_, ?_⟩
        · have := fst_ins (ps := ps) (sp := (nm, 0, 0)) [(nm, 1, 0)] fin nle nin
          rwa [List.map_append] at this
        · rw [List.getElem?_append_left (List.getElem?_eq_some_iff.mp itn).1]
          exact itn
        · rw [List.length_append, List.length_map, List.length_singleton]
          omega
    rintro _ H18 ⟨fo, us', ds', rfl, nb18, nb178, t18, B18, hfo, dfo, fst, itn', lfo'⟩
    have cd18 := cd3.nb nb18
    refine ⟨_, rfl, _, rfl, false, fo, _, ps, f, us', ds', rfl, cd18, ok, hfo, dfo, lfo', fun ss al => absurd fst (FstOut.noA al), fun i u hu fi H19 r19 e19 h19 => ?_⟩
    obtain rfl := fi.uniq fst
    rw [itn'] at hu
    cases hu
    refine ⟨_, rfl, by show 2 ≤ sizeLine; decide, fun q9 hq9 => ?_⟩
    have e20 := e19.trans (same_new (o := .tup [V.str "no", V.ref t]) hq9)
    have gno : Gd 3 (.tuple [.str "no", spD (nm, 0, 0)]) := gd_tup (gdc (gd_str (by decide +kernel)) (gdc (gd_sp snm) gd0))
    have tn : ∀ {Hx : Hp} {q : Addr}, Spt K Hx (.ref t) (nm, 0, 0) → SqT K Hx q [V.str "no", V.ref t] → Dp K Hx (.ref q) (.tuple [.str "no", spD (nm, 0, 0)]) := fun a b => .tup b (.cons (.str _) (.cons a.dp .nil))
    have ht18 := ht3.nb nb18
    refine ⟨_, _, tn (ht18.up e20) (upT (same_new hq9) h19), tn (ht18.up e20) (SqT.of upd_same), gno.fl.sh (by decide), gno.fl.sh (by decide), _, rfl, ?_⟩
    rw [gno.eq]
    generalize upd H19 q9 (.tup [V.str "no", V.ref t]) = H20 at e20
    refine iteF ?_
    refine ⟨_, rfl, _, rfl, _, rfl, .ref x1, _, l, ps, f, rfl, cd18.up e20, (hps3.nb nb18).up e20, ok, (tb3.nb nb18).up e20, fun H21 e21 => ⟨true, rfl, iteF ?_⟩⟩
    have e1821 := e20.trans e21
    refine ⟨_, rfl, _, rfl, ?_⟩
    dsimp only [tNil]
    refine tuple_of (t := false) (xs := ys) (upL e1821 (sqL_nb nb18 hD3)) fun H22 tq e22 htq => ?_
    have e1822 := e1821.trans e22
    refine ⟨true, tq, _, ps, f, ys, fs.map spD, rfl, cd18.up e1822, ok, htq, dpAll_up e1822 (dpAll_nb nb18 dp3), by omega, fun ss al H23 an2 z2 e23 h23 c23 => ?_, fun i u _ fo => absurd fo (FstOut.no fin)⟩
    obtain rfl : fs = ss := map_spD_inj al.1
    have e1823 := e1822.trans e23
    refine gn ?_
    try dsimp only
    have nb1118 : NB H11 H18 := (bag_nb B11 s12).trans ((NB.of g15).trans nb178)
    have h11' := upT e1823 (sqT_nb nb1118 h11)
    have c11' := (c11.nb nb1118).up e1823
    refine ⟨_, rfl, an2, _, 0, _, rfl, rfl, h23, rfl, rfl, _, rfl, iteT ?_⟩
    obtain ⟨zx, _, _, _, _, rfl, _⟩ := id c11'
    obtain ⟨zy, _, _, _, _, rfl, _⟩ := id c23
    refine ⟨_, rfl, an2, _, 1, _, rfl, rfl, h23, rfl, _, rfl, an, _, 1, _, rfl, rfl, h11', rfl, ?_⟩
    refine eqA_yes c23 c11' okc ?_
    refine ⟨_, rfl, iteT ?_⟩
    refine ⟨_, rfl, an, _, 1, _, rfl, rfl, h11', rfl, _, rfl, _, rfl, .ref zx, _, kl, onceG fs, subT f (cutO ps fs), rfl, c11', (kep11.nb nb1118).up e1823, okc, (tdd11.nb nb1118).up e1823, fun H24 e24 => ?_⟩
    obtain ⟨t24, B24⟩ := pureB t18 B18 (stp_same t18.fh (e1823.trans e24))
    exact k F3 H24 t24 B24
end
end K49

set_option Elab.async false
set_option linter.all false
set_option maxRecDepth 100000
set_option maxHeartbeats 4000000
namespace K49
open PySem PySem.Spec PyProof.Rows L2 Ew
/-- only dicts with plain keys and lists may have changed -/
def NL (H H' : Hp) : Prop := ∀ p o, H p = some o → (∀ kvs, o ≠ HO.dK kvs) → (∀ l, o ≠ HO.lst l) → H' p = some o
section
variable {K : PySem.W.Frag} {H H' H2 : Hp} {p : Addr} {xs : List V} {v : V} {n : Nat} {f : Tb2} {ps : List Spot}
theorem NL.of (e : NB H H') : NL H H' := fun p o h k _ => e p o h k
theorem NL.refl : NL H H := fun _ _ h _ _ => h
theorem NL.trans (h : NL H H') (k : NL H' H2) : NL H H2 := fun p o e n m => k p o (h p o e n m) n m
theorem NL.mut {o : HO} (h : H p = some (.lst xs)) : NL H (upd H p o) := fun q u e _ m => by
  rw [upd_ne (fun z => by rw [z, h] at e; cases e; exact m _ rfl)]
  exact e
theorem sqT_nl (e : NL H H') (h : SqT K H p xs) : SqT K H' p xs := by
  rcases h with h | h
  · refine .inl ?_
    rcases h with h | ⟨o, h⟩
    · exact .inl (e p _ h (fun _ q => nomatch q) fun _ q => nomatch q)
    · exact .inr ⟨o, e p _ h (fun _ q => nomatch q) fun _ q => nomatch q⟩
  · exact .inr h
theorem Sps.nl (h : Sps K true H p ps) (e : NL H H') : Sps K true H' p ps := by
  obtain ⟨us, h1, h2⟩ := h
  exact ⟨us, sqT_nl e h1, Paired.mapP h2 fun v q z => by obtain ⟨r, z1, z2⟩ := z; exact ⟨r, z1, sqT_nl e z2⟩⟩
theorem Tb.nl (h : Tb K true H v n f) (e : NL H H') : Tb K true H' v n f := by
  obtain ⟨p, us, h1, h2, h3, h4⟩ := h
  exact ⟨p, us, h1, sqT_nl e h2, h3, fun i u hu => by obtain ⟨q, z1, z2⟩ := h4 i u hu; exact ⟨q, z1, sqT_nl e z2⟩⟩
theorem Dtx_nl {P : Program} {w : World} {d : Addr} {kvs : List (List Key × V)} (h : Dtx P w K H d kvs) (e : NL H H') : Dtx P w K H' d kvs := by
  obtain ⟨h1, ys, h2, h3⟩ := h
  exact ⟨h1, ys, Paired.mapP h2 fun _ _ z => ⟨z.1, sqT_nl e z.2.1, z.2.2⟩, e _ _ h3 (fun _ q => nomatch q) fun _ q => nomatch q⟩
theorem Cd.nl {P : Program} {w : World} {C : Addr} (h : Cd P w K C H v ps f) (e : NL H H') : Cd P w K C H' v ps f := by
  obtain ⟨x, dx, sp, d, rw, h1, h2, h3, h4, h5⟩ := h
  exact ⟨x, dx, sp, d, rw, h1, e _ _ h2 (fun _ q => nomatch q) (fun _ q => nomatch q), h3.nl e, Dtx_nl h4 e, h5.nl e⟩
theorem Kd.rhs {T : String} {C : Addr} (h : Kd K H v T) : RhsAny K C H v := by
  cases h with
  | non => exact .inl rfl
  | bl b => exact .inr (.inl ⟨b, rfl⟩)
  | int i => exact .inr (.inr (.inl ⟨i, rfl⟩))
  | str z => exact .inr (.inr (.inr (.inl ⟨z, rfl⟩)))
  | lst h => exact .inr (.inr (.inr (.inr ⟨_, rfl, .inr (.inl ⟨_, h⟩)⟩)))
  | tup h => exact .inr (.inr (.inr (.inr ⟨_, rfl, .inr (.inr ⟨_, h⟩)⟩)))
end
theorem tab_ok {n m : Nat} {f : Tb2} (h : n ≤ m) : OkRs m (tabL n f) := ⟨by rw [tabL_len]; exact h, fun R hR => by
  obtain ⟨i, hi⟩ := List.mem_iff_getElem?.mp hR
  obtain ⟨_, rfl⟩ := tabL_get hi
  exact ⟨by rw [rowL_len]; exact h, fun d hd => by
    obtain ⟨j, hj⟩ := List.mem_iff_getElem?.mp hd
    obtain ⟨_, rfl⟩ := rowL_get hj
    exact gd_int⟩⟩
theorem eqv_tabs {n : Nat} {f g : Tb2} : PyData.eqv (.list ((tabL n f).map .list)) (.list ((tabL n g).map .list)) = PyData.eqv (tabD n f) (tabD n g) := by
  have e : ∀ h : Tb2, (tabL n h).map PyData.list = ((List.range n).map fun i => (List.range n).map (h i)).map fun ds => PyData.list (ds.map .int) := fun h => by
    unfold tabL rowL
    rw [List.map_map, List.map_map]
    refine List.map_congr_left fun i _ => ?_
    simp [List.map_map]
  have e2 : ∀ h : Tb2, ((List.range n).map fun i => intT ((List.range n).map (h i))) = ((List.range n).map fun i => (List.range n).map (h i)).map intT := fun h => by rw [List.map_map]; rfl
  have eq : ∀ x y : List Int, PyData.eqv (.list (x.map .int)) (.list (y.map .int)) = decide (x = y) := fun x y => by rw [PyData.eqv, eqvAll_ints]
  unfold tabD
  rw [PyData.eqv, PyData.eqv, e f, e g, e2 f, e2 g, eqvAll_map eq, eqvAll_map eqv_ints]
section
variable {P : Program} {w : World} {K : PySem.W.Frag} {mg : Str → Option Value} {base : Heap} {a : Ad}
theorem eqA_kd {H : Hp} {x : Addr} {y : V} {ps : List Spot} {f : Tb2} {t : String} {Q : VK} {E : XK} (c1 : Cd P w K a.Card H (.ref x) ps f) (ok1 : OkS ps) (kd : Kd K H y t) (k : Q (.bl false) H) :
    ∃ p dx fs, V.ref x = .ref p ∧ H p = some (.ins a.Card dx fs) ∧ RhsAny K a.Card H y ∧ sp_eq P w K a [.ref x, y] H Q E := by
  obtain ⟨x', dx, _, _, _, ex, hx, _⟩ := id c1
  cases ex
  exact ⟨x, _, _, rfl, hx, kd.rhs, _, _, ps, f, false, rfl, c1, ok1, .inr ⟨⟨t, kd⟩, rfl⟩, k⟩
/-- tuple([tuple(row) for row in rows]) -/
theorem tup_tab {H : Hp} {σ : L2.St} {v : V} {n i j : Nat} {f : Tb2} {Q : VK} (h0 : σ[i]? = some (some v)) (hv : ∀ x, ((wipe σ [j]).set j (some x))[j]? = some (some x)) (hw : ∀ x, wipe ((wipe σ [j]).set j (some x)) [j] = wipe σ [j]) (tb : Tb K false H v n f) (hn : n ≤ 1000)
    (k : ∀ H' p, Same H H' → Tb K true H' (.ref p) n f → Q (.ref p) H') : tCB (rTupS K) (tCons (tLc (iList K (tVar i)) (gName j) tYes (tCB (rTupS K) (tCons (tVar j) tNil)) [j]) tNil) σ H Q := by
  obtain ⟨p, us, rfl, hp, hl, hu⟩ := tb
  refine cb1 (lc_l h0 hp (fun i F y => ∃ q, y = V.ref q ∧ SqT K F q (rowV n (f i))) (fun _ _ _ _ e z => by obtain ⟨q, z1, z2⟩ := z; exact ⟨q, z1, upT e z2⟩) (by omega) ?_ ?_)
  · rintro i x F' _ H1 Kt Kn hi s1 ⟨rfl, hx⟩ kk
    obtain ⟨q, rfl, hq⟩ := hu i x hx
    refine ⟨hw _, lc_yes ⟨_, hv _, ?_⟩⟩
    dsimp only [tNil]
    have hq1 : SqL K H1 q (rowV n (f i)) := upL (s1.ff.trans s1.fh) hq
    exact ⟨q, _, rfl, .inl ⟨hq1, fun l hl => kk _ _ _ ((Stm.refl s1.fh).newP hl) ⟨l, rfl, SqT.of upd_same⟩⟩⟩
  · intro F1 H1 ys D s1 _ hD hy hr
    refine ⟨D, ys, rfl, .inl ⟨SqL.of (s1.fh _ _ hD), fun l hl2 => ?_⟩⟩
    refine k _ l ((s1.ff.trans s1.fh).trans (same_new hl2)) ⟨l, ys, rfl, SqT.of upd_same, hy.trans hl, fun i u hu => ?_⟩
    obtain ⟨q, z1, z2⟩ := hr i u hu
    exact ⟨q, z1, upT (same_new hl2) (upT s1.fh z2)⟩
theorem no_dp {H : Hp} {q : Addr} {x : V} {d : PyData} (h : SqT K H q [.str "no", x]) (k : Dp K H x d) : Dp K H (.ref q) (.tuple [.str "no", d]) := .tup h (.cons (.str _) (.cons k .nil))
theorem gd_no {d : PyData} (h : Gd 2 d) : Gd 3 (.tuple [.str "no", d]) := gd_tup (gdc (gd_str (by decide +kernel)) (gdc h gd0))
def sp__law_good_cards (K : PySem.W.Frag) : Sp := fun vs H Q _ => ∃ (F : Hp) (b l t r : Addr) (ps : List Spot) (f : Tb2) (nm : Str), vs = [.ref b, .ref l, .ref t, .ref r] ∧ Bag K b F H ∧ Same F H ∧ Sps K false F l ps ∧ OkS ps ∧ ps.length ≤ 21 ∧ Spt K F (.ref t) (nm, 0, 0) ∧ PyData.strOk nm = true ∧ (nm, 0, 0) ∉ ps ∧ (nm, 1, 0) ∉ ps ∧ Tb K false F (.ref r) ps.length f ∧ Cld ps.length f ∧
  ∀ H', Sb b F H F H' → Bag K b F H' → Q (.bl true) H'
theorem c__law_good_cards (T : Txt K mg a) : Cl P w K mg base 10 "_law_good_cards" P__law_good_cards (sp__law_good_cards K) [] :=
  T.d__law_good_cards.cl sc__law_good_cards (fun vs H Q E h => by obtain ⟨F, b, l, t, r, ps, f, nm, rfl, _⟩ := h; rfl) fun f cdv A outer s H vs Q E hr h => by
    obtain ⟨F, b, l, t, r, ps, f, nm, rfl, B0, hf, hps, ok, p21, ht, snm, nin, nin1, tb, hc, k⟩ := h
    obtain ⟨us, hus, hpr⟩ := id hps
    have hus : SqL K F l us := hus
    have hul := Paired.length hpr
    have psp := ok.pos
    have hb0 : H b ≠ none := (memB K b).there B0 rfl
    refine ⟨_, ((pss_cons (ps_set (i := 4) sc__law_good_cards.nd rfl (Or.inl rfl) (pe_callTy call_list_of (by rfl) T.n_list (by decide +kernel) (pa_cons (pv 1) pa_nil)))
 (pss_cons (ps_setLc (i := 5) (own := [("_law_row", 15)]) (g := (gName 15)) (by rfl) sc__law_good_cards.nd rfl rfl (sw_true rfl rfl rfl (by decide +kernel)) (pi_list (pv 3)) (blkOk_by (own := [("_law_row", 15)]) (N := N__law_good_cards) (sc := defScope s__law_good_cards) (by decide +kernel)) (fun _ _ _ _ _ => (pg_name (i := 15) sc__law_good_cards.nd rfl (Or.inl rfl) (hf := .inr rfl))) (fun _ _ _ _ _ => pts_nil) (fun _ _ _ _ _ => (pe_callTy (T := "list") (r := rLstS K) call_lstS (by rfl) T.n_list (by decide +kernel) (pa_cons (pv 15) pa_nil))))
 (pss_cons (ps_set (i := 6) sc__law_good_cards.nd rfl (Or.inl rfl) (pe_mkW (mk_Card T) (takes_of rfl rfl rfl rfl) hr (by decide) rfl (pa_cons (pv 4) (pa_cons (pv 5) pa_nil))))
 (pss_cons (ps_set (i := 7) sc__law_good_cards.nd rfl (Or.inl rfl) (pe_mkW (mk_Card T) (takes_of rfl rfl rfl rfl) hr (by decide) rfl (pa_cons (pe_callTy (T := "tuple") (r := rTupS K) call_tupS (by rfl) T.n_tuple (by decide +kernel) (pa_cons (pv 1) pa_nil)) (pa_cons (pe_callTy (T := "tuple") (r := rTupS K) call_tupS (by rfl) T.n_tuple (by decide +kernel) (pa_cons (pe_lc (own := [("_law_row", 15)]) (g := (gName 15)) (by rfl) sc__law_good_cards.nd (pi_list (pv 3)) (blkOk_by (own := [("_law_row", 15)]) (N := N__law_good_cards) (sc := defScope s__law_good_cards) (by decide +kernel)) (fun _ _ _ _ _ => (pg_name (i := 15) sc__law_good_cards.nd rfl (Or.inl rfl) (hf := .inr rfl))) (fun _ _ _ _ _ => pts_nil) (fun _ _ _ _ _ => (pe_callTy (T := "tuple") (r := rTupS K) call_tupS (by rfl) T.n_tuple (by decide +kernel) (pa_cons (pv 15) pa_nil)))) pa_nil)) pa_nil))))
 (pss_cons (ps_if (PW.pt (pw_or (pt_cmpR (op_neD hr.units) (pv 4) (pv 1) (nomark _)) (pw_or1 (pt_cmpR (op_neD hr.units) (pv 5) (pv 3) (nomark _)))))
 (pss_one (ps_ret pe_bl))
 pss_nil)
 (pss_cons (ps_expr (pe_bm PySem.F.plainAttrs_list PySem.F.slot_list_append PySem.F.type_list_append mt_append (pv 4) (pa_cons (pv 2) pa_nil)))
 (pss_cons (ps_asg pe_int (pg_sub (pe_ix ix_list (pv 5) pe_int (fun _ _ => rfl)) pe_int set_list))
 (pss_cons (ps_expr (pe_bm PySem.F.plainAttrs_list PySem.F.slot_list_append PySem.F.type_list_append mt_append (pv 5) (pa_cons (pe_lst (pa_cons pe_int pa_nil)) pa_nil)))
 (pss_cons (ps_setLc (i := 8) (own := [("_law_row", 15)]) (g := (gName 15)) (by rfl) sc__law_good_cards.nd rfl rfl (sw_true rfl rfl rfl (by decide +kernel)) (pi_list (pv 3)) (blkOk_by (own := [("_law_row", 15)]) (N := N__law_good_cards) (sc := defScope s__law_good_cards) (by decide +kernel)) (fun _ _ _ _ _ => (pg_name (i := 15) sc__law_good_cards.nd rfl (Or.inl rfl) (hf := .inr rfl))) (fun _ _ _ _ _ => pts_nil) (fun _ _ _ _ _ => (pe_callTy (T := "list") (r := rLstS K) call_lstS (by rfl) T.n_list (by decide +kernel) (pa_cons (pv 15) pa_nil))))
 (pss_cons (ps_if (pt_cmpR op_gt (pe_callB call_len_seq (by rfl) T.n_len (by decide +kernel) (pa_cons (pv 1) pa_nil)) pe_int (nomark _))
 (pss_cons (ps_set (i := 9) sc__law_good_cards.nd rfl (Or.inl rfl) (pe_f (c__law_pick T) (takes_of rfl rfl rfl rfl) hr (by decide) rfl (pa_cons (pv 0) (pa_cons (pe_callB call_len_seq (by rfl) T.n_len (by decide +kernel) (pa_cons (pv 1) pa_nil)) pa_nil))))
 (pss_cons (ps_set (i := 10) sc__law_good_cards.nd rfl (Or.inl rfl) (pe_op op_mod (pe_callTy call_int1 (by rfl) T.n_int (by decide +kernel) (pa_cons (pe_op op_add (pe_op op_add (pv 9) pe_int) (pe_f (c__law_pick T) (takes_of rfl rfl rfl rfl) hr (by decide) rfl (pa_cons (pv 0) (pa_cons (pe_op op_sub (pe_callB call_len_seq (by rfl) T.n_len (by decide +kernel) (pa_cons (pv 1) pa_nil)) pe_int) pa_nil)))) pa_nil)) (pe_callB call_len_seq (by rfl) T.n_len (by decide +kernel) (pa_cons (pv 1) pa_nil))))
 (pss_one (ps_asg (pe_callB (call_max2 rfl) (by rfl) T.n_max (by decide +kernel) (pa_cons (pe_op op_sub pe_int (pe_ix ix_list (pe_ix ix_list (pv 3) (pv 10) (fun _ _ => rfl)) (pv 9) (fun _ _ => rfl))) (pa_cons (pe_op op_sub (pe_ix ix_list (pe_ix ix_list (pv 3) (pv 9) (fun _ _ => rfl)) (pv 10) (fun _ _ => rfl)) (pe_f (c__law_pick T) (takes_of rfl rfl rfl rfl) hr (by decide) rfl (pa_cons (pv 0) (pa_cons pe_int pa_nil)))) pa_nil))) (pg_sub (pe_ix ix_list (pv 8) (pv 9) (fun _ _ => rfl)) (pv 10) set_list)))))
 pss_nil)
 (pss_cons (ps_set (i := 8) sc__law_good_cards.nd rfl (Or.inl rfl) (pe_f (c__law_closing T) (takes_of rfl rfl rfl rfl) hr (by decide) rfl (pa_cons (pv 8) pa_nil)))
 (pss_cons (ps_set (i := 11) sc__law_good_cards.nd rfl (Or.inl rfl) (pe_mkW (mk_Card T) (takes_of rfl rfl rfl rfl) hr (by decide) rfl (pa_cons (pv 1) (pa_cons (pv 8) pa_nil))))
 (pss_cons (ps_if (PW.pt (pw_or (pt_not (pt_val (pe_f (c__law_right_card T) (takes_of rfl rfl rfl rfl) hr (by decide) rfl (pa_cons (pv 6) (pa_cons (pv 1) (pa_cons (pv 3) pa_nil)))))) (pw_or1 (pt_not (pt_val (pe_f (c__law_right_card T) (takes_of rfl rfl rfl rfl) hr (by decide) rfl (pa_cons (pv 11) (pa_cons (pv 1) (pa_cons (pv 8) pa_nil)))))))))
 (pss_one (ps_ret pe_bl))
 pss_nil)
 (pss_cons (ps_if (PW.pt (pw_or (pt_not (pt_val (pe_f (c__law_right_card T) (takes_of rfl rfl rfl rfl) hr (by decide) rfl (pa_cons (pv 7) (pa_cons (pv 1) (pa_cons (pv 3) pa_nil)))))) (pw_or1 (pt_not (pt_val (pe_f (c__law_right_card T) (takes_of rfl rfl rfl rfl) hr (by decide) rfl (pa_cons (pv 6) (pa_cons (pv 1) (pa_cons (pv 3) pa_nil)))))))))
 (pss_one (ps_ret pe_bl))
 pss_nil)
 (pss_cons (ps_if (PW.pt (pw_or (pt_not (pt_cmp (pc_eqC (o_Card_eq T) T.nf (takes_of rfl rfl rfl rfl) hr (by decide) (pv 6) (pv 7)) rfl)) (pw_or (pt_cmpR op_ne (pe_cmp (pc_eqC (o_Card_eq T) T.nf (takes_of rfl rfl rfl rfl) hr (by decide) (pv 6) (pv 11)) rfl) (pe_cmpR (op_eqD hr.units) (pv 3) (pv 8) (nomark _)) (nomark _)) (pw_or1 (pt_cmp (pc_inC (o_Card_contains T) (takes_of rfl rfl rfl rfl) hr (by decide) (pv 2) (pv 6)) rfl)))))
 (pss_one (ps_ret pe_bl))
 pss_nil)
 (pss_cons (ps_if (PW.pt (pw_or (pt_cmp (pc_eqC (o_Card_eq T) T.nf (takes_of rfl rfl rfl rfl) hr (by decide) (pv 6) (pe_callTy (T := "tuple") (r := rTupS K) call_tupS (by rfl) T.n_tuple (by decide +kernel) (pa_cons (pv 1) pa_nil))) rfl) (pw_or (pt_cmp (pc_eqC (o_Card_eq T) T.nf (takes_of rfl rfl rfl rfl) hr (by decide) (pv 6) pe_int) rfl) (pw_or1 (pt_cmp (pc_eqC (o_Card_eq T) T.nf (takes_of rfl rfl rfl rfl) hr (by decide) (pv 6) (pe_tup (pa_cons (pe_callTy (T := "tuple") (r := rTupS K) call_tupS (by rfl) T.n_tuple (by decide +kernel) (pa_cons (pv 1) pa_nil)) (pa_cons (pe_fld (pv 6) rfl) pa_nil)))) rfl)))))
 (pss_one (ps_ret pe_bl))
 pss_nil)
 (pss_cons (ps_set (i := 12) sc__law_good_cards.nd rfl (Or.inl rfl) (pe_f (c__law_choice T) (takes_of rfl rfl rfl rfl) hr (by decide) rfl (pa_cons (pv 0) (pa_cons (pv 1) pa_nil))))
 (pss_cons (ps_set (i := 13) sc__law_good_cards.nd rfl (Or.inl rfl) (pe_tup (pa_cons (pe_ix ix_tup (pv 2) pe_int (fun _ _ => rfl)) (pa_cons pe_int (pa_cons pe_int pa_nil)))))
 (pss_cons (ps_set (i := 14) sc__law_good_cards.nd rfl (Or.inl rfl) (pe_tup (pa_cons (pe_ix ix_tup (pv 12) pe_int (fun _ _ => rfl)) (pa_cons (pe_cmpR op_eq (pe_ix ix_tup (pv 12) pe_int (fun _ _ => rfl)) pe_int (nomark _)) (pa_cons (pe_ix ix_tup (pv 12) pe_int (fun _ _ => rfl)) pa_nil)))))
 (pss_cons (ps_if (PW.pt (pw_or (pt_cmp (pc_inC (o_Card_contains T) (takes_of rfl rfl rfl rfl) hr (by decide) (pv 14) (pv 6)) rfl) (pw_or (pt_cmpR (op_neD hr.units) (pe_f (c__law_at_of T) (takes_of rfl rfl rfl rfl) hr (by decide) rfl (pa_cons (pv 6) (pa_cons (pv 12) (pa_cons (pv 14) pa_nil)))) (pe_tup (pa_cons pe_str (pa_cons (pv 14) pa_nil))) (nomark _)) (pw_or1 (pt_cmpR (op_neD hr.units) (pe_f (c__law_cut T) (takes_of rfl rfl rfl rfl) hr (by decide) rfl (pa_cons (pv 6) (pa_cons (pe_lst (pa_cons (pv 12) (pa_cons (pv 14) pa_nil))) pa_nil))) (pe_tup (pa_cons pe_str (pa_cons (pv 14) pa_nil))) (nomark _))))))
 (pss_one (ps_ret pe_bl))
 pss_nil)
 (pss_cons (ps_if (PW.pt (pw_or (pt_cmpR (op_neD hr.units) (pe_f (c__law_at_of T) (takes_of rfl rfl rfl rfl) hr (by decide) rfl (pa_cons (pv 6) (pa_cons (pv 2) (pa_cons (pv 12) pa_nil)))) (pe_tup (pa_cons pe_str (pa_cons (pv 2) pa_nil))) (nomark _)) (pw_or1 (pt_cmpR (op_neD hr.units) (pe_f (c__law_at_of T) (takes_of rfl rfl rfl rfl) hr (by decide) rfl (pa_cons (pv 6) (pa_cons (pv 12) (pa_cons (pv 13) pa_nil)))) (pe_tup (pa_cons pe_str (pa_cons (pv 13) pa_nil))) (nomark _)))))
 (pss_one (ps_ret pe_bl))
 pss_nil)
 (pss_one (ps_ret (pe_cmpR (op_eqD hr.units) (pe_f (c__law_at_of T) (takes_of rfl rfl rfl rfl) hr (by decide) rfl (pa_cons (pv 6) (pa_cons (pv 13) (pa_cons (pv 2) pa_nil)))) (pe_tup (pa_cons pe_str (pa_cons (pv 13) pa_nil))) (nomark _)))))))))))))))))))))))))), ?_⟩
    refine ⟨_, rfl, l, us, rfl, .inl (upL hf hus), fun hd hhd => ?_⟩
    have e1 := same_new (o := .lst us) hhd
    have h1 : (upd H hd (.lst us)) hd = some (.lst us) := upd_same
    generalize upd H hd (.lst us) = H1 at e1 h1 ⊢
    refine gn ?_
    try dsimp only
    have spsU : ∀ {Hx : Hp}, Same F Hx → Sps K false Hx l ps := fun e => hps.up e
    have dpU : ∀ {Hx : Hp}, Same F Hx → DpAll K Hx us (ps.map spD) := fun e => sps_all (Paired.mapP hpr fun _ _ z => z.up e)
    refine seq_asg (copy_tab (i := 3) (j := 15) rfl (by intro _; rfl) (by intro _; rfl) (tb.up (hf.trans e1)) (by omega) fun H2 inn iqs e2 rw2 => ?_)
    refine gn ?_
    try dsimp only
    have sh1 : Sps K false H1 hd ps := ⟨us, SqL.of h1, Paired.mapP hpr fun _ _ z => z.up (hf.trans e1)⟩
    refine ⟨_, rfl, _, rfl, mk_cd (t1 := false) (t2 := false) (sh1.up e2) ok rw2.tb hc fun H3 x1 e3 _ cd1 => ?_⟩
    refine gn ?_
    try dsimp only
    refine seq_asg (mkW2 ?_)
    refine ⟨_, rfl, ?_⟩
    dsimp only [tNil]
    have f03 := hf.trans (e1.trans (e2.trans e3))
    refine tuple_of (t := false) (xs := us) (upL f03 hus) fun H4 q4 e4 hq4 => ?_
    refine tup_tab (i := 3) (j := 15) rfl (by intro _; rfl) (by intro _; rfl) (tb.up (f03.trans e4)) (by omega) fun H5 q5 e5 tt5 => ?_
    have st4 : Sps K true H4 q4 ps := ⟨us, hq4, Paired.mapP hpr fun _ _ z => z.up (f03.trans e4)⟩
    refine mk_cd (t1 := true) (t2 := true) (st4.up e5) ok tt5 hc fun H6 x2 e6 _ cd2 => ?_
    refine gn ?_
    try dsimp only
    have e36 := e4.trans (e5.trans e6)
    have f06 := f03.trans e36
    have cd1 := cd1.up e36
    have h6 : H6 hd = some (.lst us) := (e2.trans (e3.trans e36)) _ _ h1
    have rw6 := rw2.up (e3.trans e36)
    have e06 : Same H H6 := e1.trans (e2.trans (e3.trans e36))
    have gps : Gd 3 (.list (ps.map spD)) := gd_list fun d hd => by
      obtain ⟨s, hs, rfl⟩ := List.mem_map.mp hd
      exact gd_sp (ok.ok s hs)
    have gtb : Gd 3 (.list ((tabL ps.length f).map .list)) := (tab_ok p21).gdl
    refine ⟨_, rfl, _, rfl, .list (ps.map spD), .list (ps.map spD), .lst (SqL.of h6) (dpU f06), .lst (upL f06 hus) (dpU f06), gps.fl.sh (by decide), gps.fl.sh (by decide), _, rfl, ?_⟩
    rw [gps.eq]
    refine iteF ⟨_, rfl, _, rfl, .list ((tabL ps.length f).map .list), .list ((tabL ps.length f).map .list), rw6.tb.ro.dp, (tb.up f06).ro.dp, gtb.fl.sh (by decide), gtb.fl.sh (by decide), _, rfl, ?_⟩
    rw [gtb.eq]
    refine iteF ?_
    -- the lists are changed
    refine ⟨_, rfl, .inl ⟨rfl, _, SqL.of h6⟩, _, rfl, hd, us, _, rfl, rfl, h6, by rw [sizeLine_eq]; omega, ?_⟩
    have hdm : ∀ x ∈ inn :: iqs, x ≠ hd := fun x hx z => by
      have : H1 x = none := by
        rcases List.mem_cons.mp hx with rfl | hx
        · exact rw2.p0
        · exact rw2.q0 x hx
      rw [z, h1] at this
      cases this
    have e07 : Same H (upd H6 hd (.lst (us ++ [.ref t]))) := same_mut e06 hhd
    have n67 : NL H6 (upd H6 hd (.lst (us ++ [.ref t]))) := NL.mut h6
    have rw7 : Raw H1 (upd H6 hd (.lst (us ++ [.ref t]))) inn iqs ps.length f := ⟨by rw [upd_ne (hdm inn List.mem_cons_self)]; exact rw6.at_, rw6.len, rw6.nd, rw6.np, rw6.p0, rw6.q0, fun i q z => by rw [upd_ne (hdm q (List.mem_cons_of_mem _ (List.mem_of_getElem? z)))]; exact rw6.row i q z⟩
    generalize upd H6 hd (.lst (us ++ [.ref t])) = H7 at e07 n67 rw7 ⊢
    obtain ⟨q0, hq0, a0, r0⟩ := rw7.cell psp
    dsimp only [gSub]
    refine ⟨_, rfl, inn, _, 0, _, rfl, rfl, SqL.of rw7.at_, by simpa using a0, q0, _, 0, 0, rfl, rfl, r0, ixN_nat (by decide) (by rw [rowV_len]; omega), ?_⟩
    have q0m := List.mem_of_getElem? hq0
    have q0H : H q0 = none := e1.free (rw7.q0 q0 q0m)
    have e08 : Same H (upd H7 q0 (.lst ((rowV ps.length (f 0)).set 0 (.int 5)))) := same_mut e07 q0H
    have n78 : NL H7 (upd H7 q0 (.lst ((rowV ps.length (f 0)).set 0 (.int 5)))) := NL.mut r0
    have in8 : (upd H7 q0 (.lst ((rowV ps.length (f 0)).set 0 (.int 5)))) inn = some (.lst (iqs.map V.ref)) := by
      rw [upd_ne (fun z => rw7.np (by rw [z]; exact q0m))]
      exact rw7.at_
    generalize upd H7 q0 (.lst ((rowV ps.length (f 0)).set 0 (.int 5))) = H8 at e08 n78 in8 ⊢
    refine ⟨_, rfl, .inl ⟨rfl, _, SqL.of in8⟩, by show 1 ≤ sizeLine; decide, fun d1 hd1 => ?_⟩
    have g9 := same_new (o := .lst [V.int 1]) hd1
    have in9 := g9 _ _ in8
    have iql : (iqs.map V.ref).length = ps.length := by rw [List.length_map, rw7.len]
    refine ⟨inn, _, _, rfl, rfl, in9, by rw [iql, sizeLine_eq]; omega, ?_⟩
    have e09 : Same H (upd (upd H8 d1 (.lst [V.int 1])) inn (.lst (iqs.map V.ref ++ [.ref d1]))) := same_mut (e08.trans g9) (e1.free rw7.p0)
    have n89 : NL H8 (upd (upd H8 d1 (.lst [V.int 1])) inn (.lst (iqs.map V.ref ++ [.ref d1]))) := (NL.of (NB.of g9)).trans (NL.mut in9)
    generalize upd (upd H8 d1 (.lst [V.int 1])) inn (.lst (iqs.map V.ref ++ [.ref d1])) = H9 at e09 n89 ⊢
    have n69 := n67.trans (n78.trans n89)
    have cd1 := cd1.nl n69
    have cd2 := cd2.nl n69
    obtain ⟨t9, B9⟩ := pureB (Stm.refl hf : Sb b F H F H) B0 (stp_same hf e09)
    have hb9 : H9 b ≠ none := (memB K b).there B9 rfl
    refine seq_asg (copy_tab (i := 3) (j := 15) rfl (by intro _; rfl) (by intro _; rfl) (tb.up t9.fh) (by omega) fun H10 lo lqs e10 rw10 => ?_)
    refine gn ?_
    try dsimp only
    obtain ⟨u10, B10⟩ := pureB (Stm.refl t9.fh : Sb b F H9 F H9) B9 (stp_same t9.fh e10)
    refine seq_with (fun σ' H' => ∃ c9 c10 g, σ' = [some (.ref b), some (.ref l), some (.ref t), some (.ref r), some (.ref hd), some (.ref inn), some (.ref x1), some (.ref x2), some (.ref lo), c9, c10, none, none, none, none, none] ∧ Sb b F H9 F H' ∧ Bag K b F H' ∧ Raw H9 H' lo lqs ps.length g ∧ NL H9 H' ∧ (∃ c, Cld ps.length c ∧ Le ps.length c g) ∧ ∀ i, i < ps.length → g i i ≤ 0) (fun U hU => ?_) ?_
    · refine ⟨_, rfl, l, us, rfl, .inl (upL u10.fh hus), _, _, rfl, rfl, _, rfl, ?_⟩
      by_cases n1 : ps.length ≤ 1
      · exact iteN (by rw [decide_eq_false (by omega)]; decide) (hU _ _ ⟨none, none, f, rfl, u10, B10, rw10, .of (.of e10), ⟨f, hc, .refl⟩, fun i hi => Int.le_of_eq (hc.z i hi)⟩)
      refine iteY (decide_eq_true (by omega)) ?_
      refine ⟨_, rfl, _, rfl, l, us, rfl, .inl (upL u10.fh hus), F, b, _, rfl, B10, u10.fh, by omega, sz_len (by omega), fun H11 i1 s11 B11 i0 il => ?_⟩
      obtain ⟨x, rfl⟩ := nat_of i0
      have hx : x < ps.length := by omega
      refine gn ?_
      try dsimp only
      have u11 := seqB u10 B10 s11
      refine ⟨_, rfl, _, _, rfl, rfl, _, rfl, _, rfl, l, us, rfl, .inl (upL u11.fh hus), _, _, rfl, rfl, F, b, _, rfl, B11, u11.fh, by omega, (by rw [show (((us.length : Nat) : Int) - 1) = ((us.length - 1 : Nat) : Int) by omega]; exact sz_len (by omega)), fun H12 j s12 B12 j0 j1 => ?_⟩
      obtain ⟨y, rfl⟩ := nat_of j0
      obtain ⟨z, ez, zn, nez⟩ := other_end hx (by omega : y + 1 < ps.length)
      have u12 := seqB u11 B11 s12
      refine ⟨_, _, rfl, rfl, .inl ⟨_, rfl, _, rfl, l, us, rfl, .inl (upL u12.fh hus), _, _, rfl, rfl, by omega, ?_⟩⟩
      dsimp only
      have ez' : ((x : Int) + 1 + (y : Int)) % ((us.length : Nat) : Int) = (z : Int) := by rw [hul]; exact ez
      rw [ez']
      refine gn ?_
      try dsimp only
      obtain ⟨_, rs1, qz, er, hr1, az, rz⟩ := (tb.up u12.fh).cell zn
      cases er
      have hr1 : SqL K H12 r rs1 := hr1
      obtain ⟨_, rs2, qx, er, hr2, ax, rx⟩ := (tb.up u12.fh).cell hx
      cases er
      have hr2 : SqL K H12 r rs2 := hr2
      refine ⟨_, rfl, _, rfl, r, _, _, _, rfl, rfl, hr1, az, _, rfl, qz, _, _, _, rfl, rfl, rz, row_cell hx, _, _, rfl, rfl, ?_⟩
      refine ⟨_, rfl, _, rfl, r, _, _, _, rfl, rfl, hr2, ax, _, rfl, qx, _, _, _, rfl, rfl, rx, row_cell zn, ?_⟩
      refine ⟨_, rfl, F, b, 4, rfl, B12, u12.fh, by decide, sz_of 3 (by decide) (by decide), fun H13 d s13 B13 d0 d1 => ⟨_, _, rfl, rfl, _, _, rfl, ?_⟩⟩
      have u13 := seqB u12 B12 s13
      have rw13 := ((rw10.bag B9 s11).bag B9 s12).bag B9 s13
      obtain ⟨qa, hqa, aa, ra⟩ := rw13.cell hx
      have qam := List.mem_of_getElem? hqa
      have qa0 := rw13.q0 qa qam
      generalize hv : (if f x z - d > 0 - f z x then f x z - d else 0 - f z x) = v
      have v1 : 0 ≤ f z x + v := by
        rw [← hv]
        split <;> omega
      dsimp only [gSub]
      refine ⟨_, rfl, _, rfl, lo, _, _, _, rfl, rfl, SqL.of rw13.at_, aa, _, rfl, qa, _, (z : Nat), z, rfl, rfl, ra, ixN_nat (by omega) (by rw [rowV_len]; omega), ?_⟩
      obtain ⟨u14, B14⟩ := mutB (o := .lst ((rowV ps.length (f x)).set z (.int v))) u13 B13 (t9.fh.free qa0) qa0 (fun e => hb9 (by rw [← e]; exact qa0))
      have nb13 : NB H9 H13 := (NB.of e10).trans (((bag_nb B10 s11).trans (bag_nb B11 s12)).trans (bag_nb B12 s13))
      refine hU _ _ ⟨_, _, _, rfl, u14, B14, rw13.put hqa, (NL.of nb13).trans (NL.mut ra), ⟨low f x z v, low_cld hc hx zn v1, fun i j hi hj => ?_⟩, fun i hi => ?_⟩
      · try dsimp only
        by_cases e : i = x ∧ j = z
        · rw [if_pos e, e.1, e.2]
          exact low_at hc hx zn
        · rw [if_neg e]
          exact low_le (n := ps.length) i j hi hj
      · try dsimp only
        rw [if_neg (by omega)]
        exact Int.le_of_eq (hc.z i hi)
    rintro _ H11 ⟨c9, c10, g, rfl, u11, B11, rw11, n911, ⟨cc, hcc, hle⟩, hdg⟩
    have cg : Cld ps.length (K49.fw ps.length g) := fw_cld hdg fun i hi => by
      have h1 := fw_ge hcc hle ps.length (Nat.le_refl _) i i hi hi
      have h2 := hcc.z i hi
      omega
    refine ⟨_, rfl, _, ps.length, g, rfl, rw11.tb, by omega, ⟨cc, hcc, hle⟩, fun H12 lw wqs e12 rw12 => ?_⟩
    refine gn ?_
    try dsimp only
    have f12 := u11.fh.trans e12
    refine ⟨_, rfl, _, rfl, mk_cd (t1 := false) (t2 := false) (spsU f12) ok rw12.tb cg fun H13 x3 e13 _ cd3 => ?_⟩
    refine gn ?_
    try dsimp only
    have e1113 := e12.trans e13
    have f13 := u11.fh.trans e1113
    have cd1 := (cd1.nl n911).up e1113
    have cd2 := (cd2.nl n911).up e1113
    have tlw : Tb K false H13 (.ref lw) ps.length (K49.fw ps.length g) := rw12.tb.up e13
    generalize hG : K49.fw ps.length g = G at cg cd3 tlw
    refine ⟨_, rfl, _, rfl, _, rfl, .ref x1, _, l, ps, f, rfl, cd1, spsU f13, ok, tb.up f13, fun H14 e14 => ⟨true, rfl, iteF ?_⟩⟩
    refine ⟨_, rfl, _, rfl, _, rfl, .ref x3, _, l, ps, G, rfl, cd3.up e14, spsU (f13.trans e14), ok, tlw.up e14, fun H15 e15 => ⟨true, rfl, iteF ?_⟩⟩
    have e1315 := e14.trans e15
    refine ⟨_, rfl, _, rfl, _, rfl, .ref x2, _, l, ps, f, rfl, cd2.up e1315, spsU (f13.trans e1315), ok, tb.up (f13.trans e1315), fun H16 e16 => ⟨true, rfl, iteF ?_⟩⟩
    have e1316 := e1315.trans e16
    refine ⟨_, rfl, _, rfl, _, rfl, .ref x1, _, l, ps, f, rfl, cd1.up e1316, spsU (f13.trans e1316), ok, tb.up (f13.trans e1316), fun H17 e17 => ⟨true, rfl, iteF ?_⟩⟩
    have e1317 := e1316.trans e17
    have cd1 := cd1.up e1317
    have cd2 := cd2.up e1317
    have cd3 := cd3.up e1317
    have tlw := tlw.up e1317
    have f17 := f13.trans e1317
    have u17 : Sb b F H9 F H17 := (pureB u11 B11 (stp_same u11.fh (e1113.trans e1317))).1
    have B17 : Bag K b F H17 := (pureB u11 B11 (stp_same u11.fh (e1113.trans e1317))).2
    refine ⟨_, rfl, _, rfl, eqA_yes cd1 cd2 ok ?_⟩
    refine ⟨true, rfl, iteF ?_⟩
    have gtG : Gd 3 (.list ((tabL ps.length G).map .list)) := (tab_ok p21).gdl
    have bb : (PyData.eqv (tabD ps.length f) (tabD ps.length G)) = (decide (ps = ps) && PyData.eqv (tabD ps.length f) (tabD ps.length G)) := by rw [decide_eq_true rfl]; rfl
    refine ⟨_, rfl, _, rfl, eqA (b := PyData.eqv (tabD ps.length f) (tabD ps.length G)) cd1 cd3 ok ok bb ?_⟩
    refine ⟨_, rfl, _, rfl, .list ((tabL ps.length f).map .list), .list ((tabL ps.length G).map .list), (tb.up f17).ro.dp, tlw.ro.dp, gtb.fl.sh (by decide), gtG.fl.sh (by decide), ?_⟩
    rw [eqv_tabs]
    generalize PyData.eqv (tabD ps.length f) (tabD ps.length G) = bb
    refine ⟨rfl, _, rfl, iteN (by simp) ?_⟩
    have ht17 := ht.up f17
    obtain ⟨x1', dx1, sp1, d1', rw1, ex1, hx1, _⟩ := id cd1
    cases ex1
    refine ⟨_, rfl, _, rfl, x1, dx1, _, rfl, hx1, _, _, ps, f, spD (nm, 0, 0), rfl, cd1, ok.nd, ht17.dp, _, rfl, ?_⟩
    rw [inC_sp, decide_eq_false nin]
    refine ⟨_, rfl, iteF ?_⟩
    -- no other thing is this card
    refine ⟨_, rfl, _, rfl, ?_⟩
    dsimp only [tNil]
    refine tuple_of (t := false) (xs := us) (upL f17 hus) fun H18 q18 e18 hq18 => ?_
    refine eqA_kd (cd1.up e18) ok (Kd.tup hq18) ?_
    refine ⟨_, rfl, iteF ?_⟩
    refine ⟨_, rfl, eqA_kd (cd1.up e18) ok (.int 7) ?_⟩
    refine ⟨_, rfl, iteF ?_⟩
    refine ⟨_, rfl, _, rfl, ?_⟩
    dsimp only [tNil]
    refine tuple_of (t := false) (xs := us) (upL (f17.trans e18) hus) fun H19 q19 e19 hq19 => ?_
    refine ⟨_, rfl, x1, a.Card, dx1, _, _, rfl, (e18.trans e19) _ _ hx1, T.ki.cl, T.nR, rfl, by show 2 ≤ sizeLine; decide, fun q20 hq20 => ?_⟩
    have e1920 := same_new (o := .tup [V.ref q19, V.ref rw1]) hq20
    have h20 : SqT K (upd H19 q20 (.tup [V.ref q19, V.ref rw1])) q20 [V.ref q19, V.ref rw1] := SqT.of upd_same
    generalize upd H19 q20 (.tup [V.ref q19, V.ref rw1]) = H20 at e1920 h20 ⊢
    have e1720 := e18.trans (e19.trans e1920)
    refine eqA_kd (cd1.up e1720) ok (Kd.tup h20) ?_
    refine ⟨_, rfl, iteF ?_⟩
    obtain ⟨u20, B20⟩ := pureB u17 B17 (stp_same u17.fh e1720)
    refine ⟨_, rfl, _, rfl, F, b, _, us, rfl, .inl ⟨l, rfl, hus⟩, fun e => (by rw [e] at hul; simp at hul; omega), by omega, B20, u20.fh, fun H21 hv i s21 B21 hvi => ?_⟩
    refine gn ?_
    try dsimp only
    obtain ⟨s, hs, hvF⟩ := paired_get hpr hvi
    have sin := List.mem_of_getElem? hs
    have sok := ok.ok s sin
    have u21 := seqB u20 B20 s21
    have f21 := u21.fh
    have cd21 := (cd1.up e1720).nb (bag_nb B20 s21)
    obtain ⟨_, et, htt⟩ := ht.up f21
    cases et
    refine ⟨_, rfl, t, _, 0, _, rfl, rfl, htt, rfl, by show 3 ≤ sizeLine; decide, fun q22 hq22 => ?_⟩
    refine gn ?_
    try dsimp only
    have e2122 := same_new (o := .tup (spV (nm, 1, 0))) hq22
    have sec22 : Spt K (upd H21 q22 (.tup (spV (nm, 1, 0)))) (.ref q22) (nm, 1, 0) := ⟨q22, rfl, SqT.of upd_same⟩
    have es : HO.tup [V.str nm, V.int 1, V.int 0] = HO.tup (spV (nm, 1, 0)) := rfl
    rw [es]
    generalize upd H21 q22 (.tup (spV (nm, 1, 0))) = H22 at e2122 sec22 ⊢
    obtain ⟨hq, rfl, hvs⟩ := hvF.up (f21.trans e2122)
    refine ⟨_, rfl, hq, _, 0, _, rfl, rfl, hvs, rfl, _, rfl, hq, _, 1, _, rfl, rfl, hvs, rfl, rfl, _, rfl, hq, _, 2, _, rfl, rfl, hvs, rfl, by show 3 ≤ sizeLine; decide, fun qo hqo => ?_⟩
    refine gn ?_
    try dsimp only
    have e2223 := same_new (o := .tup [V.str s.1, V.bl (decide (V.int s.2.1 = V.int 1)), V.int s.2.2]) hqo
    have od : Dp K (upd H22 qo (.tup [V.str s.1, V.bl (decide (V.int s.2.1 = V.int 1)), V.int s.2.2])) (.ref qo) (.tuple [.str s.1, .bool (decide (V.int s.2.1 = V.int 1)), .int s.2.2]) := .tup (SqT.of upd_same) (.cons (.str _) (.cons (.bl _) (.cons (.int _) .nil)))
    generalize upd H22 qo (.tup [V.str s.1, V.bl (decide (V.int s.2.1 = V.int 1)), V.int s.2.2]) = H23 at e2223 od ⊢
    have gdo : Gd 2 (.tuple [.str s.1, .bool (decide (V.int s.2.1 = V.int 1)), .int s.2.2]) := gd_tup (n := 1) (gdc (gd_str sok) (gdc gd_bl (gdc gd_int gd0)))
    have no_o : inC ps (.tuple [.str s.1, .bool (decide (V.int s.2.1 = V.int 1)), .int s.2.2]) = false := rfl
    generalize PyData.tuple [.str s.1, .bool (decide (V.int s.2.1 = V.int 1)), .int s.2.2] = dod at od gdo no_o
    have e2123 := e2122.trans e2223
    have cd23 := cd21.up e2123
    have here23 : Dp K H23 (.ref hq) (spD s) := (hvF.up (f21.trans e2123)).dp
    have spare23 : Dp K H23 (.ref t) (spD (nm, 0, 0)) := (ht.up (f21.trans e2123)).dp
    have sec23 : Dp K H23 (.ref q22) (spD (nm, 1, 0)) := (sec22.up e2223).dp
    have in_h : inC ps (spD s) = true := by rw [inC_sp, decide_eq_true sin]
    have no_s : inC ps (spD (nm, 0, 0)) = false := by rw [inC_sp, decide_eq_false nin]
    have no_2 : inC ps (spD (nm, 1, 0)) = false := by rw [inC_sp, decide_eq_false nin1]
    have gsp : Gd 2 (spD (nm, 0, 0)) := gd_sp snm
    have gs2 : Gd 2 (spD (nm, 1, 0)) := gd_sp snm
    obtain ⟨x1', dx2, sp2, d2', rw2', ex2, hx2, _⟩ := id cd23
    cases ex2
    refine ⟨_, rfl, _, rfl, x1, dx2, _, rfl, hx2, _, _, ps, f, dod, rfl, cd23, ok.nd, od, _, rfl, ?_⟩
    rw [no_o]
    refine ⟨_, rfl, iteF ?_⟩
    refine ⟨_, rfl, _, rfl, _, rfl, .ref x1, .ref hq, .ref qo, .ref qo, ps, f, spD s, dod, rfl, cd23, ok.nd, here23, od, .inr ⟨in_h, no_o, rfl⟩, fun H24 r24 e24 h24 => ?_⟩
    refine ⟨_, rfl, by show 2 ≤ sizeLine; decide, fun qn hqn => ?_⟩
    have en := same_new (o := .tup [V.str "no", V.ref qo]) hqn
    refine ⟨_, _, no_dp (upT en h24) (dp_up (e24.trans en) od), no_dp (SqT.of upd_same) (dp_up (e24.trans en) od), (gd_no gdo).fl.sh (by decide), (gd_no gdo).fl.sh (by decide), _, rfl, ?_⟩
    rw [(gd_no gdo).eq]
    have e24 := e24.trans en
    generalize upd H24 qn (.tup [V.str "no", V.ref qo]) = H24 at e24
    refine iteF ?_
    refine ⟨_, rfl, _, rfl, _, rfl, by show 2 ≤ sizeLine; decide, fun ql hql => ?_⟩
    have el := e24.trans (same_new (o := .lst [V.ref hq, V.ref qo]) hql)
    have fo1 : FstOut ps [spD s, dod] 1 := ⟨fun j d hj hd => by
      obtain rfl : j = 0 := by omega
      cases hd
      exact in_h, dod, rfl, no_o⟩
    refine ⟨false, ql, _, ps, f, [V.ref hq, V.ref qo], [spD s, dod], rfl, cd23.up el, ok, SqL.of upd_same, .cons (dp_up el here23) (.cons (dp_up el od) .nil), by show 2 ≤ 500; decide, fun ss al => absurd fo1 (FstOut.noA al), fun i u hu fo H25 r25 e25 h25 => ?_⟩
    obtain rfl := fo.uniq fo1
    cases hu
    have e25 := el.trans e25
    refine ⟨_, rfl, by show 2 ≤ sizeLine; decide, fun qn hqn => ?_⟩
    have en := same_new (o := .tup [V.str "no", V.ref qo]) hqn
    refine ⟨_, _, no_dp (upT en h25) (dp_up (e25.trans en) od), no_dp (SqT.of upd_same) (dp_up (e25.trans en) od), (gd_no gdo).fl.sh (by decide), (gd_no gdo).fl.sh (by decide), _, rfl, ?_⟩
    rw [(gd_no gdo).eq]
    have e25 := e25.trans en
    generalize upd H25 qn (.tup [V.str "no", V.ref qo]) = H25 at e25
    refine iteF ?_
    refine ⟨_, rfl, _, rfl, _, rfl, .ref x1, .ref t, .ref hq, .ref t, ps, f, spD (nm, 0, 0), spD s, rfl, cd23.up e25, ok.nd, dp_up e25 spare23, dp_up e25 here23, .inl ⟨no_s, rfl⟩, fun H26 r26 e26 h26 => ?_⟩
    have e26 := e25.trans e26
    refine ⟨_, rfl, by show 2 ≤ sizeLine; decide, fun qn hqn => ?_⟩
    have en := same_new (o := .tup [V.str "no", V.ref t]) hqn
    refine ⟨_, _, no_dp (upT en h26) (dp_up (e26.trans en) spare23), no_dp (SqT.of upd_same) (dp_up (e26.trans en) spare23), (gd_no gsp).fl.sh (by decide), (gd_no gsp).fl.sh (by decide), _, rfl, ?_⟩
    rw [(gd_no gsp).eq]
    have e26 := e26.trans en
    generalize upd H26 qn (.tup [V.str "no", V.ref t]) = H26 at e26
    refine iteF ?_
    refine ⟨_, rfl, _, rfl, _, rfl, .ref x1, .ref hq, .ref q22, .ref q22, ps, f, spD s, spD (nm, 1, 0), rfl, cd23.up e26, ok.nd, dp_up e26 here23, dp_up e26 sec23, .inr ⟨in_h, no_2, rfl⟩, fun H27 r27 e27 h27 => ?_⟩
    have e27 := e26.trans e27
    refine ⟨_, rfl, by show 2 ≤ sizeLine; decide, fun qn hqn => ?_⟩
    have en := same_new (o := .tup [V.str "no", V.ref q22]) hqn
    refine ⟨_, _, no_dp (upT en h27) (dp_up (e27.trans en) sec23), no_dp (SqT.of upd_same) (dp_up (e27.trans en) sec23), (gd_no gs2).fl.sh (by decide), (gd_no gs2).fl.sh (by decide), _, rfl, ?_⟩
    rw [(gd_no gs2).eq]
    have e27 := e27.trans en
    generalize upd H27 qn (.tup [V.str "no", V.ref q22]) = H27 at e27
    refine iteF ?_
    refine ⟨_, rfl, _, rfl, _, rfl, .ref x1, .ref q22, .ref t, .ref q22, ps, f, spD (nm, 1, 0), spD (nm, 0, 0), rfl, cd23.up e27, ok.nd, dp_up e27 sec23, dp_up e27 spare23, .inl ⟨no_2, rfl⟩, fun H28 r28 e28 h28 => ?_⟩
    have e28 := e27.trans e28
    refine ⟨_, rfl, by show 2 ≤ sizeLine; decide, fun qn hqn => ?_⟩
    have en := same_new (o := .tup [V.str "no", V.ref q22]) hqn
    refine ⟨_, _, no_dp (upT en h28) (dp_up (e28.trans en) sec23), no_dp (SqT.of upd_same) (dp_up (e28.trans en) sec23), (gd_no gs2).fl.sh (by decide), (gd_no gs2).fl.sh (by decide), ?_⟩
    rw [(gd_no gs2).eq]
    obtain ⟨u29, B29⟩ := pureB u21 B21 (stp_same f21 (e2123.trans (e28.trans en)))
    exact k _ (seqB t9 B9 u29) B29
end
end K49

set_option Elab.async false
set_option linter.all false
set_option maxRecDepth 100000
set_option maxHeartbeats 4000000
namespace K49
open PySem PySem.Spec PyProof.Rows L2 Ew
section
variable {P : Program} {w : World} {K : PySem.W.Frag} {mg : Str → Option Value} {base : Heap} {a : Ad}
def sp_law (K : PySem.W.Frag) : Sp := fun vs H Q _ => ∃ (F : Hp) (p : Addr) (ns : List Int), vs = [.ref p] ∧ SqL K F p (ns.map V.int) ∧ ns.length ≤ 1000 ∧ Same F H ∧ ∀ H', Q (.bl true) H'
theorem b_law (T : Txt K mg a) : BodyG P w K mg base N_law "law" s_law 11 (sp_law K) := fun f cdv A outer s0 H vs Q E hgd hr h => by
    obtain ⟨F, p, ns, rfl, hp, hn, hf, k⟩ := h
    refine ⟨_, ((pss_cons (ps_set (i := 1) sc_law.nd rfl (Or.inl rfl) (pe_f (c__law_bag_of T) (takes_of rfl rfl rfl rfl) hr (by decide) rfl (pa_cons (pv 0) pa_nil)))
 (pss_cons (ps_set (i := 2) sc_law.nd rfl (Or.inl rfl) (pe_f (c__law_pick T) (takes_of rfl rfl rfl rfl) hr (by decide) rfl (pa_cons (pv 1) (pa_cons pe_int pa_nil))))
 (pss_cons (ps_if (pt_val (pe_f (c__law_one_in T) (takes_of rfl rfl rfl rfl) hr (by decide) rfl (pa_cons (pv 1) (pa_cons pe_int pa_nil))))
 (pss_one (ps_set (i := 2) sc_law.nd rfl (Or.inl rfl) (pe_op op_add pe_int (pe_f (c__law_pick T) (takes_of rfl rfl rfl rfl) hr (by decide) rfl (pa_cons (pv 1) (pa_cons pe_int pa_nil))))))
 pss_nil)
 (pss_cons (ps_asg (pe_f (c__law_few_spots T) (takes_of rfl rfl rfl rfl) hr (by decide) rfl (pa_cons (pv 1) (pa_cons (pv 2) pa_nil))) (pg_tup rfl (pgs_cons (pg_name (i := 3) sc_law.nd rfl (Or.inl rfl)) (pgs_cons (pg_name (i := 4) sc_law.nd rfl (Or.inl rfl)) pgs_nil))))
 (pss_cons (ps_set (i := 5) sc_law.nd rfl (Or.inl rfl) (pe_f (c__law_drawn_rows T) (takes_of rfl rfl rfl rfl) hr (by decide) rfl (pa_cons (pv 1) (pa_cons (pe_callB call_len_seq (by rfl) T.n_len (by decide +kernel) (pa_cons (pv 3) pa_nil)) pa_nil))))
 (pss_cons (ps_if (PW.pt (pw_or (pt_not (pt_val (pe_f (c__law_good_cards T) (takes_of rfl rfl rfl rfl) hr (by decide) rfl (pa_cons (pv 1) (pa_cons (pv 3) (pa_cons (pv 4) (pa_cons (pv 5) pa_nil))))))) (pw_or1 (pt_not (pt_val (pe_f (c__law_turned_about T) (takes_of rfl rfl rfl rfl) hr (by decide) rfl (pa_cons (pv 3) (pa_cons (pv 4) (pa_cons (pv 5) pa_nil)))))))))
 (pss_one (ps_ret pe_bl))
 pss_nil)
 (pss_cons (ps_if (pt_not (pt_val (pe_f (c__law_cuts T) (takes_of rfl rfl rfl rfl) hr (by decide) rfl (pa_cons (pv 1) (pa_cons (pv 3) (pa_cons (pv 4) (pa_cons (pv 5) pa_nil)))))))
 (pss_one (ps_ret pe_bl))
 pss_nil)
 (pss_cons (ps_for (passes_of rfl) rfl (pi_range1 (by rfl) T.n_range (pa_cons pe_int pa_nil)) (pg_name (i := 6) sc_law.nd rfl (Or.inl rfl))
 (pss_one (ps_if (pt_not (pt_val (pe_f (c__law_judged T) (takes_of rfl rfl rfl rfl) hr (by decide) rfl (pa_cons (pv 1) (pa_cons (pv 3) (pa_cons (pv 5) pa_nil))))))
 (pss_one (ps_ret pe_bl))
 pss_nil)))
 (pss_one (ps_ret pe_bl))))))))))), ?_⟩
    refine ⟨_, rfl, F, p, ns, rfl, hp, hn, hf, fun F1 H1 b st1 B1 => ?_⟩
    refine gn ?_
    refine ⟨_, rfl, F1, b, 7, rfl, B1, st1.fh, by decide, sz_of 3 (by decide) (by decide), fun H2 m s2 B2 m0 m1 => ?_⟩
    refine gn ?_
    try dsimp only
    refine seq_with (fun σ' H' => ∃ m', σ' = [some (.ref p), some (.ref b), some (.int m'), none, none, none, none] ∧ Sb b F1 H1 F1 H' ∧ Bag K b F1 H' ∧ 0 ≤ m' ∧ m' ≤ 20) (fun u hu => ?_) ?_
    · refine ⟨_, rfl, F1, b, 8, rfl, B2, s2.fh, by decide, sz_of 4 (by decide) (by decide), fun H3 c s3 B3 => ⟨c, rfl, ?_⟩⟩
      cases c with
      | false => exact iteF (hu _ _ ⟨m, rfl, seqB s2 B2 s3, B3, by omega, by omega⟩)
      | true =>
        refine iteT ⟨_, rfl, F1, b, 8, rfl, B3, s3.fh, by decide, sz_of 4 (by decide) (by decide), fun H4 c s4 B4 c0 c1 => ?_⟩
        exact ⟨_, _, rfl, rfl, hu _ _ ⟨10 + c, rfl, seqB (seqB s2 B2 s3) B3 s4, B4, by omega, by omega⟩⟩
    rintro _ H3 ⟨m', rfl, s3, B3, n0, n20⟩
    refine ⟨_, rfl, _, rfl, F1, b, m', rfl, B3, s3.fh, n0, n20, fun F4 H4 r l t nm ps s4 B4 hr4 hps ok len ht hnm no1 no2 => ?_⟩
    refine ⟨r, _, rfl, upT s4.fh hr4, rfl, _, _, rfl, _, _, rfl, rfl, ?_⟩
    obtain ⟨us, hus, hpr⟩ := id hps
    have hul : us.length = ps.length := Paired.length hpr
    have pos := ok.pos
    refine ⟨_, rfl, _, rfl, l, us, rfl, .inl (upL s4.fh hus), F4, b, ps.length, by rw [hul]; rfl, B4, s4.fh, by omega, len, fun F5 H5 v f s5 B5 tb hc bd => ?_⟩
    refine gn ?_
    obtain ⟨rp, _, rfl, _⟩ := id tb
    have hps5 := hps.up s5.ff
    have ht5 : Spt K F5 (.ref t) (nm, 0, 0) := ⟨t, rfl, upT s5.ff ht⟩
    refine ⟨_, rfl, _, rfl, _, rfl, _, rfl, F5, b, l, t, rp, ps, f, nm, rfl, B5, s5.fh, hps5, ok, len, ht5, hnm, no1, no2, tb, hc, fun H6 s6 B6 => ⟨true, rfl, iteF ?_⟩⟩
    refine ⟨_, rfl, _, rfl, _, rfl, l, rp, .ref t, ps, f, (nm, 0, 0), rfl, hps5.up s6.fh, ok, len, ht5.up s6.fh, no1, hnm, tb.up s6.fh, hc, fun H7 e7 => ⟨true, rfl, iteF ?_⟩⟩
    obtain ⟨s7, B7⟩ := pureB s6 B6 (stp_same s6.fh e7)
    refine ⟨_, rfl, _, rfl, _, rfl, _, rfl, F5, b, l, t, rp, ps, f, nm, rfl, B7, s7.fh, hps5, ok, len, ht5, hnm, no1, tb, hc, fun F8 H8 s8 B8 => ⟨true, rfl, iteF ?_⟩⟩
    refine ⟨3, rfl, by decide, by decide, ?_⟩
    refine for_it walk_range (fun i σ' H' => ∃ F' c6, σ' = [some (.ref p), some (.ref b), some (.int m'), some (.ref l), some (.ref t), some (.ref rp), c6] ∧ Bag K b F' H' ∧ Same F' H' ∧ Same F5 F') ⟨F8, none, rfl, B8, s8.fh, s8.ff⟩ (fun _ _ _ _ _ => trivial) ?_ ?_
    · rintro i _ _ _ H9 hi ⟨F9, c6, rfl, B9, f9, e9⟩ ⟨rfl, rfl⟩
      refine gn ?_
      refine ⟨_, rfl, _, rfl, _, rfl, F9, b, l, rp, ps, f, rfl, B9, f9, hps5.up e9, ok, len, tb.up e9, fun F10 H10 s10 B10 => ⟨true, rfl, iteF ?_⟩⟩
      exact ⟨F10, _, rfl, B10, s10.fh, e9.trans s10.ff⟩
    · rintro _ H9 ⟨F9, c6, rfl, B9, f9, e9⟩
      exact k _
end
end K49

set_option Elab.async false
set_option linter.all false
set_option maxRecDepth 100000
set_option maxHeartbeats 4000000
namespace K49
open PySem PySem.Spec PyProof.Rows L2 Ew
theorem kit_cls0 {K : PySem.W.Frag} {t : Value} {C : Addr} {b : Bool} (h2 : PySem.W.isClsIn K C = true) (h3 : PySem.W.typeIn K (.ref C) = some (.type "type")) (h4 : PySem.W.subIn K t (.ref C) = some b) : PySem.W.kitCls K t (.ref C) = some b := by
  have e2 : ((PySem.W.clsIn K C).isSome && PySem.W.typeIn K (.ref C) == some (.type "type")) = true := by
    have h2' : (PySem.W.clsIn K C).isSome = true := h2
    rw [h2', h3] <;> rfl
  show (if ((PySem.W.clsIn K C).isSome && PySem.W.typeIn K (.ref C) == some (.type "type")) = true then PySem.W.subIn K t (.ref C) else none) = some b
  rw [if_pos e2]
  exact h4
theorem nf_of {K : PySem.W.Frag} {C : Addr} {T : String} (h : PySem.W.subIn K (.type T) (.ref C) = some false) : PySem.W.notFirst K C (.type T) = true := by
  unfold PySem.W.notFirst
  rw [h]
  simp
theorem fn_at {K : PySem.W.Frag} {f : Addr} {oc : Value} {od : Option Addr} {fd : FuncData} {sl : Array (Option Value)} (l : K.lookup f = some ⟨oc, od, .func fd, sl⟩) : PySem.W.fnIn K f = true := by
  unfold PySem.W.fnIn
  rw [l]
theorem all6 {p : String → Prop} (h1 : p "NoneType") (h2 : p "bool") (h3 : p "int") (h4 : p "str") (h5 : p "list") (h6 : p "tuple") : ∀ T ∈ (["NoneType", "bool", "int", "str", "list", "tuple"] : List String), p T := by
  intro T h
  simp only [List.mem_cons, List.not_mem_nil, or_false] at h
  rcases h with rfl | rfl | rfl | rfl | rfl | rfl
  · exact h1
  · exact h2
  · exact h3
  · exact h4
  · exact h5
  · exact h6
theorem ground_at {K : PySem.W.Frag} {aG : Addr} {odW : Option Addr} {nW : Nat} {slW : Array (Option Value)} {w0 w1 w2 : Tok} (l : K.lookup aG = some ⟨.type "tuple", odW, .seq #[.str "ground" w0, .int 0 w1, .int 0 w2] nW, slW⟩) : ∀ H, SqT K H aG [.str "ground", .int 0, .int 0] := fun H =>
  .inr ⟨_, _, nW, l, rfl, rfl, by show 3 ≤ sizeLine; decide, .cons ⟨_, rfl⟩ (.cons ⟨_, rfl⟩ (.cons ⟨_, rfl⟩ .nil))⟩
theorem kit_no1 {K : PySem.W.Frag} {C : Addr} {T : String} (h2 : PySem.W.isClsIn K C = true) (h3 : PySem.W.typeIn K (.ref C) = some (.type "type")) (h4 : PySem.W.subIn K (.type T) (.ref C) = some false) : PySem.W.kitOne K (.type T) (.ref C) = some false := by
  unfold PySem.W.kitOne
  rw [if_neg (by simp)]
  exact kit_cls0 h2 h3 h4
theorem kit_ty2 {K : PySem.W.Frag} {C : Addr} (h4 : PySem.W.subIn K (.ref C) (.type "ValueError") = some true) : PySem.W.kitOne K (.ref C) (.type "ValueError") = some true := by
  unfold PySem.W.kitOne
  rw [if_neg (by simp)]
  show (if PySem.W.kitMeta "ValueError" = true then PySem.W.subIn K (.ref C) (.type "ValueError") else none) = some true
  rw [if_pos (by decide +kernel)]
  exact h4
theorem kit_no0 {K : PySem.W.Frag} {D C : Addr} (n : D ≠ C) (h2 : PySem.W.isClsIn K C = true) (h3 : PySem.W.typeIn K (.ref C) = some (.type "type")) (h4 : PySem.W.subIn K (.ref D) (.ref C) = some false) : PySem.W.kitOne K (.ref D) (.ref C) = some false := by
  unfold PySem.W.kitOne
  rw [if_neg (by simpa using n)]
  exact kit_cls0 h2 h3 h4
theorem kit_yes {K : PySem.W.Frag} {t : Value} {C : Addr} (h2 : PySem.W.isClsIn K C = true) (h3 : PySem.W.typeIn K (.ref C) = some (.type "type")) (h4 : PySem.W.subIn K t (.ref C) = some true) : PySem.W.kitOne K t (.ref C) = some true := by
  unfold PySem.W.kitOne
  split
  · rfl
  · exact kit_cls0 h2 h3 h4
theorem exm_of {K : PySem.W.Frag} {D C : Addr} {b : Bool} (e : PySem.W.subIn K (.ref C) (.type "BaseException") = some true) (h2 : PySem.W.isClsIn K C = true) (h3 : PySem.W.typeIn K (.ref C) = some (.type "type")) (h4 : PySem.W.subIn K (.ref D) (.ref C) = some b) : PySem.W.exmOne K (.ref D) (.ref C) = some b := by
  unfold PySem.W.exmOne
  have e1 : (PySem.W.subIn K (.ref C) (.type "BaseException") == some true) = true := by rw [e] <;> rfl
  rw [if_pos e1]
  exact kit_cls0 h2 h3 h4
theorem why_at {K : PySem.W.Frag} {aW : Addr} {odH : Option Addr} {nH : Nat} {slH : Array (Option Value)} {w3 : Tok} (l : K.lookup aW = some ⟨.type "tuple", odH, .seq #[.str "card" w3] nH, slH⟩) : ∀ H, SqT K H aW [.str "card"] := fun H =>
  .inr ⟨_, _, nH, l, rfl, rfl, by show 1 ≤ sizeLine; decide, .cons ⟨_, rfl⟩ .nil⟩
theorem all_mk {P : Program} {w : World} {K : PySem.W.Frag} {h : Heap} {mg : Str → Option Value} {fa : Addr} (X : K.In h) (G : h.Ns mainGlobals mg) (hfa : mg "law" = some (.ref fa))
    {aG aWH : Addr} {odW odH : Option Addr} {nW nH : Nat} {slW slH : Array (Option Value)} {w0 w1 w2 w3 : Tok}
    {C_EllError : Addr}
    {C_BadSpot : Addr} {nm_BadSpot q_BadSpot : Str} {N_BadSpot : Addr} {bs_BadSpot : List Value} {sn_BadSpot : List Str} {sub_BadSpot : List Value} {ab_BadSpot : Bool} {col_BadSpot : Option Bool} {dd_BadSpot : Option Addr} {m0_BadSpot m1_BadSpot m2_BadSpot m3_BadSpot m5_BadSpot : Option Value}
    {f1 : Addr} {od1 an1 : Option Addr} {sl1 : Array (Option Value)} {oc1 kV1 dc1 pm1 cd1 ct1 : Value}
    {C_NoSpot : Addr} {nm_NoSpot q_NoSpot : Str} {N_NoSpot : Addr} {bs_NoSpot : List Value} {sn_NoSpot : List Str} {sub_NoSpot : List Value} {ab_NoSpot : Bool} {col_NoSpot : Option Bool} {dd_NoSpot : Option Addr} {m0_NoSpot m1_NoSpot m2_NoSpot m3_NoSpot m5_NoSpot : Option Value}
    {f2 : Addr} {od2 an2 : Option Addr} {sl2 : Array (Option Value)} {oc2 kV2 dc2 pm2 cd2 ct2 : Value}
    {C_BadCard : Addr} {nm_BadCard q_BadCard : Str} {N_BadCard : Addr} {bs_BadCard : List Value} {sn_BadCard : List Str} {sub_BadCard : List Value} {ab_BadCard : Bool} {col_BadCard : Option Bool} {dd_BadCard : Option Addr} {m0_BadCard m1_BadCard m2_BadCard m3_BadCard m5_BadCard : Option Value}
    {f3 : Addr} {od3 an3 : Option Addr} {sl3 : Array (Option Value)} {oc3 kV3 dc3 pm3 cd3 ct3 : Value}
    {C_Card : Addr}
    {f4 : Addr} {od4 an4 : Option Addr} {sl4 : Array (Option Value)} {oc4 kV4 dc4 pm4 cd4 ct4 : Value}
    {f5 : Addr} {od5 an5 : Option Addr} {sl5 : Array (Option Value)} {oc5 kV5 dc5 pm5 cd5 ct5 : Value}
    {f6 : Addr} {od6 an6 : Option Addr} {sl6 : Array (Option Value)} {oc6 kV6 dc6 pm6 cd6 ct6 : Value}
    {f7 : Addr} {od7 an7 : Option Addr} {sl7 : Array (Option Value)} {oc7 kV7 dc7 pm7 cd7 ct7 : Value}
    {f8 : Addr} {od8 an8 : Option Addr} {sl8 : Array (Option Value)} {oc8 kV8 dc8 pm8 cd8 ct8 : Value}
    {f9 : Addr} {od9 an9 : Option Addr} {sl9 : Array (Option Value)} {oc9 kV9 dc9 pm9 cd9 ct9 : Value}
    {f10 : Addr} {od10 an10 : Option Addr} {sl10 : Array (Option Value)} {oc10 kV10 dc10 pm10 cd10 ct10 : Value}
    {f11 : Addr} {od11 an11 : Option Addr} {sl11 : Array (Option Value)} {oc11 kV11 dc11 pm11 cd11 ct11 : Value}
    {f12 : Addr} {od12 an12 : Option Addr} {sl12 : Array (Option Value)} {oc12 kV12 dc12 pm12 cd12 ct12 : Value}
    {f13 : Addr} {od13 an13 : Option Addr} {sl13 : Array (Option Value)} {oc13 kV13 dc13 pm13 cd13 ct13 : Value}
    {f14 : Addr} {od14 an14 : Option Addr} {sl14 : Array (Option Value)} {oc14 kV14 dc14 pm14 cd14 ct14 : Value}
    {f15 : Addr} {od15 an15 : Option Addr} {sl15 : Array (Option Value)} {oc15 kV15 dc15 pm15 cd15 ct15 : Value}
    {f16 : Addr} {od16 an16 : Option Addr} {sl16 : Array (Option Value)} {oc16 kV16 dc16 pm16 cd16 ct16 : Value}
    {f17 : Addr} {od17 an17 : Option Addr} {sl17 : Array (Option Value)} {oc17 kV17 dc17 pm17 cd17 ct17 : Value}
    {f18 : Addr} {od18 an18 : Option Addr} {sl18 : Array (Option Value)} {oc18 kV18 dc18 pm18 cd18 ct18 : Value}
    {f19 : Addr} {od19 an19 : Option Addr} {sl19 : Array (Option Value)} {oc19 kV19 dc19 pm19 cd19 ct19 : Value}
    {f20 : Addr} {od20 an20 : Option Addr} {sl20 : Array (Option Value)} {oc20 kV20 dc20 pm20 cd20 ct20 : Value}
    {f21 : Addr} {od21 an21 : Option Addr} {sl21 : Array (Option Value)} {oc21 kV21 dc21 pm21 cd21 ct21 : Value}
    {f22 : Addr} {od22 an22 : Option Addr} {sl22 : Array (Option Value)} {oc22 kV22 dc22 pm22 cd22 ct22 : Value}
    {f23 : Addr} {od23 an23 : Option Addr} {sl23 : Array (Option Value)} {oc23 kV23 dc23 pm23 cd23 ct23 : Value}
    {f24 : Addr} {od24 an24 : Option Addr} {sl24 : Array (Option Value)} {oc24 kV24 dc24 pm24 cd24 ct24 : Value}
    {f25 : Addr} {od25 an25 : Option Addr} {sl25 : Array (Option Value)} {oc25 kV25 dc25 pm25 cd25 ct25 : Value}
    {f26 : Addr} {od26 an26 : Option Addr} {sl26 : Array (Option Value)} {oc26 kV26 dc26 pm26 cd26 ct26 : Value}
    {f27 : Addr} {od27 an27 : Option Addr} {sl27 : Array (Option Value)} {oc27 kV27 dc27 pm27 cd27 ct27 : Value}
    {f28 : Addr} {od28 an28 : Option Addr} {sl28 : Array (Option Value)} {oc28 kV28 dc28 pm28 cd28 ct28 : Value}
    {f29 : Addr} {od29 an29 : Option Addr} {sl29 : Array (Option Value)} {oc29 kV29 dc29 pm29 cd29 ct29 : Value}
    {f30 : Addr} {od30 an30 : Option Addr} {sl30 : Array (Option Value)} {oc30 kV30 dc30 pm30 cd30 ct30 : Value}
    {f31 : Addr} {od31 an31 : Option Addr} {sl31 : Array (Option Value)} {oc31 kV31 dc31 pm31 cd31 ct31 : Value}
    {f32 : Addr} {od32 an32 : Option Addr} {sl32 : Array (Option Value)} {oc32 kV32 dc32 pm32 cd32 ct32 : Value}
    {f33 : Addr} {od33 an33 : Option Addr} {sl33 : Array (Option Value)} {oc33 kV33 dc33 pm33 cd33 ct33 : Value}
    {f34 : Addr} {od34 an34 : Option Addr} {sl34 : Array (Option Value)} {oc34 kV34 dc34 pm34 cd34 ct34 : Value}
    {f35 : Addr} {od35 an35 : Option Addr} {sl35 : Array (Option Value)} {oc35 kV35 dc35 pm35 cd35 ct35 : Value}
    {f36 : Addr} {od36 an36 : Option Addr} {sl36 : Array (Option Value)} {oc36 kV36 dc36 pm36 cd36 ct36 : Value}
    {f37 : Addr} {od37 an37 : Option Addr} {sl37 : Array (Option Value)} {oc37 kV37 dc37 pm37 cd37 ct37 : Value}
    {f38 : Addr} {od38 an38 : Option Addr} {sl38 : Array (Option Value)} {oc38 kV38 dc38 pm38 cd38 ct38 : Value}
    {f39 : Addr} {od39 an39 : Option Addr} {sl39 : Array (Option Value)} {oc39 kV39 dc39 pm39 cd39 ct39 : Value}
    {f40 : Addr} {od40 an40 : Option Addr} {sl40 : Array (Option Value)} {oc40 kV40 dc40 pm40 cd40 ct40 : Value}
    {f41 : Addr} {od41 an41 : Option Addr} {sl41 : Array (Option Value)} {oc41 kV41 dc41 pm41 cd41 ct41 : Value}
    {f42 : Addr} {od42 an42 : Option Addr} {sl42 : Array (Option Value)} {oc42 kV42 dc42 pm42 cd42 ct42 : Value}
    {f43 : Addr} {od43 an43 : Option Addr} {sl43 : Array (Option Value)} {oc43 kV43 dc43 pm43 cd43 ct43 : Value}
    {f44 : Addr} {od44 an44 : Option Addr} {sl44 : Array (Option Value)} {oc44 kV44 dc44 pm44 cd44 ct44 : Value}
    {f45 : Addr} {od45 an45 : Option Addr} {sl45 : Array (Option Value)} {oc45 kV45 dc45 pm45 cd45 ct45 : Value}
    {f46 : Addr} {od46 an46 : Option Addr} {sl46 : Array (Option Value)} {oc46 kV46 dc46 pm46 cd46 ct46 : Value}
    {f47 : Addr} {od47 an47 : Option Addr} {sl47 : Array (Option Value)} {oc47 kV47 dc47 pm47 cd47 ct47 : Value}
    {f48 : Addr} {od48 an48 : Option Addr} {sl48 : Array (Option Value)} {oc48 kV48 dc48 pm48 cd48 ct48 : Value}
    {f49 : Addr} {od49 an49 : Option Addr} {sl49 : Array (Option Value)} {oc49 kV49 dc49 pm49 cd49 ct49 : Value}
    {f50 : Addr} {od50 an50 : Option Addr} {sl50 : Array (Option Value)} {oc50 kV50 dc50 pm50 cd50 ct50 : Value}
    {f51 : Addr} {od51 an51 : Option Addr} {sl51 : Array (Option Value)} {oc51 kV51 dc51 pm51 cd51 ct51 : Value}
    {f52 : Addr} {od52 an52 : Option Addr} {sl52 : Array (Option Value)} {oc52 kV52 dc52 pm52 cd52 ct52 : Value}
    {f53 : Addr} {od53 an53 : Option Addr} {sl53 : Array (Option Value)} {oc53 kV53 dc53 pm53 cd53 ct53 : Value}
    {f54 : Addr} {od54 an54 : Option Addr} {sl54 : Array (Option Value)} {oc54 kV54 dc54 pm54 cd54 ct54 : Value}
    {f55 : Addr} {od55 an55 : Option Addr} {sl55 : Array (Option Value)} {oc55 kV55 dc55 pm55 cd55 ct55 : Value}
    {f56 : Addr} {od56 an56 : Option Addr} {sl56 : Array (Option Value)} {oc56 kV56 dc56 pm56 cd56 ct56 : Value}
    {f57 : Addr} {od57 an57 : Option Addr} {sl57 : Array (Option Value)} {oc57 kV57 dc57 pm57 cd57 ct57 : Value}
    {f58 : Addr} {od58 an58 : Option Addr} {sl58 : Array (Option Value)} {oc58 kV58 dc58 pm58 cd58 ct58 : Value}
    {f59 : Addr} {od59 an59 : Option Addr} {sl59 : Array (Option Value)} {oc59 kV59 dc59 pm59 cd59 ct59 : Value}
    (z_isinstance : PySem.W.nsIn K mainGlobals "isinstance" = some none)
    (z_int : PySem.W.nsIn K mainGlobals "int" = some none)
    (z_bool : PySem.W.nsIn K mainGlobals "bool" = some none)
    (z_tuple : PySem.W.nsIn K mainGlobals "tuple" = some none)
    (z_str : PySem.W.nsIn K mainGlobals "str" = some none)
    (z_list : PySem.W.nsIn K mainGlobals "list" = some none)
    (z_len : PySem.W.nsIn K mainGlobals "len" = some none)
    (z_any : PySem.W.nsIn K mainGlobals "any" = some none)
    (z_all : PySem.W.nsIn K mainGlobals "all" = some none)
    (z_range : PySem.W.nsIn K mainGlobals "range" = some none)
    (z_enumerate : PySem.W.nsIn K mainGlobals "enumerate" = some none)
    (z_zip : PySem.W.nsIn K mainGlobals "zip" = some none)
    (z_min : PySem.W.nsIn K mainGlobals "min" = some none)
    (z_max : PySem.W.nsIn K mainGlobals "max" = some none)
    (z_ValueError : PySem.W.nsIn K mainGlobals "ValueError" = some none)
    (z_iter : PySem.W.nsIn K mainGlobals "iter" = some none)
    (zz_GROUND : PySem.W.nsIn K mainGlobals "GROUND" = some (some (.ref aG)))
    (lGG : K.lookup aG = some ⟨.type "tuple", odW, .seq #[.str "ground" w0, .int 0 w1, .int 0 w2] nW, slW⟩)
    (zz_WHY : PySem.W.nsIn K mainGlobals "WHY" = some (some (.ref aWH)))
    (lWH : K.lookup aWH = some ⟨.type "tuple", odH, .seq #[.str "card" w3] nH, slH⟩)
    (gg0 : PySem.W.specialIn K (.builtin "object.__class__") "__get__" = some (some (.builtin "getset_descriptor.__get__")))
    (tk0 : PySem.W.takesIn K (.builtin "object.__class__") = some true)
    (a_EllError : PySem.W.nsIn K mainGlobals "EllError" = some (some (.ref C_EllError)))
    (ic_EllError : PySem.W.isClsIn K C_EllError = true)
    (tC_EllError : PySem.W.typeIn K (.ref C_EllError) = some (.type "type"))
    (a_BadSpot : PySem.W.nsIn K mainGlobals "BadSpot" = some (some (.ref C_BadSpot)))
    (x_BadSpot : K.lookup C_BadSpot = some (excClassObj nm_BadSpot q_BadSpot C_BadSpot N_BadSpot bs_BadSpot [.ref C_EllError, .type "ValueError", .type "Exception", .type "BaseException", .type "object"] true sn_BadSpot sub_BadSpot ab_BadSpot col_BadSpot dd_BadSpot m0_BadSpot m1_BadSpot m2_BadSpot m3_BadSpot m5_BadSpot "ValueError.__new__"))
    (sa_BadSpot : PySem.W.findIn K (.ref C_BadSpot) "__setattr__" = some (some (.builtin "object.__setattr__")))
    (ga_BadSpot : PySem.W.findIn K (.ref C_BadSpot) "__getattribute__" = some (some (.builtin "BaseException.__getattribute__")))
    (gt_BadSpot : PySem.W.findIn K (.ref C_BadSpot) "__getattr__" = some none)
    (ca_BadSpot : PySem.W.findIn K (.ref C_BadSpot) "__class__" = some (some (.builtin "object.__class__")))
    (kC_BadSpot : PySem.W.keepIn K (.ref C_BadSpot) = true)
    (eC_BadSpot : PySem.W.subIn K (.ref C_BadSpot) (.type "BaseException") = some true)
    (tC_BadSpot : PySem.W.typeIn K (.ref C_BadSpot) = some (.type "type"))
    (hC_BadSpot : PySem.W.hasDictIn K C_BadSpot = true)
    (ic_BadSpot : PySem.W.isClsIn K C_BadSpot = true)
    (mo_BadSpot : PySem.W.mroIn K C_BadSpot (.type "object") = some true)
    (no_BadSpot_place : PySem.W.findIn K (.ref C_BadSpot) "place" = some none)
    (a1 : PySem.W.findIn K (.ref C_BadSpot) "__init__" = some (some (.ref f1)))
    (t1 : PySem.W.typeIn K (.ref f1) = some (.type "function"))
    (l1 : K.lookup f1 = some ⟨oc1, od1, .func (PySem.W.fnOf "__init__" "BadSpot.__init__" (defArgs s_BadSpotD_initD) (defBody s_BadSpotD_initD) (defScope s_BadSpotD_initD) .none kV1 dc1 pm1 an1 cd1 ct1), sl1⟩)
    (c1 : PySem.W.codeIn K cd1 "BadSpot.__init__" = true)
    (k1 : PySem.W.keepIn K (.ref f1) = true)
    (a_NoSpot : PySem.W.nsIn K mainGlobals "NoSpot" = some (some (.ref C_NoSpot)))
    (x_NoSpot : K.lookup C_NoSpot = some (excClassObj nm_NoSpot q_NoSpot C_NoSpot N_NoSpot bs_NoSpot [.ref C_EllError, .type "ValueError", .type "Exception", .type "BaseException", .type "object"] true sn_NoSpot sub_NoSpot ab_NoSpot col_NoSpot dd_NoSpot m0_NoSpot m1_NoSpot m2_NoSpot m3_NoSpot m5_NoSpot "ValueError.__new__"))
    (sa_NoSpot : PySem.W.findIn K (.ref C_NoSpot) "__setattr__" = some (some (.builtin "object.__setattr__")))
    (ga_NoSpot : PySem.W.findIn K (.ref C_NoSpot) "__getattribute__" = some (some (.builtin "BaseException.__getattribute__")))
    (gt_NoSpot : PySem.W.findIn K (.ref C_NoSpot) "__getattr__" = some none)
    (ca_NoSpot : PySem.W.findIn K (.ref C_NoSpot) "__class__" = some (some (.builtin "object.__class__")))
    (kC_NoSpot : PySem.W.keepIn K (.ref C_NoSpot) = true)
    (eC_NoSpot : PySem.W.subIn K (.ref C_NoSpot) (.type "BaseException") = some true)
    (tC_NoSpot : PySem.W.typeIn K (.ref C_NoSpot) = some (.type "type"))
    (hC_NoSpot : PySem.W.hasDictIn K C_NoSpot = true)
    (ic_NoSpot : PySem.W.isClsIn K C_NoSpot = true)
    (mo_NoSpot : PySem.W.mroIn K C_NoSpot (.type "object") = some true)
    (no_NoSpot_spot : PySem.W.findIn K (.ref C_NoSpot) "spot" = some none)
    (a2 : PySem.W.findIn K (.ref C_NoSpot) "__init__" = some (some (.ref f2)))
    (t2 : PySem.W.typeIn K (.ref f2) = some (.type "function"))
    (l2 : K.lookup f2 = some ⟨oc2, od2, .func (PySem.W.fnOf "__init__" "NoSpot.__init__" (defArgs s_NoSpotD_initD) (defBody s_NoSpotD_initD) (defScope s_NoSpotD_initD) .none kV2 dc2 pm2 an2 cd2 ct2), sl2⟩)
    (c2 : PySem.W.codeIn K cd2 "NoSpot.__init__" = true)
    (k2 : PySem.W.keepIn K (.ref f2) = true)
    (a_BadCard : PySem.W.nsIn K mainGlobals "BadCard" = some (some (.ref C_BadCard)))
    (x_BadCard : K.lookup C_BadCard = some (excClassObj nm_BadCard q_BadCard C_BadCard N_BadCard bs_BadCard [.ref C_EllError, .type "ValueError", .type "Exception", .type "BaseException", .type "object"] true sn_BadCard sub_BadCard ab_BadCard col_BadCard dd_BadCard m0_BadCard m1_BadCard m2_BadCard m3_BadCard m5_BadCard "ValueError.__new__"))
    (sa_BadCard : PySem.W.findIn K (.ref C_BadCard) "__setattr__" = some (some (.builtin "object.__setattr__")))
    (ga_BadCard : PySem.W.findIn K (.ref C_BadCard) "__getattribute__" = some (some (.builtin "BaseException.__getattribute__")))
    (gt_BadCard : PySem.W.findIn K (.ref C_BadCard) "__getattr__" = some none)
    (ca_BadCard : PySem.W.findIn K (.ref C_BadCard) "__class__" = some (some (.builtin "object.__class__")))
    (kC_BadCard : PySem.W.keepIn K (.ref C_BadCard) = true)
    (eC_BadCard : PySem.W.subIn K (.ref C_BadCard) (.type "BaseException") = some true)
    (tC_BadCard : PySem.W.typeIn K (.ref C_BadCard) = some (.type "type"))
    (hC_BadCard : PySem.W.hasDictIn K C_BadCard = true)
    (ic_BadCard : PySem.W.isClsIn K C_BadCard = true)
    (mo_BadCard : PySem.W.mroIn K C_BadCard (.type "object") = some true)
    (no_BadCard_place : PySem.W.findIn K (.ref C_BadCard) "place" = some none)
    (a3 : PySem.W.findIn K (.ref C_BadCard) "__init__" = some (some (.ref f3)))
    (t3 : PySem.W.typeIn K (.ref f3) = some (.type "function"))
    (l3 : K.lookup f3 = some ⟨oc3, od3, .func (PySem.W.fnOf "__init__" "BadCard.__init__" (defArgs s_BadCardD_initD) (defBody s_BadCardD_initD) (defScope s_BadCardD_initD) .none kV3 dc3 pm3 an3 cd3 ct3), sl3⟩)
    (c3 : PySem.W.codeIn K cd3 "BadCard.__init__" = true)
    (k3 : PySem.W.keepIn K (.ref f3) = true)
    (vC_BadCard : PySem.W.subIn K (.ref C_BadCard) (.type "ValueError") = some true)
    (lC_BadCard : PySem.W.subIn K (.ref C_BadCard) (.ref C_EllError) = some true)
    (s_BadCard_BadSpot : PySem.W.subIn K (.ref C_BadCard) (.ref C_BadSpot) = some false)
    (ne_BadCard_BadSpot : C_BadCard ≠ C_BadSpot)
    (s_BadCard_BadCard : PySem.W.subIn K (.ref C_BadCard) (.ref C_BadCard) = some true)
    (s_BadSpot_BadSpot : PySem.W.subIn K (.ref C_BadSpot) (.ref C_BadSpot) = some true)
    (s_NoSpot_NoSpot : PySem.W.subIn K (.ref C_NoSpot) (.ref C_NoSpot) = some true)
    (a_Card : PySem.W.nsIn K mainGlobals "Card" = some (some (.ref C_Card)))
    (pg : PySem.W.plainGet K C_Card Str.empty = true)
    (hd : PySem.W.hasDictIn K C_Card = true)
    (po : PySem.W.plainOver K C_Card = true)
    (sa : PySem.W.findIn K (.ref C_Card) "__setattr__" = some (some (.builtin "object.__setattr__")))
    (ca : PySem.W.findIn K (.ref C_Card) "__class__" = some (some (.builtin "object.__class__")))
    (mo : PySem.W.mroIn K C_Card (.type "object") = some true)
    (nS : PySem.W.findIn K (.ref C_Card) "spots" = some none)
    (nP : PySem.W.findIn K (.ref C_Card) "_places" = some none)
    (nR : PySem.W.findIn K (.ref C_Card) "rows" = some none)
    (ic : PySem.W.isClsIn K C_Card = true)
    (tC : PySem.W.typeIn K (.ref C_Card) = some (.type "type"))
    (mk : PySem.W.makesIn K C_Card = true)
    (kc : PySem.W.keepIn K (.ref C_Card) = true)
    (sf : PySem.W.selfFirst K C_Card = true)
    (sb_NoneType : PySem.W.subIn K (.type "NoneType") (.ref C_Card) = some false)
    (sb_bool : PySem.W.subIn K (.type "bool") (.ref C_Card) = some false)
    (sb_int : PySem.W.subIn K (.type "int") (.ref C_Card) = some false)
    (sb_str : PySem.W.subIn K (.type "str") (.ref C_Card) = some false)
    (sb_list : PySem.W.subIn K (.type "list") (.ref C_Card) = some false)
    (sb_tuple : PySem.W.subIn K (.type "tuple") (.ref C_Card) = some false)
    (a4 : PySem.W.findIn K (.ref C_Card) "__init__" = some (some (.ref f4)))
    (i4 : PySem.W.isFn K (.ref f4) = true)
    (l4 : K.lookup f4 = some ⟨oc4, od4, .func (PySem.W.fnOf "__init__" "Card.__init__" (defArgs s_CardD_initD) (defBody s_CardD_initD) (defScope s_CardD_initD) .none kV4 dc4 pm4 an4 cd4 ct4), sl4⟩)
    (c4 : PySem.W.codeIn K cd4 "Card.__init__" = true)
    (k4 : PySem.W.keepIn K (.ref f4) = true)
    (a5 : PySem.W.findIn K (.ref C_Card) "__getitem__" = some (some (.ref f5)))
    (i5 : PySem.W.isFn K (.ref f5) = true)
    (l5 : K.lookup f5 = some ⟨oc5, od5, .func (PySem.W.fnOf "__getitem__" "Card.__getitem__" (defArgs s_CardD_getitemD) (defBody s_CardD_getitemD) (defScope s_CardD_getitemD) .none kV5 dc5 pm5 an5 cd5 ct5), sl5⟩)
    (c5 : PySem.W.codeIn K cd5 "Card.__getitem__" = true)
    (k5 : PySem.W.keepIn K (.ref f5) = true)
    (a6 : PySem.W.findIn K (.ref C_Card) "__len__" = some (some (.ref f6)))
    (i6 : PySem.W.isFn K (.ref f6) = true)
    (l6 : K.lookup f6 = some ⟨oc6, od6, .func (PySem.W.fnOf "__len__" "Card.__len__" (defArgs s_CardD_lenD) (defBody s_CardD_lenD) (defScope s_CardD_lenD) .none kV6 dc6 pm6 an6 cd6 ct6), sl6⟩)
    (c6 : PySem.W.codeIn K cd6 "Card.__len__" = true)
    (k6 : PySem.W.keepIn K (.ref f6) = true)
    (a7 : PySem.W.findIn K (.ref C_Card) "__contains__" = some (some (.ref f7)))
    (i7 : PySem.W.isFn K (.ref f7) = true)
    (l7 : K.lookup f7 = some ⟨oc7, od7, .func (PySem.W.fnOf "__contains__" "Card.__contains__" (defArgs s_CardD_containsD) (defBody s_CardD_containsD) (defScope s_CardD_containsD) .none kV7 dc7 pm7 an7 cd7 ct7), sl7⟩)
    (c7 : PySem.W.codeIn K cd7 "Card.__contains__" = true)
    (k7 : PySem.W.keepIn K (.ref f7) = true)
    (a8 : PySem.W.findIn K (.ref C_Card) "__eq__" = some (some (.ref f8)))
    (i8 : PySem.W.isFn K (.ref f8) = true)
    (l8 : K.lookup f8 = some ⟨oc8, od8, .func (PySem.W.fnOf "__eq__" "Card.__eq__" (defArgs s_CardD_eqD) (defBody s_CardD_eqD) (defScope s_CardD_eqD) .none kV8 dc8 pm8 an8 cd8 ct8), sl8⟩)
    (c8 : PySem.W.codeIn K cd8 "Card.__eq__" = true)
    (k8 : PySem.W.keepIn K (.ref f8) = true)
    (a9 : PySem.W.findIn K (.ref C_Card) "__iter__" = some (some (.ref f9)))
    (i9 : PySem.W.isFn K (.ref f9) = true)
    (l9 : K.lookup f9 = some ⟨oc9, od9, .func (PySem.W.fnOf "__iter__" "Card.__iter__" (defArgs s_CardD_iterD) (defBody s_CardD_iterD) (defScope s_CardD_iterD) .none kV9 dc9 pm9 an9 cd9 ct9), sl9⟩)
    (c9 : PySem.W.codeIn K cd9 "Card.__iter__" = true)
    (k9 : PySem.W.keepIn K (.ref f9) = true)
    (a10 : PySem.W.findIn K (.ref C_Card) "cut" = some (some (.ref f10)))
    (i10 : PySem.W.isFn K (.ref f10) = true)
    (l10 : K.lookup f10 = some ⟨oc10, od10, .func (PySem.W.fnOf "cut" "Card.cut" (defArgs s_Card_cut) (defBody s_Card_cut) (defScope s_Card_cut) .none kV10 dc10 pm10 an10 cd10 ct10), sl10⟩)
    (c10 : PySem.W.codeIn K cd10 "Card.cut" = true)
    (k10 : PySem.W.keepIn K (.ref f10) = true)
    (a11 : PySem.W.findIn K (.ref C_Card) "_place" = some (some (.ref f11)))
    (i11 : PySem.W.isFn K (.ref f11) = true)
    (l11 : K.lookup f11 = some ⟨oc11, od11, .func (PySem.W.fnOf "_place" "Card._place" (defArgs s_Card__place) (defBody s_Card__place) (defScope s_Card__place) .none kV11 dc11 pm11 an11 cd11 ct11), sl11⟩)
    (c11 : PySem.W.codeIn K cd11 "Card._place" = true)
    (k11 : PySem.W.keepIn K (.ref f11) = true)
    (a12 : PySem.W.nsIn K mainGlobals "_wall" = some (some (.ref f12)))
    (l12 : K.lookup f12 = some ⟨oc12, od12, .func (PySem.W.fnOf "_wall" "_wall" (defArgs s__wall) (defBody s__wall) (defScope s__wall) .none kV12 dc12 pm12 an12 cd12 ct12), sl12⟩)
    (c12 : PySem.W.codeIn K cd12 "_wall" = true)
    (k12 : PySem.W.keepIn K (.ref f12) = true)
    (a13 : PySem.W.nsIn K mainGlobals "is_integer" = some (some (.ref f13)))
    (l13 : K.lookup f13 = some ⟨oc13, od13, .func (PySem.W.fnOf "is_integer" "is_integer" (defArgs s_is_integer) (defBody s_is_integer) (defScope s_is_integer) .none kV13 dc13 pm13 an13 cd13 ct13), sl13⟩)
    (c13 : PySem.W.codeIn K cd13 "is_integer" = true)
    (k13 : PySem.W.keepIn K (.ref f13) = true)
    (a14 : PySem.W.nsIn K mainGlobals "is_row" = some (some (.ref f14)))
    (l14 : K.lookup f14 = some ⟨oc14, od14, .func (PySem.W.fnOf "is_row" "is_row" (defArgs s_is_row) (defBody s_is_row) (defScope s_is_row) .none kV14 dc14 pm14 an14 cd14 ct14), sl14⟩)
    (c14 : PySem.W.codeIn K cd14 "is_row" = true)
    (k14 : PySem.W.keepIn K (.ref f14) = true)
    (a15 : PySem.W.nsIn K mainGlobals "is_tuple_of" = some (some (.ref f15)))
    (l15 : K.lookup f15 = some ⟨oc15, od15, .func (PySem.W.fnOf "is_tuple_of" "is_tuple_of" (defArgs s_is_tuple_of) (defBody s_is_tuple_of) (defScope s_is_tuple_of) .none kV15 dc15 pm15 an15 cd15 ct15), sl15⟩)
    (c15 : PySem.W.codeIn K cd15 "is_tuple_of" = true)
    (k15 : PySem.W.keepIn K (.ref f15) = true)
    (a16 : PySem.W.nsIn K mainGlobals "ways_from" = some (some (.ref f16)))
    (l16 : K.lookup f16 = some ⟨oc16, od16, .func (PySem.W.fnOf "ways_from" "ways_from" (defArgs s_ways_from) (defBody s_ways_from) (defScope s_ways_from) .none kV16 dc16 pm16 an16 cd16 ct16), sl16⟩)
    (c16 : PySem.W.codeIn K cd16 "ways_from" = true)
    (k16 : PySem.W.keepIn K (.ref f16) = true)
    (a17 : PySem.W.nsIn K mainGlobals "_ring_of" = some (some (.ref f17)))
    (l17 : K.lookup f17 = some ⟨oc17, od17, .func (PySem.W.fnOf "_ring_of" "_ring_of" (defArgs s__ring_of) (defBody s__ring_of) (defScope s__ring_of) .none kV17 dc17 pm17 an17 cd17 ct17), sl17⟩)
    (c17 : PySem.W.codeIn K cd17 "_ring_of" = true)
    (k17 : PySem.W.keepIn K (.ref f17) = true)
    (a18 : PySem.W.nsIn K mainGlobals "_followed_back" = some (some (.ref f18)))
    (l18 : K.lookup f18 = some ⟨oc18, od18, .func (PySem.W.fnOf "_followed_back" "_followed_back" (defArgs s__followed_back) (defBody s__followed_back) (defScope s__followed_back) .none kV18 dc18 pm18 an18 cd18 ct18), sl18⟩)
    (c18 : PySem.W.codeIn K cd18 "_followed_back" = true)
    (k18 : PySem.W.keepIn K (.ref f18) = true)
    (a19 : PySem.W.nsIn K mainGlobals "is_spot" = some (some (.ref f19)))
    (l19 : K.lookup f19 = some ⟨oc19, od19, .func (PySem.W.fnOf "is_spot" "is_spot" (defArgs s_is_spot) (defBody s_is_spot) (defScope s_is_spot) .none kV19 dc19 pm19 an19 cd19 ct19), sl19⟩)
    (c19 : PySem.W.codeIn K cd19 "is_spot" = true)
    (k19 : PySem.W.keepIn K (.ref f19) = true)
    (a20 : PySem.W.nsIn K mainGlobals "arrows_of" = some (some (.ref f20)))
    (l20 : K.lookup f20 = some ⟨oc20, od20, .func (PySem.W.fnOf "arrows_of" "arrows_of" (defArgs s_arrows_of) (defBody s_arrows_of) (defScope s_arrows_of) .none kV20 dc20 pm20 an20 cd20 ct20), sl20⟩)
    (c20 : PySem.W.codeIn K cd20 "arrows_of" = true)
    (k20 : PySem.W.keepIn K (.ref f20) = true)
    (a21 : PySem.W.nsIn K mainGlobals "places_of" = some (some (.ref f21)))
    (l21 : K.lookup f21 = some ⟨oc21, od21, .func (PySem.W.fnOf "places_of" "places_of" (defArgs s_places_of) (defBody s_places_of) (defScope s_places_of) .none kV21 dc21 pm21 an21 cd21 ct21), sl21⟩)
    (c21 : PySem.W.codeIn K cd21 "places_of" = true)
    (k21 : PySem.W.keepIn K (.ref f21) = true)
    (a22 : PySem.W.nsIn K mainGlobals "is_closed" = some (some (.ref f22)))
    (l22 : K.lookup f22 = some ⟨oc22, od22, .func (PySem.W.fnOf "is_closed" "is_closed" (defArgs s_is_closed) (defBody s_is_closed) (defScope s_is_closed) .none kV22 dc22 pm22 an22 cd22 ct22), sl22⟩)
    (c22 : PySem.W.codeIn K cd22 "is_closed" = true)
    (k22 : PySem.W.keepIn K (.ref f22) = true)
    (a23 : PySem.W.nsIn K mainGlobals "joined_tables" = some (some (.ref f23)))
    (l23 : K.lookup f23 = some ⟨oc23, od23, .func (PySem.W.fnOf "joined_tables" "joined_tables" (defArgs s_joined_tables) (defBody s_joined_tables) (defScope s_joined_tables) .none kV23 dc23 pm23 an23 cd23 ct23), sl23⟩)
    (c23 : PySem.W.codeIn K cd23 "joined_tables" = true)
    (k23 : PySem.W.keepIn K (.ref f23) = true)
    (a24 : PySem.W.nsIn K mainGlobals "_by_way" = some (some (.ref f24)))
    (l24 : K.lookup f24 = some ⟨oc24, od24, .func (PySem.W.fnOf "_by_way" "_by_way" (defArgs s__by_way) (defBody s__by_way) (defScope s__by_way) .none kV24 dc24 pm24 an24 cd24 ct24), sl24⟩)
    (c24 : PySem.W.codeIn K cd24 "_by_way" = true)
    (k24 : PySem.W.keepIn K (.ref f24) = true)
    (a25 : PySem.W.nsIn K mainGlobals "_side_by_side" = some (some (.ref f25)))
    (l25 : K.lookup f25 = some ⟨oc25, od25, .func (PySem.W.fnOf "_side_by_side" "_side_by_side" (defArgs s__side_by_side) (defBody s__side_by_side) (defScope s__side_by_side) .none kV25 dc25 pm25 an25 cd25 ct25), sl25⟩)
    (c25 : PySem.W.codeIn K cd25 "_side_by_side" = true)
    (k25 : PySem.W.keepIn K (.ref f25) = true)
    (a26 : PySem.W.nsIn K mainGlobals "_with_least" = some (some (.ref f26)))
    (l26 : K.lookup f26 = some ⟨oc26, od26, .func (PySem.W.fnOf "_with_least" "_with_least" (defArgs s__with_least) (defBody s__with_least) (defScope s__with_least) .none kV26 dc26 pm26 an26 cd26 ct26), sl26⟩)
    (c26 : PySem.W.codeIn K cd26 "_with_least" = true)
    (k26 : PySem.W.keepIn K (.ref f26) = true)
    (a27 : PySem.W.nsIn K mainGlobals "_joints" = some (some (.ref f27)))
    (l27 : K.lookup f27 = some ⟨oc27, od27, .func (PySem.W.fnOf "_joints" "_joints" (defArgs s__joints) (defBody s__joints) (defScope s__joints) .none kV27 dc27 pm27 an27 cd27 ct27), sl27⟩)
    (c27 : PySem.W.codeIn K cd27 "_joints" = true)
    (k27 : PySem.W.keepIn K (.ref f27) = true)
    (a28 : PySem.W.nsIn K mainGlobals "card_links" = some (some (.ref f28)))
    (l28 : K.lookup f28 = some ⟨oc28, od28, .func (PySem.W.fnOf "card_links" "card_links" (defArgs s_card_links) (defBody s_card_links) (defScope s_card_links) .none kV28 dc28 pm28 an28 cd28 ct28), sl28⟩)
    (c28 : PySem.W.codeIn K cd28 "card_links" = true)
    (k28 : PySem.W.keepIn K (.ref f28) = true)
    (a29 : PySem.W.nsIn K mainGlobals "_named_once" = some (some (.ref f29)))
    (l29 : K.lookup f29 = some ⟨oc29, od29, .func (PySem.W.fnOf "_named_once" "_named_once" (defArgs s__named_once) (defBody s__named_once) (defScope s__named_once) .none kV29 dc29 pm29 an29 cd29 ct29), sl29⟩)
    (c29 : PySem.W.codeIn K cd29 "_named_once" = true)
    (k29 : PySem.W.keepIn K (.ref f29) = true)
    (a30 : PySem.W.nsIn K mainGlobals "_trusted" = some (some (.ref f30)))
    (l30 : K.lookup f30 = some ⟨oc30, od30, .func (PySem.W.fnOf "_trusted" "_trusted" (defArgs s__trusted) (defBody s__trusted) (defScope s__trusted) .none kV30 dc30 pm30 an30 cd30 ct30), sl30⟩)
    (c30 : PySem.W.codeIn K cd30 "_trusted" = true)
    (k30 : PySem.W.keepIn K (.ref f30) = true)
    (a31 : PySem.W.nsIn K mainGlobals "_judge_rows" = some (some (.ref f31)))
    (l31 : K.lookup f31 = some ⟨oc31, od31, .func (PySem.W.fnOf "_judge_rows" "_judge_rows" (defArgs s__judge_rows) (defBody s__judge_rows) (defScope s__judge_rows) .none kV31 dc31 pm31 an31 cd31 ct31), sl31⟩)
    (c31 : PySem.W.codeIn K cd31 "_judge_rows" = true)
    (k31 : PySem.W.keepIn K (.ref f31) = true)
    (a32 : PySem.W.nsIn K mainGlobals "_clash_ring" = some (some (.ref f32)))
    (l32 : K.lookup f32 = some ⟨oc32, od32, .func (PySem.W.fnOf "_clash_ring" "_clash_ring" (defArgs s__clash_ring) (defBody s__clash_ring) (defScope s__clash_ring) .none kV32 dc32 pm32 an32 cd32 ct32), sl32⟩)
    (c32 : PySem.W.codeIn K cd32 "_clash_ring" = true)
    (k32 : PySem.W.keepIn K (.ref f32) = true)
    (a33 : PySem.W.nsIn K mainGlobals "_law_bag_of" = some (some (.ref f33)))
    (l33 : K.lookup f33 = some ⟨oc33, od33, .func (PySem.W.fnOf "_law_bag_of" "_law_bag_of" (defArgs s__law_bag_of) (defBody s__law_bag_of) (defScope s__law_bag_of) .none kV33 dc33 pm33 an33 cd33 ct33), sl33⟩)
    (c33 : PySem.W.codeIn K cd33 "_law_bag_of" = true)
    (k33 : PySem.W.keepIn K (.ref f33) = true)
    (a34 : PySem.W.nsIn K mainGlobals "_law_pick" = some (some (.ref f34)))
    (l34 : K.lookup f34 = some ⟨oc34, od34, .func (PySem.W.fnOf "_law_pick" "_law_pick" (defArgs s__law_pick) (defBody s__law_pick) (defScope s__law_pick) .none kV34 dc34 pm34 an34 cd34 ct34), sl34⟩)
    (c34 : PySem.W.codeIn K cd34 "_law_pick" = true)
    (k34 : PySem.W.keepIn K (.ref f34) = true)
    (a35 : PySem.W.nsIn K mainGlobals "_law_choice" = some (some (.ref f35)))
    (l35 : K.lookup f35 = some ⟨oc35, od35, .func (PySem.W.fnOf "_law_choice" "_law_choice" (defArgs s__law_choice) (defBody s__law_choice) (defScope s__law_choice) .none kV35 dc35 pm35 an35 cd35 ct35), sl35⟩)
    (c35 : PySem.W.codeIn K cd35 "_law_choice" = true)
    (k35 : PySem.W.keepIn K (.ref f35) = true)
    (a36 : PySem.W.nsIn K mainGlobals "_law_one_in" = some (some (.ref f36)))
    (l36 : K.lookup f36 = some ⟨oc36, od36, .func (PySem.W.fnOf "_law_one_in" "_law_one_in" (defArgs s__law_one_in) (defBody s__law_one_in) (defScope s__law_one_in) .none kV36 dc36 pm36 an36 cd36 ct36), sl36⟩)
    (c36 : PySem.W.codeIn K cd36 "_law_one_in" = true)
    (k36 : PySem.W.keepIn K (.ref f36) = true)
    (a37 : PySem.W.nsIn K mainGlobals "_law_integer" = some (some (.ref f37)))
    (l37 : K.lookup f37 = some ⟨oc37, od37, .func (PySem.W.fnOf "_law_integer" "_law_integer" (defArgs s__law_integer) (defBody s__law_integer) (defScope s__law_integer) .none kV37 dc37 pm37 an37 cd37 ct37), sl37⟩)
    (c37 : PySem.W.codeIn K cd37 "_law_integer" = true)
    (k37 : PySem.W.keepIn K (.ref f37) = true)
    (a38 : PySem.W.nsIn K mainGlobals "_law_letters_of" = some (some (.ref f38)))
    (l38 : K.lookup f38 = some ⟨oc38, od38, .func (PySem.W.fnOf "_law_letters_of" "_law_letters_of" (defArgs s__law_letters_of) (defBody s__law_letters_of) (defScope s__law_letters_of) .none kV38 dc38 pm38 an38 cd38 ct38), sl38⟩)
    (c38 : PySem.W.codeIn K cd38 "_law_letters_of" = true)
    (k38 : PySem.W.keepIn K (.ref f38) = true)
    (a39 : PySem.W.nsIn K mainGlobals "_law_words" = some (some (.ref f39)))
    (l39 : K.lookup f39 = some ⟨oc39, od39, .func (PySem.W.fnOf "_law_words" "_law_words" (defArgs s__law_words) (defBody s__law_words) (defScope s__law_words) .none kV39 dc39 pm39 an39 cd39 ct39), sl39⟩)
    (c39 : PySem.W.codeIn K cd39 "_law_words" = true)
    (k39 : PySem.W.keepIn K (.ref f39) = true)
    (a40 : PySem.W.nsIn K mainGlobals "_law_names_of" = some (some (.ref f40)))
    (l40 : K.lookup f40 = some ⟨oc40, od40, .func (PySem.W.fnOf "_law_names_of" "_law_names_of" (defArgs s__law_names_of) (defBody s__law_names_of) (defScope s__law_names_of) .none kV40 dc40 pm40 an40 cd40 ct40), sl40⟩)
    (c40 : PySem.W.codeIn K cd40 "_law_names_of" = true)
    (k40 : PySem.W.keepIn K (.ref f40) = true)
    (a41 : PySem.W.nsIn K mainGlobals "_law_ground" = some (some (.ref f41)))
    (l41 : K.lookup f41 = some ⟨oc41, od41, .func (PySem.W.fnOf "_law_ground" "_law_ground" (defArgs s__law_ground) (defBody s__law_ground) (defScope s__law_ground) .none kV41 dc41 pm41 an41 cd41 ct41), sl41⟩)
    (c41 : PySem.W.codeIn K cd41 "_law_ground" = true)
    (k41 : PySem.W.keepIn K (.ref f41) = true)
    (a42 : PySem.W.nsIn K mainGlobals "_law_few_spots" = some (some (.ref f42)))
    (l42 : K.lookup f42 = some ⟨oc42, od42, .func (PySem.W.fnOf "_law_few_spots" "_law_few_spots" (defArgs s__law_few_spots) (defBody s__law_few_spots) (defScope s__law_few_spots) .none kV42 dc42 pm42 an42 cd42 ct42), sl42⟩)
    (c42 : PySem.W.codeIn K cd42 "_law_few_spots" = true)
    (k42 : PySem.W.keepIn K (.ref f42) = true)
    (a43 : PySem.W.nsIn K mainGlobals "_law_closing" = some (some (.ref f43)))
    (l43 : K.lookup f43 = some ⟨oc43, od43, .func (PySem.W.fnOf "_law_closing" "_law_closing" (defArgs s__law_closing) (defBody s__law_closing) (defScope s__law_closing) .none kV43 dc43 pm43 an43 cd43 ct43), sl43⟩)
    (c43 : PySem.W.codeIn K cd43 "_law_closing" = true)
    (k43 : PySem.W.keepIn K (.ref f43) = true)
    (a44 : PySem.W.nsIn K mainGlobals "_law_drawn_rows" = some (some (.ref f44)))
    (l44 : K.lookup f44 = some ⟨oc44, od44, .func (PySem.W.fnOf "_law_drawn_rows" "_law_drawn_rows" (defArgs s__law_drawn_rows) (defBody s__law_drawn_rows) (defScope s__law_drawn_rows) .none kV44 dc44 pm44 an44 cd44 ct44), sl44⟩)
    (c44 : PySem.W.codeIn K cd44 "_law_drawn_rows" = true)
    (k44 : PySem.W.keepIn K (.ref f44) = true)
    (a45 : PySem.W.nsIn K mainGlobals "_law_right_card" = some (some (.ref f45)))
    (l45 : K.lookup f45 = some ⟨oc45, od45, .func (PySem.W.fnOf "_law_right_card" "_law_right_card" (defArgs s__law_right_card) (defBody s__law_right_card) (defScope s__law_right_card) .none kV45 dc45 pm45 an45 cd45 ct45), sl45⟩)
    (c45 : PySem.W.codeIn K cd45 "_law_right_card" = true)
    (k45 : PySem.W.keepIn K (.ref f45) = true)
    (a46 : PySem.W.nsIn K mainGlobals "_law_at_of" = some (some (.ref f46)))
    (l46 : K.lookup f46 = some ⟨oc46, od46, .func (PySem.W.fnOf "_law_at_of" "_law_at_of" (defArgs s__law_at_of) (defBody s__law_at_of) (defScope s__law_at_of) .none kV46 dc46 pm46 an46 cd46 ct46), sl46⟩)
    (c46 : PySem.W.codeIn K cd46 "_law_at_of" = true)
    (k46 : PySem.W.keepIn K (.ref f46) = true)
    (a47 : PySem.W.nsIn K mainGlobals "_law_cut" = some (some (.ref f47)))
    (l47 : K.lookup f47 = some ⟨oc47, od47, .func (PySem.W.fnOf "_law_cut" "_law_cut" (defArgs s__law_cut) (defBody s__law_cut) (defScope s__law_cut) .none kV47 dc47 pm47 an47 cd47 ct47), sl47⟩)
    (c47 : PySem.W.codeIn K cd47 "_law_cut" = true)
    (k47 : PySem.W.keepIn K (.ref f47) = true)
    (a48 : PySem.W.nsIn K mainGlobals "_law_made" = some (some (.ref f48)))
    (l48 : K.lookup f48 = some ⟨oc48, od48, .func (PySem.W.fnOf "_law_made" "_law_made" (defArgs s__law_made) (defBody s__law_made) (defScope s__law_made) .none kV48 dc48 pm48 an48 cd48 ct48), sl48⟩)
    (c48 : PySem.W.codeIn K cd48 "_law_made" = true)
    (k48 : PySem.W.keepIn K (.ref f48) = true)
    (a49 : PySem.W.nsIn K mainGlobals "_law_is_spot" = some (some (.ref f49)))
    (l49 : K.lookup f49 = some ⟨oc49, od49, .func (PySem.W.fnOf "_law_is_spot" "_law_is_spot" (defArgs s__law_is_spot) (defBody s__law_is_spot) (defScope s__law_is_spot) .none kV49 dc49 pm49 an49 cd49 ct49), sl49⟩)
    (c49 : PySem.W.codeIn K cd49 "_law_is_spot" = true)
    (k49 : PySem.W.keepIn K (.ref f49) = true)
    (a50 : PySem.W.nsIn K mainGlobals "_law_is_closed" = some (some (.ref f50)))
    (l50 : K.lookup f50 = some ⟨oc50, od50, .func (PySem.W.fnOf "_law_is_closed" "_law_is_closed" (defArgs s__law_is_closed) (defBody s__law_is_closed) (defScope s__law_is_closed) .none kV50 dc50 pm50 an50 cd50 ct50), sl50⟩)
    (c50 : PySem.W.codeIn K cd50 "_law_is_closed" = true)
    (k50 : PySem.W.keepIn K (.ref f50) = true)
    (a51 : PySem.W.nsIn K mainGlobals "_law_due_of" = some (some (.ref f51)))
    (l51 : K.lookup f51 = some ⟨oc51, od51, .func (PySem.W.fnOf "_law_due_of" "_law_due_of" (defArgs s__law_due_of) (defBody s__law_due_of) (defScope s__law_due_of) .none kV51 dc51 pm51 an51 cd51 ct51), sl51⟩)
    (c51 : PySem.W.codeIn K cd51 "_law_due_of" = true)
    (k51 : PySem.W.keepIn K (.ref f51) = true)
    (a52 : PySem.W.nsIn K mainGlobals "_law_edge" = some (some (.ref f52)))
    (l52 : K.lookup f52 = some ⟨oc52, od52, .func (PySem.W.fnOf "_law_edge" "_law_edge" (defArgs s__law_edge) (defBody s__law_edge) (defScope s__law_edge) .none kV52 dc52 pm52 an52 cd52 ct52), sl52⟩)
    (c52 : PySem.W.codeIn K cd52 "_law_edge" = true)
    (k52 : PySem.W.keepIn K (.ref f52) = true)
    (a53 : PySem.W.nsIn K mainGlobals "_law_spoil_spots" = some (some (.ref f53)))
    (l53 : K.lookup f53 = some ⟨oc53, od53, .func (PySem.W.fnOf "_law_spoil_spots" "_law_spoil_spots" (defArgs s__law_spoil_spots) (defBody s__law_spoil_spots) (defScope s__law_spoil_spots) .none kV53 dc53 pm53 an53 cd53 ct53), sl53⟩)
    (c53 : PySem.W.codeIn K cd53 "_law_spoil_spots" = true)
    (k53 : PySem.W.keepIn K (.ref f53) = true)
    (a54 : PySem.W.nsIn K mainGlobals "_law_spoil_rows" = some (some (.ref f54)))
    (l54 : K.lookup f54 = some ⟨oc54, od54, .func (PySem.W.fnOf "_law_spoil_rows" "_law_spoil_rows" (defArgs s__law_spoil_rows) (defBody s__law_spoil_rows) (defScope s__law_spoil_rows) .none kV54 dc54 pm54 an54 cd54 ct54), sl54⟩)
    (c54 : PySem.W.codeIn K cd54 "_law_spoil_rows" = true)
    (k54 : PySem.W.keepIn K (.ref f54) = true)
    (a55 : PySem.W.nsIn K mainGlobals "_law_good_cards" = some (some (.ref f55)))
    (l55 : K.lookup f55 = some ⟨oc55, od55, .func (PySem.W.fnOf "_law_good_cards" "_law_good_cards" (defArgs s__law_good_cards) (defBody s__law_good_cards) (defScope s__law_good_cards) .none kV55 dc55 pm55 an55 cd55 ct55), sl55⟩)
    (c55 : PySem.W.codeIn K cd55 "_law_good_cards" = true)
    (k55 : PySem.W.keepIn K (.ref f55) = true)
    (a56 : PySem.W.nsIn K mainGlobals "_law_turned_about" = some (some (.ref f56)))
    (l56 : K.lookup f56 = some ⟨oc56, od56, .func (PySem.W.fnOf "_law_turned_about" "_law_turned_about" (defArgs s__law_turned_about) (defBody s__law_turned_about) (defScope s__law_turned_about) .none kV56 dc56 pm56 an56 cd56 ct56), sl56⟩)
    (c56 : PySem.W.codeIn K cd56 "_law_turned_about" = true)
    (k56 : PySem.W.keepIn K (.ref f56) = true)
    (a57 : PySem.W.nsIn K mainGlobals "_law_cuts" = some (some (.ref f57)))
    (l57 : K.lookup f57 = some ⟨oc57, od57, .func (PySem.W.fnOf "_law_cuts" "_law_cuts" (defArgs s__law_cuts) (defBody s__law_cuts) (defScope s__law_cuts) .none kV57 dc57 pm57 an57 cd57 ct57), sl57⟩)
    (c57 : PySem.W.codeIn K cd57 "_law_cuts" = true)
    (k57 : PySem.W.keepIn K (.ref f57) = true)
    (a58 : PySem.W.nsIn K mainGlobals "_law_judged" = some (some (.ref f58)))
    (l58 : K.lookup f58 = some ⟨oc58, od58, .func (PySem.W.fnOf "_law_judged" "_law_judged" (defArgs s__law_judged) (defBody s__law_judged) (defScope s__law_judged) .none kV58 dc58 pm58 an58 cd58 ct58), sl58⟩)
    (c58 : PySem.W.codeIn K cd58 "_law_judged" = true)
    (k58 : PySem.W.keepIn K (.ref f58) = true)
    (a59 : PySem.W.nsIn K mainGlobals "law" = some (some (.ref f59)))
    (l59 : K.lookup f59 = some ⟨oc59, od59, .func (PySem.W.fnOf "law" "law" (defArgs s_law) (defBody s_law) (defScope s_law) .none kV59 dc59 pm59 an59 cd59 ct59), sl59⟩)
    (c59 : PySem.W.codeIn K cd59 "law" = true)
    (k59 : PySem.W.keepIn K (.ref f59) = true) :
    ∃ fd : FuncData, (∀ (s : Shared) (v : Value), BindsTo s fd ⟨[v], []⟩ [("_law_script", v)]) ∧ ∀ base : Heap, K.In base → base.Ns mainGlobals mg → FnG P w K mg base 12 fa fd ["_law_script"] (sp_law K) := by
  have e := hfa.symm.trans (PySem.W.mg_of X G a59)
  cases e
  have T : Txt K mg ⟨C_Card, C_BadSpot, C_NoSpot, C_BadCard, C_EllError, aG, aWH⟩ :=
    { n_isinstance := PySem.W.mg_none_of X G z_isinstance,
      n_int := PySem.W.mg_none_of X G z_int,
      n_bool := PySem.W.mg_none_of X G z_bool,
      n_tuple := PySem.W.mg_none_of X G z_tuple,
      n_str := PySem.W.mg_none_of X G z_str,
      n_list := PySem.W.mg_none_of X G z_list,
      n_len := PySem.W.mg_none_of X G z_len,
      n_any := PySem.W.mg_none_of X G z_any,
      n_all := PySem.W.mg_none_of X G z_all,
      n_range := PySem.W.mg_none_of X G z_range,
      n_enumerate := PySem.W.mg_none_of X G z_enumerate,
      n_zip := PySem.W.mg_none_of X G z_zip,
      n_min := PySem.W.mg_none_of X G z_min,
      n_max := PySem.W.mg_none_of X G z_max,
      n_ValueError := PySem.W.mg_none_of X G z_ValueError,
      n_iter := PySem.W.mg_none_of X G z_iter,
      k_GROUND := PySem.W.mg_of X G zz_GROUND,
      t_GROUND := ground_at lGG,
      k_WHY := PySem.W.mg_of X G zz_WHY,
      t_WHY := why_at lWH,
      g_EllError := PySem.W.mg_of X G a_EllError,
      g_BadSpot := PySem.W.mg_of X G a_BadSpot,
      no_BadSpot_place := no_BadSpot_place,
      i_BadSpot := ⟨_, _, a1, t1, (fun_mk (st := s_BadSpotD_initD) l1 c1 k1), ((fun_mk (st := s_BadSpotD_initD) l1 c1 k1).binds (ps := P_BadSpotD_initD) fun _ _ _ _ _ _ us hl => match us, hl with | [_, _], _ => rfl)⟩,
      ox_BadSpot := ⟨⟨nm_BadSpot, q_BadSpot, N_BadSpot, bs_BadSpot, _, sn_BadSpot, sub_BadSpot, ab_BadSpot, col_BadSpot, dd_BadSpot, m0_BadSpot, m1_BadSpot, m2_BadSpot, m3_BadSpot, m5_BadSpot, x_BadSpot, rfl⟩, sa_BadSpot, eC_BadSpot, tC_BadSpot, kC_BadSpot⟩,
      e_BadSpot := ⟨ic_BadSpot, ga_BadSpot, gt_BadSpot, eC_BadSpot, ca_BadSpot, gg0, tk0, mo_BadSpot⟩,
      xf_BadSpot := ⟨ga_BadSpot, gt_BadSpot, eC_BadSpot, hC_BadSpot⟩,
      g_NoSpot := PySem.W.mg_of X G a_NoSpot,
      no_NoSpot_spot := no_NoSpot_spot,
      i_NoSpot := ⟨_, _, a2, t2, (fun_mk (st := s_NoSpotD_initD) l2 c2 k2), ((fun_mk (st := s_NoSpotD_initD) l2 c2 k2).binds (ps := P_NoSpotD_initD) fun _ _ _ _ _ _ us hl => match us, hl with | [_, _], _ => rfl)⟩,
      ox_NoSpot := ⟨⟨nm_NoSpot, q_NoSpot, N_NoSpot, bs_NoSpot, _, sn_NoSpot, sub_NoSpot, ab_NoSpot, col_NoSpot, dd_NoSpot, m0_NoSpot, m1_NoSpot, m2_NoSpot, m3_NoSpot, m5_NoSpot, x_NoSpot, rfl⟩, sa_NoSpot, eC_NoSpot, tC_NoSpot, kC_NoSpot⟩,
      e_NoSpot := ⟨ic_NoSpot, ga_NoSpot, gt_NoSpot, eC_NoSpot, ca_NoSpot, gg0, tk0, mo_NoSpot⟩,
      xf_NoSpot := ⟨ga_NoSpot, gt_NoSpot, eC_NoSpot, hC_NoSpot⟩,
      g_BadCard := PySem.W.mg_of X G a_BadCard,
      no_BadCard_place := no_BadCard_place,
      i_BadCard := ⟨_, _, a3, t3, (fun_mk (st := s_BadCardD_initD) l3 c3 k3), ((fun_mk (st := s_BadCardD_initD) l3 c3 k3).binds (ps := P_BadCardD_initD) fun _ _ _ _ _ _ us hl => match us, hl with | [_, _], _ => rfl)⟩,
      ox_BadCard := ⟨⟨nm_BadCard, q_BadCard, N_BadCard, bs_BadCard, _, sn_BadCard, sub_BadCard, ab_BadCard, col_BadCard, dd_BadCard, m0_BadCard, m1_BadCard, m2_BadCard, m3_BadCard, m5_BadCard, x_BadCard, rfl⟩, sa_BadCard, eC_BadCard, tC_BadCard, kC_BadCard⟩,
      e_BadCard := ⟨ic_BadCard, ga_BadCard, gt_BadCard, eC_BadCard, ca_BadCard, gg0, tk0, mo_BadCard⟩,
      xf_BadCard := ⟨ga_BadCard, gt_BadCard, eC_BadCard, hC_BadCard⟩,
      kv_BadCard := kit_ty2 vC_BadCard,
      ke_BadCard := kit_yes ic_EllError tC_EllError lC_BadCard,
      kb_BadCard := kit_no0 ne_BadCard_BadSpot ic_BadSpot tC_BadSpot s_BadCard_BadSpot,
      em_BadCard := exm_of eC_BadCard ic_BadCard tC_BadCard s_BadCard_BadCard,
      em_BadSpot := exm_of eC_BadSpot ic_BadSpot tC_BadSpot s_BadSpot_BadSpot,
      em_NoSpot := exm_of eC_NoSpot ic_NoSpot tC_NoSpot s_NoSpot_NoSpot,
      g_Card := PySem.W.mg_of X G a_Card,
      ki := ⟨⟨pg, hd, po, sa⟩, ca, gg0, tk0, mo⟩,
      nS := nS,
      nP := nP,
      nR := nR,
      sf := sf,
      nf := all6 (nf_of sb_NoneType) (nf_of sb_bool) (nf_of sb_int) (nf_of sb_str) (nf_of sb_list) (nf_of sb_tuple),
      no := all6 (kit_no1 ic tC sb_NoneType) (kit_no1 ic tC sb_bool) (kit_no1 ic tC sb_int) (kit_no1 ic tC sb_str) (kit_no1 ic tC sb_list) (kit_no1 ic tC sb_tuple),
      i_Card := ⟨_, _, ⟨mk, a4, i4, kc⟩, (fun_mk (st := s_CardD_initD) l4 c4 k4), ((fun_mk (st := s_CardD_initD) l4 c4 k4).binds (ps := P_CardD_initD) fun _ _ _ _ _ _ us hl => match us, hl with | [_, _, _], _ => rfl)⟩,
      o_getitem := ⟨_, _, ⟨a5, i5⟩, fn_at l5, (fun_mk (st := s_CardD_getitemD) l5 c5 k5), ((fun_mk (st := s_CardD_getitemD) l5 c5 k5).binds (ps := P_CardD_getitemD) fun _ _ _ _ _ _ us hl => match us, hl with | [_, _], _ => rfl)⟩,
      o_len := ⟨_, _, ⟨a6, i6⟩, fn_at l6, (fun_mk (st := s_CardD_lenD) l6 c6 k6), ((fun_mk (st := s_CardD_lenD) l6 c6 k6).binds (ps := P_CardD_lenD) fun _ _ _ _ _ _ us hl => match us, hl with | [_], _ => rfl)⟩,
      o_contains := ⟨_, _, ⟨a7, i7⟩, fn_at l7, (fun_mk (st := s_CardD_containsD) l7 c7 k7), ((fun_mk (st := s_CardD_containsD) l7 c7 k7).binds (ps := P_CardD_containsD) fun _ _ _ _ _ _ us hl => match us, hl with | [_, _], _ => rfl)⟩,
      o_eq := ⟨_, _, ⟨a8, i8⟩, fn_at l8, (fun_mk (st := s_CardD_eqD) l8 c8 k8), ((fun_mk (st := s_CardD_eqD) l8 c8 k8).binds (ps := P_CardD_eqD) fun _ _ _ _ _ _ us hl => match us, hl with | [_, _], _ => rfl)⟩,
      o_iter := ⟨_, _, ⟨a9, i9⟩, fn_at l9, (fun_mk (st := s_CardD_iterD) l9 c9 k9), ((fun_mk (st := s_CardD_iterD) l9 c9 k9).binds (ps := P_CardD_iterD) fun _ _ _ _ _ _ us hl => match us, hl with | [_], _ => rfl)⟩,
      m_cut := ⟨_, _, ⟨a10, i10, k10⟩, (fun_mk (st := s_Card_cut) l10 c10 k10), ((fun_mk (st := s_Card_cut) l10 c10 k10).binds (ps := P_Card_cut) fun _ _ _ _ _ _ us hl => match us, hl with | [_, _], _ => rfl)⟩,
      m__place := ⟨_, _, ⟨a11, i11, k11⟩, (fun_mk (st := s_Card__place) l11 c11 k11), ((fun_mk (st := s_Card__place) l11 c11 k11).binds (ps := P_Card__place) fun _ _ _ _ _ _ us hl => match us, hl with | [_, _], _ => rfl)⟩,
      d__wall := ⟨_, _, (fun_mk (st := s__wall) l12 c12 k12), PySem.W.mg_of X G a12, ((fun_mk (st := s__wall) l12 c12 k12).binds (ps := P__wall) fun _ _ _ _ _ _ us hl => match us, hl with | [_], _ => rfl)⟩,
      d_is_integer := ⟨_, _, (fun_mk (st := s_is_integer) l13 c13 k13), PySem.W.mg_of X G a13, ((fun_mk (st := s_is_integer) l13 c13 k13).binds (ps := P_is_integer) fun _ _ _ _ _ _ us hl => match us, hl with | [_], _ => rfl)⟩,
      d_is_row := ⟨_, _, (fun_mk (st := s_is_row) l14 c14 k14), PySem.W.mg_of X G a14, ((fun_mk (st := s_is_row) l14 c14 k14).binds (ps := P_is_row) fun _ _ _ _ _ _ us hl => match us, hl with | [_], _ => rfl)⟩,
      d_is_tuple_of := ⟨_, _, (fun_mk (st := s_is_tuple_of) l15 c15 k15), PySem.W.mg_of X G a15, ((fun_mk (st := s_is_tuple_of) l15 c15 k15).binds (ps := P_is_tuple_of) fun _ _ _ _ _ _ us hl => match us, hl with | [_, _], _ => rfl)⟩,
      d_ways_from := ⟨_, _, (fun_mk (st := s_ways_from) l16 c16 k16), PySem.W.mg_of X G a16, ((fun_mk (st := s_ways_from) l16 c16 k16).binds (ps := P_ways_from) fun _ _ _ _ _ _ us hl => match us, hl with | [_, _], _ => rfl)⟩,
      d__ring_of := ⟨_, _, (fun_mk (st := s__ring_of) l17 c17 k17), PySem.W.mg_of X G a17, ((fun_mk (st := s__ring_of) l17 c17 k17).binds (ps := P__ring_of) fun _ _ _ _ _ _ us hl => match us, hl with | [_, _], _ => rfl)⟩,
      d__followed_back := ⟨_, _, (fun_mk (st := s__followed_back) l18 c18 k18), PySem.W.mg_of X G a18, ((fun_mk (st := s__followed_back) l18 c18 k18).binds (ps := P__followed_back) fun _ _ _ _ _ _ us hl => match us, hl with | [_, _, _, _], _ => rfl)⟩,
      d_is_spot := ⟨_, _, (fun_mk (st := s_is_spot) l19 c19 k19), PySem.W.mg_of X G a19, ((fun_mk (st := s_is_spot) l19 c19 k19).binds (ps := P_is_spot) fun _ _ _ _ _ _ us hl => match us, hl with | [_], _ => rfl)⟩,
      d_arrows_of := ⟨_, _, (fun_mk (st := s_arrows_of) l20 c20 k20), PySem.W.mg_of X G a20, ((fun_mk (st := s_arrows_of) l20 c20 k20).binds (ps := P_arrows_of) fun _ _ _ _ _ _ us hl => match us, hl with | [_, _], _ => rfl)⟩,
      d_places_of := ⟨_, _, (fun_mk (st := s_places_of) l21 c21 k21), PySem.W.mg_of X G a21, ((fun_mk (st := s_places_of) l21 c21 k21).binds (ps := P_places_of) fun _ _ _ _ _ _ us hl => match us, hl with | [_], _ => rfl)⟩,
      d_is_closed := ⟨_, _, (fun_mk (st := s_is_closed) l22 c22 k22), PySem.W.mg_of X G a22, ((fun_mk (st := s_is_closed) l22 c22 k22).binds (ps := P_is_closed) fun _ _ _ _ _ _ us hl => match us, hl with | [_], _ => rfl)⟩,
      d_joined_tables := ⟨_, _, (fun_mk (st := s_joined_tables) l23 c23 k23), PySem.W.mg_of X G a23, ((fun_mk (st := s_joined_tables) l23 c23 k23).binds (ps := P_joined_tables) fun _ _ _ _ _ _ us hl => match us, hl with | [_, _, _], _ => rfl)⟩,
      d__by_way := ⟨_, _, (fun_mk (st := s__by_way) l24 c24 k24), PySem.W.mg_of X G a24, ((fun_mk (st := s__by_way) l24 c24 k24).binds (ps := P__by_way) fun _ _ _ _ _ _ us hl => match us, hl with | [_, _, _], _ => rfl)⟩,
      d__side_by_side := ⟨_, _, (fun_mk (st := s__side_by_side) l25 c25 k25), PySem.W.mg_of X G a25, ((fun_mk (st := s__side_by_side) l25 c25 k25).binds (ps := P__side_by_side) fun _ _ _ _ _ _ us hl => match us, hl with | [_, _, _], _ => rfl)⟩,
      d__with_least := ⟨_, _, (fun_mk (st := s__with_least) l26 c26 k26), PySem.W.mg_of X G a26, ((fun_mk (st := s__with_least) l26 c26 k26).binds (ps := P__with_least) fun _ _ _ _ _ _ us hl => match us, hl with | [_, _, _], _ => rfl)⟩,
      d__joints := ⟨_, _, (fun_mk (st := s__joints) l27 c27 k27), PySem.W.mg_of X G a27, ((fun_mk (st := s__joints) l27 c27 k27).binds (ps := P__joints) fun _ _ _ _ _ _ us hl => match us, hl with | [_, _, _], _ => rfl)⟩,
      d_card_links := ⟨_, _, (fun_mk (st := s_card_links) l28 c28 k28), PySem.W.mg_of X G a28, ((fun_mk (st := s_card_links) l28 c28 k28).binds (ps := P_card_links) fun _ _ _ _ _ _ us hl => match us, hl with | [_, _], _ => rfl)⟩,
      d__named_once := ⟨_, _, (fun_mk (st := s__named_once) l29 c29 k29), PySem.W.mg_of X G a29, ((fun_mk (st := s__named_once) l29 c29 k29).binds (ps := P__named_once) fun _ _ _ _ _ _ us hl => match us, hl with | [_, _], _ => rfl)⟩,
      d__trusted := ⟨_, _, (fun_mk (st := s__trusted) l30 c30 k30), PySem.W.mg_of X G a30, ((fun_mk (st := s__trusted) l30 c30 k30).binds (ps := P__trusted) fun _ _ _ _ _ _ us hl => match us, hl with | [_, _], _ => rfl)⟩,
      d__judge_rows := ⟨_, _, (fun_mk (st := s__judge_rows) l31 c31 k31), PySem.W.mg_of X G a31, ((fun_mk (st := s__judge_rows) l31 c31 k31).binds (ps := P__judge_rows) fun _ _ _ _ _ _ us hl => match us, hl with | [_, _], _ => rfl)⟩,
      d__clash_ring := ⟨_, _, (fun_mk (st := s__clash_ring) l32 c32 k32), PySem.W.mg_of X G a32, ((fun_mk (st := s__clash_ring) l32 c32 k32).binds (ps := P__clash_ring) fun _ _ _ _ _ _ us hl => match us, hl with | [_, _], _ => rfl)⟩,
      d__law_bag_of := ⟨_, _, (fun_mk (st := s__law_bag_of) l33 c33 k33), PySem.W.mg_of X G a33, ((fun_mk (st := s__law_bag_of) l33 c33 k33).binds (ps := P__law_bag_of) fun _ _ _ _ _ _ us hl => match us, hl with | [_], _ => rfl)⟩,
      d__law_pick := ⟨_, _, (fun_mk (st := s__law_pick) l34 c34 k34), PySem.W.mg_of X G a34, ((fun_mk (st := s__law_pick) l34 c34 k34).binds (ps := P__law_pick) fun _ _ _ _ _ _ us hl => match us, hl with | [_, _], _ => rfl)⟩,
      d__law_choice := ⟨_, _, (fun_mk (st := s__law_choice) l35 c35 k35), PySem.W.mg_of X G a35, ((fun_mk (st := s__law_choice) l35 c35 k35).binds (ps := P__law_choice) fun _ _ _ _ _ _ us hl => match us, hl with | [_, _], _ => rfl)⟩,
      d__law_one_in := ⟨_, _, (fun_mk (st := s__law_one_in) l36 c36 k36), PySem.W.mg_of X G a36, ((fun_mk (st := s__law_one_in) l36 c36 k36).binds (ps := P__law_one_in) fun _ _ _ _ _ _ us hl => match us, hl with | [_, _], _ => rfl)⟩,
      d__law_integer := ⟨_, _, (fun_mk (st := s__law_integer) l37 c37 k37), PySem.W.mg_of X G a37, ((fun_mk (st := s__law_integer) l37 c37 k37).binds (ps := P__law_integer) fun _ _ _ _ _ _ us hl => match us, hl with | [_], _ => rfl)⟩,
      d__law_letters_of := ⟨_, _, (fun_mk (st := s__law_letters_of) l38 c38 k38), PySem.W.mg_of X G a38, ((fun_mk (st := s__law_letters_of) l38 c38 k38).binds (ps := P__law_letters_of) fun _ _ _ _ _ _ us hl => match us, hl with | [_, _], _ => rfl)⟩,
      d__law_words := ⟨_, _, (fun_mk (st := s__law_words) l39 c39 k39), PySem.W.mg_of X G a39, ((fun_mk (st := s__law_words) l39 c39 k39).binds (ps := P__law_words) fun _ _ _ _ _ _ us hl => match us, hl with | [], _ => rfl)⟩,
      d__law_names_of := ⟨_, _, (fun_mk (st := s__law_names_of) l40 c40 k40), PySem.W.mg_of X G a40, ((fun_mk (st := s__law_names_of) l40 c40 k40).binds (ps := P__law_names_of) fun _ _ _ _ _ _ us hl => match us, hl with | [_, _], _ => rfl)⟩,
      d__law_ground := ⟨_, _, (fun_mk (st := s__law_ground) l41 c41 k41), PySem.W.mg_of X G a41, ((fun_mk (st := s__law_ground) l41 c41 k41).binds (ps := P__law_ground) fun _ _ _ _ _ _ us hl => match us, hl with | [], _ => rfl)⟩,
      d__law_few_spots := ⟨_, _, (fun_mk (st := s__law_few_spots) l42 c42 k42), PySem.W.mg_of X G a42, ((fun_mk (st := s__law_few_spots) l42 c42 k42).binds (ps := P__law_few_spots) fun _ _ _ _ _ _ us hl => match us, hl with | [_, _], _ => rfl)⟩,
      d__law_closing := ⟨_, _, (fun_mk (st := s__law_closing) l43 c43 k43), PySem.W.mg_of X G a43, ((fun_mk (st := s__law_closing) l43 c43 k43).binds (ps := P__law_closing) fun _ _ _ _ _ _ us hl => match us, hl with | [_], _ => rfl)⟩,
      d__law_drawn_rows := ⟨_, _, (fun_mk (st := s__law_drawn_rows) l44 c44 k44), PySem.W.mg_of X G a44, ((fun_mk (st := s__law_drawn_rows) l44 c44 k44).binds (ps := P__law_drawn_rows) fun _ _ _ _ _ _ us hl => match us, hl with | [_, _], _ => rfl)⟩,
      d__law_right_card := ⟨_, _, (fun_mk (st := s__law_right_card) l45 c45 k45), PySem.W.mg_of X G a45, ((fun_mk (st := s__law_right_card) l45 c45 k45).binds (ps := P__law_right_card) fun _ _ _ _ _ _ us hl => match us, hl with | [_, _, _], _ => rfl)⟩,
      d__law_at_of := ⟨_, _, (fun_mk (st := s__law_at_of) l46 c46 k46), PySem.W.mg_of X G a46, ((fun_mk (st := s__law_at_of) l46 c46 k46).binds (ps := P__law_at_of) fun _ _ _ _ _ _ us hl => match us, hl with | [_, _, _], _ => rfl)⟩,
      d__law_cut := ⟨_, _, (fun_mk (st := s__law_cut) l47 c47 k47), PySem.W.mg_of X G a47, ((fun_mk (st := s__law_cut) l47 c47 k47).binds (ps := P__law_cut) fun _ _ _ _ _ _ us hl => match us, hl with | [_, _], _ => rfl)⟩,
      d__law_made := ⟨_, _, (fun_mk (st := s__law_made) l48 c48 k48), PySem.W.mg_of X G a48, ((fun_mk (st := s__law_made) l48 c48 k48).binds (ps := P__law_made) fun _ _ _ _ _ _ us hl => match us, hl with | [_, _], _ => rfl)⟩,
      d__law_is_spot := ⟨_, _, (fun_mk (st := s__law_is_spot) l49 c49 k49), PySem.W.mg_of X G a49, ((fun_mk (st := s__law_is_spot) l49 c49 k49).binds (ps := P__law_is_spot) fun _ _ _ _ _ _ us hl => match us, hl with | [_], _ => rfl)⟩,
      d__law_is_closed := ⟨_, _, (fun_mk (st := s__law_is_closed) l50 c50 k50), PySem.W.mg_of X G a50, ((fun_mk (st := s__law_is_closed) l50 c50 k50).binds (ps := P__law_is_closed) fun _ _ _ _ _ _ us hl => match us, hl with | [_], _ => rfl)⟩,
      d__law_due_of := ⟨_, _, (fun_mk (st := s__law_due_of) l51 c51 k51), PySem.W.mg_of X G a51, ((fun_mk (st := s__law_due_of) l51 c51 k51).binds (ps := P__law_due_of) fun _ _ _ _ _ _ us hl => match us, hl with | [_, _], _ => rfl)⟩,
      d__law_edge := ⟨_, _, (fun_mk (st := s__law_edge) l52 c52 k52), PySem.W.mg_of X G a52, ((fun_mk (st := s__law_edge) l52 c52 k52).binds (ps := P__law_edge) fun _ _ _ _ _ _ us hl => match us, hl with | [_, _], _ => rfl)⟩,
      d__law_spoil_spots := ⟨_, _, (fun_mk (st := s__law_spoil_spots) l53 c53 k53), PySem.W.mg_of X G a53, ((fun_mk (st := s__law_spoil_spots) l53 c53 k53).binds (ps := P__law_spoil_spots) fun _ _ _ _ _ _ us hl => match us, hl with | [_, _], _ => rfl)⟩,
      d__law_spoil_rows := ⟨_, _, (fun_mk (st := s__law_spoil_rows) l54 c54 k54), PySem.W.mg_of X G a54, ((fun_mk (st := s__law_spoil_rows) l54 c54 k54).binds (ps := P__law_spoil_rows) fun _ _ _ _ _ _ us hl => match us, hl with | [_, _], _ => rfl)⟩,
      d__law_good_cards := ⟨_, _, (fun_mk (st := s__law_good_cards) l55 c55 k55), PySem.W.mg_of X G a55, ((fun_mk (st := s__law_good_cards) l55 c55 k55).binds (ps := P__law_good_cards) fun _ _ _ _ _ _ us hl => match us, hl with | [_, _, _, _], _ => rfl)⟩,
      d__law_turned_about := ⟨_, _, (fun_mk (st := s__law_turned_about) l56 c56 k56), PySem.W.mg_of X G a56, ((fun_mk (st := s__law_turned_about) l56 c56 k56).binds (ps := P__law_turned_about) fun _ _ _ _ _ _ us hl => match us, hl with | [_, _, _], _ => rfl)⟩,
      d__law_cuts := ⟨_, _, (fun_mk (st := s__law_cuts) l57 c57 k57), PySem.W.mg_of X G a57, ((fun_mk (st := s__law_cuts) l57 c57 k57).binds (ps := P__law_cuts) fun _ _ _ _ _ _ us hl => match us, hl with | [_, _, _, _], _ => rfl)⟩,
      d__law_judged := ⟨_, _, (fun_mk (st := s__law_judged) l58 c58 k58), PySem.W.mg_of X G a58, ((fun_mk (st := s__law_judged) l58 c58 k58).binds (ps := P__law_judged) fun _ _ _ _ _ _ us hl => match us, hl with | [_, _, _], _ => rfl)⟩,
      d_law := ⟨_, _, (fun_mk (st := s_law) l59 c59 k59), PySem.W.mg_of X G a59, ((fun_mk (st := s_law) l59 c59 k59).binds (ps := P_law) fun _ _ _ _ _ _ us hl => match us, hl with | [_], _ => rfl)⟩ }
  have FL := (fun_mk (st := s_law) l59 c59 k59)
  exact ⟨PySem.W.fnOf "law" "law" (defArgs s_law) (defBody s_law) (defScope s_law) .none kV59 dc59 pm59 an59 cd59 ct59, fun s v => .of_eq rfl, fun base _ _ => fun_gd FL sc_law (fun vs H Q E h => by obtain ⟨_, p, ns, rfl, _⟩ := h; rfl) (b_law T)⟩
theorem walk {l : PySem.W.OpenLaw} {q : Program} {loose : List Str} {XP : (Str → Option Value) → Heap → Prop} {YP : World → Heap → Prop} {d : DefRec} {K : Params → PySem.W.Frag} (hn : l.most = some 63) (hdf : d.params.defaults = [])
    (hY : ∀ (w : World) (h : Heap), YP w h → (K w.params).In h)
    (F : ∀ (w : World) (mg : Str → Option Value) (fa : Addr) (h : Heap), (K w.params).In h → h.Ns mainGlobals mg → mg d.name = some (.ref fa) →
      ∃ fd : FuncData, (∀ (s : Shared) (u : Value), BindsTo s fd ⟨[u], []⟩ [("_law_script", u)]) ∧ ∀ base : Heap, (K w.params).In base → base.Ns mainGlobals mg → FnG l.prog w (K w.params) mg base 12 fa fd ["_law_script"] (sp_law (K w.params))) :
    PySem.W.WalkO q loose XP YP l.row.toRowW d [] (fun f vs => PySem.call f vs) :=
  walk_G (n := 63) (k := 12) (x := "_law_script") (sp := fun w => sp_law (K w.params)) hn (by decide) hdf ⟨rfl, by decide, by decide⟩ hY F (fun _ _ a ns hl _ hS => ⟨_, a, ns, rfl, hS, by omega, Same.refl _, fun _ => rfl⟩)
end K49

open PySem PySem.W PyProof.Rows
set_option maxRecDepth 100000 in
set_option maxHeartbeats 0 in
theorem PySem.Challenge.cw_ellwarden_k49_cards_judged_holds : PySem.Challenge.rw_ellwarden_k49_cards_judged.Holds := by
  w_on; o_law; k_head; (case hw => w_witness2)
  k_fill
  refine K49.walk (l := PySem.Challenge.rw_ellwarden_k49_cards_judged) rfl rfl (fun w h Y => PySem.W.kIn_of Y) ?F
  case F =>
    intro w mg fa h KX G hmg
    refine' K49.all_mk KX G hmg ?z_isinstance ?z_int ?z_bool ?z_tuple ?z_str ?z_list ?z_len ?z_any ?z_all ?z_range ?z_enumerate ?z_zip ?z_min ?z_max ?z_ValueError ?z_iter ?zz_GROUND ?lGG ?zz_WHY ?lWH ?gg0 ?tk0 ?a_EllError ?ic_EllError ?tC_EllError ?a_BadSpot ?x_BadSpot ?sa_BadSpot ?ga_BadSpot ?gt_BadSpot ?ca_BadSpot ?kC_BadSpot ?eC_BadSpot ?tC_BadSpot ?hC_BadSpot ?ic_BadSpot ?mo_BadSpot ?no_BadSpot_place ?a1 ?t1 ?l1 ?c1 ?k1 ?a_NoSpot ?x_NoSpot ?sa_NoSpot ?ga_NoSpot ?gt_NoSpot ?ca_NoSpot ?kC_NoSpot ?eC_NoSpot ?tC_NoSpot ?hC_NoSpot ?ic_NoSpot ?mo_NoSpot ?no_NoSpot_spot ?a2 ?t2 ?l2 ?c2 ?k2 ?a_BadCard ?x_BadCard ?sa_BadCard ?ga_BadCard ?gt_BadCard ?ca_BadCard ?kC_BadCard ?eC_BadCard ?tC_BadCard ?hC_BadCard ?ic_BadCard ?mo_BadCard ?no_BadCard_place ?a3 ?t3 ?l3 ?c3 ?k3 ?vC_BadCard ?lC_BadCard ?s_BadCard_BadSpot ?ne_BadCard_BadSpot ?s_BadCard_BadCard ?s_BadSpot_BadSpot ?s_NoSpot_NoSpot ?a_Card ?pg ?hd ?po ?sa ?ca ?mo ?nS ?nP ?nR ?ic ?tC ?mk ?kc ?sf ?sb_NoneType ?sb_bool ?sb_int ?sb_str ?sb_list ?sb_tuple ?a4 ?i4 ?l4 ?c4 ?k4 ?a5 ?i5 ?l5 ?c5 ?k5 ?a6 ?i6 ?l6 ?c6 ?k6 ?a7 ?i7 ?l7 ?c7 ?k7 ?a8 ?i8 ?l8 ?c8 ?k8 ?a9 ?i9 ?l9 ?c9 ?k9 ?a10 ?i10 ?l10 ?c10 ?k10 ?a11 ?i11 ?l11 ?c11 ?k11 ?a12 ?l12 ?c12 ?k12 ?a13 ?l13 ?c13 ?k13 ?a14 ?l14 ?c14 ?k14 ?a15 ?l15 ?c15 ?k15 ?a16 ?l16 ?c16 ?k16 ?a17 ?l17 ?c17 ?k17 ?a18 ?l18 ?c18 ?k18 ?a19 ?l19 ?c19 ?k19 ?a20 ?l20 ?c20 ?k20 ?a21 ?l21 ?c21 ?k21 ?a22 ?l22 ?c22 ?k22 ?a23 ?l23 ?c23 ?k23 ?a24 ?l24 ?c24 ?k24 ?a25 ?l25 ?c25 ?k25 ?a26 ?l26 ?c26 ?k26 ?a27 ?l27 ?c27 ?k27 ?a28 ?l28 ?c28 ?k28 ?a29 ?l29 ?c29 ?k29 ?a30 ?l30 ?c30 ?k30 ?a31 ?l31 ?c31 ?k31 ?a32 ?l32 ?c32 ?k32 ?a33 ?l33 ?c33 ?k33 ?a34 ?l34 ?c34 ?k34 ?a35 ?l35 ?c35 ?k35 ?a36 ?l36 ?c36 ?k36 ?a37 ?l37 ?c37 ?k37 ?a38 ?l38 ?c38 ?k38 ?a39 ?l39 ?c39 ?k39 ?a40 ?l40 ?c40 ?k40 ?a41 ?l41 ?c41 ?k41 ?a42 ?l42 ?c42 ?k42 ?a43 ?l43 ?c43 ?k43 ?a44 ?l44 ?c44 ?k44 ?a45 ?l45 ?c45 ?k45 ?a46 ?l46 ?c46 ?k46 ?a47 ?l47 ?c47 ?k47 ?a48 ?l48 ?c48 ?k48 ?a49 ?l49 ?c49 ?k49 ?a50 ?l50 ?c50 ?k50 ?a51 ?l51 ?c51 ?k51 ?a52 ?l52 ?c52 ?k52 ?a53 ?l53 ?c53 ?k53 ?a54 ?l54 ?c54 ?k54 ?a55 ?l55 ?c55 ?k55 ?a56 ?l56 ?c56 ?k56 ?a57 ?l57 ?c57 ?k57 ?a58 ?l58 ?c58 ?k58 ?a59 ?l59 ?c59 ?k59
    (case z_isinstance => k_is)
    (case z_int => k_is)
    (case z_bool => k_is)
    (case z_tuple => k_is)
    (case z_str => k_is)
    (case z_list => k_is)
    (case z_len => k_is)
    (case z_any => k_is)
    (case z_all => k_is)
    (case z_range => k_is)
    (case z_enumerate => k_is)
    (case z_zip => k_is)
    (case z_min => k_is)
    (case z_max => k_is)
    (case z_ValueError => k_is)
    (case z_iter => k_is)
    (case zz_GROUND => k_is)
    (case lGG => k_is)
    (case zz_WHY => k_is)
    (case lWH => k_is)
    (case gg0 => k_is)
    (case tk0 => k_is)
    (case a_EllError => k_is)
    (case ic_EllError => k_is)
    (case tC_EllError => k_is)
    (case a_BadSpot => k_is)
    (case x_BadSpot => k_is)
    (case sa_BadSpot => k_is)
    (case ga_BadSpot => k_is)
    (case gt_BadSpot => k_is)
    (case ca_BadSpot => k_is)
    (case kC_BadSpot => k_is)
    (case eC_BadSpot => k_is)
    (case tC_BadSpot => k_is)
    (case hC_BadSpot => k_is)
    (case ic_BadSpot => k_is)
    (case mo_BadSpot => k_is)
    (case no_BadSpot_place => k_is)
    (case a1 => k_is)
    (case t1 => k_is)
    (case l1 => k_is)
    (case c1 => k_is)
    (case k1 => k_is)
    (case a_NoSpot => k_is)
    (case x_NoSpot => k_is)
    (case sa_NoSpot => k_is)
    (case ga_NoSpot => k_is)
    (case gt_NoSpot => k_is)
    (case ca_NoSpot => k_is)
    (case kC_NoSpot => k_is)
    (case eC_NoSpot => k_is)
    (case tC_NoSpot => k_is)
    (case hC_NoSpot => k_is)
    (case ic_NoSpot => k_is)
    (case mo_NoSpot => k_is)
    (case no_NoSpot_spot => k_is)
    (case a2 => k_is)
    (case t2 => k_is)
    (case l2 => k_is)
    (case c2 => k_is)
    (case k2 => k_is)
    (case a_BadCard => k_is)
    (case x_BadCard => k_is)
    (case sa_BadCard => k_is)
    (case ga_BadCard => k_is)
    (case gt_BadCard => k_is)
    (case ca_BadCard => k_is)
    (case kC_BadCard => k_is)
    (case eC_BadCard => k_is)
    (case tC_BadCard => k_is)
    (case hC_BadCard => k_is)
    (case ic_BadCard => k_is)
    (case mo_BadCard => k_is)
    (case no_BadCard_place => k_is)
    (case a3 => k_is)
    (case t3 => k_is)
    (case l3 => k_is)
    (case c3 => k_is)
    (case k3 => k_is)
    (case vC_BadCard => k_is)
    (case lC_BadCard => k_is)
    (case s_BadCard_BadSpot => k_is)
    (case ne_BadCard_BadSpot => decide)
    (case s_BadCard_BadCard => first | rfl | k_is)
    (case s_BadSpot_BadSpot => first | rfl | k_is)
    (case s_NoSpot_NoSpot => first | rfl | k_is)
    (case a_Card => k_is)
    (case pg => k_is)
    (case hd => k_is)
    (case po => k_is)
    (case sa => k_is)
    (case ca => k_is)
    (case mo => k_is)
    (case nS => k_is)
    (case nP => k_is)
    (case nR => k_is)
    (case ic => k_is)
    (case tC => k_is)
    (case mk => k_is)
    (case kc => k_is)
    (case sf => k_is)
    (case sb_NoneType => k_is)
    (case sb_bool => k_is)
    (case sb_int => k_is)
    (case sb_str => k_is)
    (case sb_list => k_is)
    (case sb_tuple => k_is)
    (case a4 => k_is)
    (case i4 => k_is)
    (case l4 => k_is)
    (case c4 => k_is)
    (case k4 => k_is)
    (case a5 => k_is)
    (case i5 => k_is)
    (case l5 => k_is)
    (case c5 => k_is)
    (case k5 => k_is)
    (case a6 => k_is)
    (case i6 => k_is)
    (case l6 => k_is)
    (case c6 => k_is)
    (case k6 => k_is)
    (case a7 => k_is)
    (case i7 => k_is)
    (case l7 => k_is)
    (case c7 => k_is)
    (case k7 => k_is)
    (case a8 => k_is)
    (case i8 => k_is)
    (case l8 => k_is)
    (case c8 => k_is)
    (case k8 => k_is)
    (case a9 => k_is)
    (case i9 => k_is)
    (case l9 => k_is)
    (case c9 => k_is)
    (case k9 => k_is)
    (case a10 => k_is)
    (case i10 => k_is)
    (case l10 => k_is)
    (case c10 => k_is)
    (case k10 => k_is)
    (case a11 => k_is)
    (case i11 => k_is)
    (case l11 => k_is)
    (case c11 => k_is)
    (case k11 => k_is)
    (case a12 => k_is)
    (case l12 => k_is)
    (case c12 => k_is)
    (case k12 => k_is)
    (case a13 => k_is)
    (case l13 => k_is)
    (case c13 => k_is)
    (case k13 => k_is)
    (case a14 => k_is)
    (case l14 => k_is)
    (case c14 => k_is)
    (case k14 => k_is)
    (case a15 => k_is)
    (case l15 => k_is)
    (case c15 => k_is)
    (case k15 => k_is)
    (case a16 => k_is)
    (case l16 => k_is)
    (case c16 => k_is)
    (case k16 => k_is)
    (case a17 => k_is)
    (case l17 => k_is)
    (case c17 => k_is)
    (case k17 => k_is)
    (case a18 => k_is)
    (case l18 => k_is)
    (case c18 => k_is)
    (case k18 => k_is)
    (case a19 => k_is)
    (case l19 => k_is)
    (case c19 => k_is)
    (case k19 => k_is)
    (case a20 => k_is)
    (case l20 => k_is)
    (case c20 => k_is)
    (case k20 => k_is)
    (case a21 => k_is)
    (case l21 => k_is)
    (case c21 => k_is)
    (case k21 => k_is)
    (case a22 => k_is)
    (case l22 => k_is)
    (case c22 => k_is)
    (case k22 => k_is)
    (case a23 => k_is)
    (case l23 => k_is)
    (case c23 => k_is)
    (case k23 => k_is)
    (case a24 => k_is)
    (case l24 => k_is)
    (case c24 => k_is)
    (case k24 => k_is)
    (case a25 => k_is)
    (case l25 => k_is)
    (case c25 => k_is)
    (case k25 => k_is)
    (case a26 => k_is)
    (case l26 => k_is)
    (case c26 => k_is)
    (case k26 => k_is)
    (case a27 => k_is)
    (case l27 => k_is)
    (case c27 => k_is)
    (case k27 => k_is)
    (case a28 => k_is)
    (case l28 => k_is)
    (case c28 => k_is)
    (case k28 => k_is)
    (case a29 => k_is)
    (case l29 => k_is)
    (case c29 => k_is)
    (case k29 => k_is)
    (case a30 => k_is)
    (case l30 => k_is)
    (case c30 => k_is)
    (case k30 => k_is)
    (case a31 => k_is)
    (case l31 => k_is)
    (case c31 => k_is)
    (case k31 => k_is)
    (case a32 => k_is)
    (case l32 => k_is)
    (case c32 => k_is)
    (case k32 => k_is)
    (case a33 => k_is)
    (case l33 => k_is)
    (case c33 => k_is)
    (case k33 => k_is)
    (case a34 => k_is)
    (case l34 => k_is)
    (case c34 => k_is)
    (case k34 => k_is)
    (case a35 => k_is)
    (case l35 => k_is)
    (case c35 => k_is)
    (case k35 => k_is)
    (case a36 => k_is)
    (case l36 => k_is)
    (case c36 => k_is)
    (case k36 => k_is)
    (case a37 => k_is)
    (case l37 => k_is)
    (case c37 => k_is)
    (case k37 => k_is)
    (case a38 => k_is)
    (case l38 => k_is)
    (case c38 => k_is)
    (case k38 => k_is)
    (case a39 => k_is)
    (case l39 => k_is)
    (case c39 => k_is)
    (case k39 => k_is)
    (case a40 => k_is)
    (case l40 => k_is)
    (case c40 => k_is)
    (case k40 => k_is)
    (case a41 => k_is)
    (case l41 => k_is)
    (case c41 => k_is)
    (case k41 => k_is)
    (case a42 => k_is)
    (case l42 => k_is)
    (case c42 => k_is)
    (case k42 => k_is)
    (case a43 => k_is)
    (case l43 => k_is)
    (case c43 => k_is)
    (case k43 => k_is)
    (case a44 => k_is)
    (case l44 => k_is)
    (case c44 => k_is)
    (case k44 => k_is)
    (case a45 => k_is)
    (case l45 => k_is)
    (case c45 => k_is)
    (case k45 => k_is)
    (case a46 => k_is)
    (case l46 => k_is)
    (case c46 => k_is)
    (case k46 => k_is)
    (case a47 => k_is)
    (case l47 => k_is)
    (case c47 => k_is)
    (case k47 => k_is)
    (case a48 => k_is)
    (case l48 => k_is)
    (case c48 => k_is)
    (case k48 => k_is)
    (case a49 => k_is)
    (case l49 => k_is)
    (case c49 => k_is)
    (case k49 => k_is)
    (case a50 => k_is)
    (case l50 => k_is)
    (case c50 => k_is)
    (case k50 => k_is)
    (case a51 => k_is)
    (case l51 => k_is)
    (case c51 => k_is)
    (case k51 => k_is)
    (case a52 => k_is)
    (case l52 => k_is)
    (case c52 => k_is)
    (case k52 => k_is)
    (case a53 => k_is)
    (case l53 => k_is)
    (case c53 => k_is)
    (case k53 => k_is)
    (case a54 => k_is)
    (case l54 => k_is)
    (case c54 => k_is)
    (case k54 => k_is)
    (case a55 => k_is)
    (case l55 => k_is)
    (case c55 => k_is)
    (case k55 => k_is)
    (case a56 => k_is)
    (case l56 => k_is)
    (case c56 => k_is)
    (case k56 => k_is)
    (case a57 => k_is)
    (case l57 => k_is)
    (case c57 => k_is)
    (case k57 => k_is)
    (case a58 => k_is)
    (case l58 => k_is)
    (case c58 => k_is)
    (case k58 => k_is)
    (case a59 => k_is)
    (case l59 => k_is)
    (case c59 => k_is)
    (case k59 => k_is)
