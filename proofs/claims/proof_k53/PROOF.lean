import PyProof.Rows.All
import Wide.All
import OpenK.AllK
import Wide.FinOn
import HandS.ForMost
import HandS.ForExc
import HandS.TryMany
import HandS.ExcInit
import HandS.ExcField
import HandS.ExcIs
import HandS.IsInst
import KE.KExcIs
import KE.KOpsOwn
import HandS.OwnEq
import HandS.Wide
import HandS.Gcd
import HandS.TupMul
import HandS.Zip
import HandS.Defaults
import HandS.Walk
import HandS.ClsMeth
import HandS.Codes
import PyProof.StrOps2
import PyProof.ReprRoads
import HandS.HotCalls
import HandS.Iter
import KE.KOwnIter
import KE.KDictIter
import HandS.Conv
import HandS.Dict
import HandS.List
import HandS.ListEq
import KE.KEqDict
import HandS.TupLen
import KE.GoesEnum
import KE.GoesMore
import KE.KAssignIn
import HandS.Star
import HandS.Ends
import HandS.DictComp
import PySem.Challenge.RW_ellwarden_k53_parted
import HandS.ReplaceLit
import HandS.TupAny
import KE.SortData
import HandS.SortRule
import HandS.Deep
import KE.IntTextLaws
import HandS.StrMore
set_option Elab.async false
namespace K53
/-! ### tables of bounds -/
abbrev Tb2 := Nat → Nat → Int
structure Cld (n : Nat) (f : Tb2) : Prop where
  z : ∀ a, a < n → f a a = 0
  t : ∀ a b c, a < n → b < n → c < n → f a c ≤ f a b + f b c
def Le (n : Nat) (f g : Tb2) : Prop := ∀ a b, a < n → b < n → f a b ≤ g a b
theorem Le.refl {n : Nat} {f : Tb2} : Le n f f := fun _ _ _ _ => Int.le_refl _
theorem Le.trans {n : Nat} {f g h : Tb2} (p : Le n f g) (q : Le n g h) : Le n f h := fun a b ha hb => Int.le_trans (p a b ha hb) (q a b ha hb)
/-- by way of m -/
def via (m : Nat) (f : Tb2) : Tb2 := fun a b => if f a m + f m b < f a b then f a m + f m b else f a b
def fw : Nat → Tb2 → Tb2
  | 0, f => f
  | m + 1, f => via m (fw m f)
theorem via_le {n m : Nat} {f : Tb2} : Le n (via m f) f := fun a b _ _ => by
  unfold via
  split <;> omega
theorem fw_le {n : Nat} {f : Tb2} : ∀ m, Le n (fw m f) f
  | 0 => .refl
  | m + 1 => via_le.trans (fw_le m)
theorem fw_down {n : Nat} {f : Tb2} {k m : Nat} (h : k ≤ m) : Le n (fw m f) (fw k f) := by
  induction h with
  | refl => exact .refl
  | step _ ih => exact via_le.trans ih
theorem fw_ge {n : Nat} {f c : Tb2} (hc : Cld n c) (h : Le n c f) : ∀ m, m ≤ n → Le n c (fw m f)
  | 0, _ => h
  | m + 1, hm => fun a b ha hb => by
    have ih := fw_ge hc h m (by omega)
    have h1 := ih a b ha hb
    have h2 := ih a m ha (by omega)
    have h3 := ih m b (by omega) hb
    have h4 := hc.t a m b ha (by omega) hb
    show c a b ≤ via m (fw m f) a b
    unfold via
    split <;> omega
theorem fw_inv {n : Nat} {f : Tb2} (hd : ∀ a, a < n → 0 ≤ fw n f a a) : ∀ m, m ≤ n → ∀ a b k, a < n → b < n → k < m → fw m f a b ≤ fw m f a k + fw m f k b
  | 0, _, _, _, _, _, _, hk => absurd hk (Nat.not_lt_zero _)
  | m + 1, hm, a, b, k, ha, hb, hk => by
    have ih := fw_inv hd m (by omega)
    have dm : 0 ≤ fw m f m m := Int.le_trans (hd m (by omega)) (fw_down (n := n) (by omega : m ≤ n) m m (by omega) (by omega))
    show via m (fw m f) a b ≤ via m (fw m f) a k + via m (fw m f) k b
    generalize fw m f = g at ih dm ⊢
    by_cases e : k = m
    · subst e
      unfold via
      repeat' split
      all_goals omega
    · have km : k < m := by omega
      have i1 := ih a b k ha hb km
      have i2 := ih m b k (by omega) hb km
      have i3 := ih a m k ha (by omega) km
      have i4 := ih m m k (by omega) (by omega) km
      unfold via
      repeat' split
      all_goals omega
theorem fw_cld {n : Nat} {f : Tb2} (h0 : ∀ a, a < n → f a a ≤ 0) (hd : ∀ a, a < n → 0 ≤ fw n f a a) : Cld n (fw n f) :=
  ⟨fun a ha => by have := hd a ha; have := fw_le (n := n) (f := f) n a a ha ha; have := h0 a ha; omega, fun a b c ha hb hc => fw_inv hd n (Nat.le_refl _) a c b ha hc hb⟩
/-- one bound more -/
def low (f : Tb2) (s g : Nat) (w : Int) : Tb2 := fun a b => if f a b ≤ f a s + (w + f g b) then f a b else f a s + (w + f g b)
theorem low_cld {n s g : Nat} {f : Tb2} {w : Int} (h : Cld n f) (hs : s < n) (hg : g < n) (hw : 0 ≤ f g s + w) : Cld n (low f s g w) := by
  refine ⟨fun a ha => ?_, fun a b c ha hb hc => ?_⟩
  · have h1 := h.z a ha
    have h2 := h.t g a s hg ha hs
    unfold low
    split <;> omega
  · have h1 := h.t a b c ha hb hc
    have h2 := h.t g b c hg hb hc
    have h3 := h.t a b s ha hb hs
    have h4 := h.t g b s hg hb hs
    unfold low
    repeat' split
    all_goals omega
theorem low_le {n s g : Nat} {f : Tb2} {w : Int} : Le n (low f s g w) f := fun a b _ _ => by
  unfold low
  split <;> omega
theorem low_at {n s g : Nat} {f : Tb2} {w : Int} (h : Cld n f) (hs : s < n) (hg : g < n) : low f s g w s g ≤ w := by
  have h1 := h.z s hs
  have h2 := h.z g hg
  unfold low
  split <;> omega
theorem low_max {n s g : Nat} {f c : Tb2} {w : Int} (hc : Cld n c) (h : Le n c f) (hs : s < n) (hg : g < n) (hw : c s g ≤ w) : Le n c (low f s g w) := fun a b ha hb => by
  have h1 := h a b ha hb
  have h2 := h a s ha hs
  have h3 := h g b hg hb
  have h4 := hc.t a s b ha hs hb
  have h5 := hc.t s g b hs hg hb
  unfold low
  split <;> omega
def put (f : Tb2) (s g : Nat) (w : Int) : Tb2 := fun a b => if a = s ∧ b = g then (if f s g < w then f s g else w) else f a b
theorem put_le {n s g : Nat} {f : Tb2} {w : Int} : Le n (put f s g w) f := fun a b _ _ => by
  unfold put
  by_cases h : a = s ∧ b = g
  · rw [if_pos h, h.1, h.2]
    split <;> omega
  · rw [if_neg h]
    exact Int.le_refl _
theorem put_at {s g : Nat} {f : Tb2} {w : Int} : put f s g w s g ≤ w := by
  unfold put
  rw [if_pos ⟨rfl, rfl⟩]
  split <;> omega
theorem put_ge {n s g : Nat} {f c : Tb2} {w : Int} (h : Le n c f) (hw : c s g ≤ w) : Le n c (put f s g w) := fun a b ha hb => by
  have h1 := h a b ha hb
  unfold put
  by_cases q : a = s ∧ b = g
  · rw [if_pos q]
    obtain ⟨rfl, rfl⟩ := q
    split <;> omega
  · rw [if_neg q]
    exact h1
theorem put_diag {n s g : Nat} {f : Tb2} {w : Int} (h : ∀ a, a < n → f a a ≤ 0) : ∀ a, a < n → put f s g w a a ≤ 0 := fun a ha => by
  have := h a ha
  have := put_le (n := n) (s := s) (g := g) (f := f) (w := w) a a ha ha
  omega
/-- what the law closes is what the card tells -/
theorem fw_put {n s g : Nat} {f : Tb2} {w : Int} (h : Cld n f) (hs : s < n) (hg : g < n) (hw : 0 ≤ f g s + w) : ∀ a b, a < n → b < n → fw n (put f s g w) a b = low f s g w a b := by
  have lc := low_cld h hs hg hw
  have ge := fw_ge lc (put_ge (low_le (f := f)) (low_at h hs hg)) n (Nat.le_refl _)
  have fc : Cld n (fw n (put f s g w)) := fw_cld (put_diag fun a ha => Int.le_of_eq (h.z a ha)) fun a ha => by
    have := ge a a ha ha
    have := lc.z a ha
    omega
  have le := low_max fc ((fw_le n).trans put_le) hs hg (Int.le_trans (fw_le n s g hs hg) put_at)
  intro a b ha hb
  exact Int.le_antisymm (le a b ha hb) (ge a b ha hb)
/-! ### rows of links -/
abbrev Lk := Nat × Nat × Int
def putAll (f : Tb2) : List Lk → Tb2
  | [] => f
  | l :: ls => putAll (put f l.1 l.2.1 l.2.2) ls
structure Lks (n : Nat) (ls : List Lk) : Prop where
  a : ∀ l ∈ ls, l.1 < n
  b : ∀ l ∈ ls, l.2.1 < n
theorem putAll_le {n : Nat} : ∀ (ls : List Lk) (f : Tb2), Le n (putAll f ls) f
  | [], _ => .refl
  | _ :: ls, _ => (putAll_le ls _).trans put_le
theorem putAll_at {n : Nat} : ∀ (ls : List Lk) (f : Tb2), Lks n ls → ∀ l ∈ ls, putAll f ls l.1 l.2.1 ≤ l.2.2
  | l :: ls, f, h, m, hm => by
    rcases List.mem_cons.mp hm with rfl | hm
    · exact Int.le_trans (putAll_le (n := n) ls _ _ _ (h.a m List.mem_cons_self) (h.b m List.mem_cons_self)) put_at
    · exact putAll_at ls _ ⟨fun x hx => h.a x (List.mem_cons_of_mem _ hx), fun x hx => h.b x (List.mem_cons_of_mem _ hx)⟩ m hm
theorem putAll_ge {n : Nat} {c : Tb2} : ∀ (ls : List Lk) (f : Tb2), Le n c f → (∀ l ∈ ls, c l.1 l.2.1 ≤ l.2.2) → Le n c (putAll f ls)
  | [], _, h, _ => h
  | l :: ls, _, h, k => putAll_ge ls _ (put_ge h (k l List.mem_cons_self)) fun x hx => k x (List.mem_cons_of_mem _ hx)
theorem putAll_diag {n : Nat} {ls : List Lk} {f : Tb2} (h : ∀ a, a < n → f a a ≤ 0) : ∀ a, a < n → putAll f ls a a ≤ 0 := fun a ha => Int.le_trans (putAll_le (n := n) ls f a a ha ha) (h a ha)
/-- g: the greatest closed table below f that keeps the links -/
structure Mx (n : Nat) (f : Tb2) (ls : List Lk) (g : Tb2) : Prop where
  c : Cld n g
  le : Le n g f
  at_ : ∀ l ∈ ls, g l.1 l.2.1 ≤ l.2.2
  mx : ∀ c, Cld n c → Le n c f → (∀ l ∈ ls, c l.1 l.2.1 ≤ l.2.2) → Le n c g
theorem Mx.nil {n : Nat} {f : Tb2} (h : Cld n f) : Mx n f [] f := ⟨h, .refl, fun _ z => (nomatch z), fun _ _ h _ => h⟩
theorem Mx.snoc {n : Nat} {f g : Tb2} {ls : List Lk} {l : Lk} (h : Mx n f ls g) (ha : l.1 < n) (hb : l.2.1 < n) (hl : Lks n ls) (hw : 0 ≤ g l.2.1 l.1 + l.2.2) : Mx n f (ls ++ [l]) (low g l.1 l.2.1 l.2.2) := by
  refine ⟨low_cld h.c ha hb hw, low_le.trans h.le, fun x hx => ?_, fun c hc hcf hcl => ?_⟩
  · rcases List.mem_append.mp hx with hx | hx
    · exact Int.le_trans (low_le (n := n) _ _ (hl.a x hx) (hl.b x hx)) (h.at_ x hx)
    · rw [List.mem_singleton] at hx
      subst hx
      exact low_at h.c ha hb
  · exact low_max hc (h.mx c hc hcf fun x hx => hcl x (List.mem_append_left _ hx)) ha hb (hcl l (List.mem_append_right _ List.mem_cons_self))
theorem Mx.perm {n : Nat} {f g : Tb2} {ls ms : List Lk} (h : Mx n f ls g) (p : ∀ l, l ∈ ls ↔ l ∈ ms) : Mx n f ms g := ⟨h.c, h.le, fun l hl => h.at_ l ((p l).mpr hl), fun c h1 h2 h3 => h.mx c h1 h2 fun l hl => h3 l ((p l).mp hl)⟩
/-- all links, closed: the same table -/
theorem Mx.all {n : Nat} {f g : Tb2} {ls : List Lk} (hf : Cld n f) (h : Mx n f ls g) (hl : Lks n ls) : ∀ a b, a < n → b < n → fw n (putAll f ls) a b = g a b := by
  have ge := fw_ge h.c (putAll_ge ls f h.le h.at_) n (Nat.le_refl _)
  have fc : Cld n (K53.fw n (putAll f ls)) := fw_cld (putAll_diag fun a ha => Int.le_of_eq (hf.z a ha)) fun a ha => by
    have := ge a a ha ha
    have := h.c.z a ha
    omega
  have le := h.mx _ fc ((fw_le n).trans (putAll_le ls f)) fun l hm => Int.le_trans (fw_le n _ _ (hl.a l hm) (hl.b l hm)) (putAll_at ls f hl l hm)
  intro a b ha hb
  exact Int.le_antisymm (le a b ha hb) (ge a b ha hb)
/-- a link that clashes: no closed table keeps them all -/
theorem Mx.no {n : Nat} {f g : Tb2} {ls ms : List Lk} {l : Lk} (hf : Cld n f) (h : Mx n f ls g) (ha : l.1 < n) (hb : l.2.1 < n) (hw : g l.2.1 l.1 + l.2.2 < 0) (hl : Lks n ms) (hm : ∀ x ∈ ls, x ∈ ms) (hl2 : l ∈ ms) : ∃ a, a < n ∧ fw n (putAll f ms) a a < 0 := by
  refine Classical.byContradiction fun no => ?_
  have hd : ∀ a, a < n → 0 ≤ K53.fw n (putAll f ms) a a := fun a ha => Int.not_lt.mp fun z => no ⟨a, ha, z⟩
  have fc := fw_cld (putAll_diag fun a ha => Int.le_of_eq (hf.z a ha)) hd
  have at_ : ∀ x ∈ ms, K53.fw n (putAll f ms) x.1 x.2.1 ≤ x.2.2 := fun x hx => Int.le_trans (fw_le n _ _ (hl.a x hx) (hl.b x hx)) (putAll_at ms f hl x hx)
  have le := h.mx _ fc ((fw_le n).trans (putAll_le ms f)) fun x hx => at_ x (hm x hx)
  have h1 := le l.2.1 l.1 hb ha
  have h2 := at_ l hl2
  have h3 := fc.t l.2.1 l.1 l.2.1 hb ha hb
  have h4 := fc.z l.2.1 hb
  omega
end K53

set_option Elab.async false
set_option linter.all false
set_option maxRecDepth 100000
set_option maxHeartbeats 4000000
/-! a try with several clauses, each with a name or without -/
namespace Ew
open PySem PySem.Spec PyProof.Rows L2
/-- one clause: what it names, the slot of its name, what its suite asks -/
abbrev Cl1 := Value × Option Nat × (Addr → Value → Option Addr → TS)
/-- behind a suite the slot of its name is empty -/
def Emp : Option Nat → Ends → Ends
  | none, D => D
  | some i, D => ⟨fun t G => D.nx (t.set i none) G, D.rt, fun t G => D.bk (t.set i none) G, fun t G => D.ct (t.set i none) G⟩
def bindAt : Option Nat → Addr → L2.St → L2.St
  | none, _, σ => σ
  | some i, a, σ => σ.set i (some (.ref a))
def wN (K : PySem.W.Frag) (Wo : WX) (D : Ends) : List Cl1 → WX
  | [] => Wo
  | (c, i, ts) :: r => fun cls d σ H => ∃ b, PySem.W.exmOne K cls c = some b ∧ (b = true → ∀ a, H a = none → ts a cls d (Emp i D) (bindAt i a σ) H) ∧ (b = false → wN K Wo D r cls d σ H)
/-- a suite keeps its reading whatever exception it holds -/
def SuiteOk (X : Cx) (sts : List Stmt) (ts : Addr → Value → Option Addr → TS) : Prop := ∀ a oe cls d pn, Zc cls d oe → (∃ vs, oe.data = .fields vs) → PSs (X.suite a ((a, oe) :: pn)) sts (ts a cls d)
inductive HdsN (X : Cx) : List ExceptHandler → List Cl1 → Prop
  | nil : HdsN X [] []
  | pl {x : Str} {c : Value} {ts b sts p q hs l} : Names X x c → SuiteOk X (b :: sts) ts → HdsN X hs l → HdsN X (.ExceptHandler (some (.Name x p)) none (b :: sts) q :: hs) ((c, none, ts) :: l)
  | nm {x n : Str} {i : Nat} {c : Value} {ts b sts p q hs l} : X.N[i]? = some n → X.env.kindOf n = some .local → Names X x c → SuiteOk X (b :: sts) ts → HdsN X hs l → HdsN X (.ExceptHandler (some (.Name x p)) (some n) (b :: sts) q :: hs) ((c, some i, ts) :: l)
section
variable {X : Cx} {pins : List (Addr × Obj)} {σ : L2.St} {H : Hp} {a : Addr} {cls : Value} {d : Option Addr} {D : Ends} {s : Shared} {Wo : WX}
/-- an exception lies at a, looked at by the frame's own handlers -/
structure Caught (X : Cx) (pins : List (Addr × Obj)) (σ : L2.St) (H : Hp) (a : Addr) (cls : Value) (d : Option Addr) (s : Shared) : Prop where
  ok : X.Ok
  st : X.stack = X.env :: X.outer
  fr : X.env.frame = some X.env.locals
  free : H a = none
  rest : ∃ B sI, Inv X pins σ H sI ∧ (∀ b o, sI.heap.get? b = some o → b ∉ frs X.stack → B.get? b = some o) ∧ sI.heap.UpToSlots s.heap ∧ s.os = sI.os ∧ AllBare s.gens ∧ HandSPX.FlyingZ B (X.env :: X.outer) a (Zc cls d) s.heap
theorem Caught.inv (c : Caught X pins σ H a cls d s) : Inv X pins σ H s := by
  obtain ⟨B, sI, J, nb, up, os, ag, fl⟩ := c.rest
  obtain ⟨hp, g, dr, t, o⟩ := s
  exact J.landed nb fl.1 up os ag
theorem Caught.off (c : Caught X pins σ H a cls d s) : a ∉ frs (X.env :: X.outer) := fun hm => by
  obtain ⟨B, sI, J, nb, up, os, ag, fl⟩ := c.rest
  obtain ⟨o, vs, e, z, q⟩ := fl.there
  obtain ⟨_, o', e', w⟩ := fl.2.2.1.mem hm
  obtain rfl := Option.some.inj (e.symm.trans e')
  exact w _ q
theorem Caught.held (c : Caught X pins σ H a cls d s) : ∃ oe, s.heap.get? a = some oe ∧ Zc cls d oe ∧ (∃ vs, oe.data = .fields vs) ∧ Inv (X.suite a ((a, oe) :: (X.pn ++ pins))) [] σ H s := by
  obtain ⟨B, sI, J, nb, up, os, ag, fl⟩ := id c.rest
  obtain ⟨oe, vs, e, z, q⟩ := fl.there
  refine ⟨oe, e, z, ⟨vs, q⟩, c.inv.suite e q c.free (fun h => c.off ?_) fun h => c.off ?_⟩
  · exact List.mem_filterMap.mpr ⟨_, List.mem_cons_self, c.fr.trans (congrArg some h.symm)⟩
  · obtain ⟨y, hy, w⟩ := List.mem_filterMap.mp h
    exact List.mem_filterMap.mpr ⟨y, List.mem_cons_of_mem _ hy, w⟩
/-- the clause's class is looked at -/
theorem Caught.asks (c : Caught X pins σ H a cls d s) {x : Str} {p : Pos} {v : Value} (n : Names X x v) {Q E : Value → Shared → Prop} (q : Q v s) :
    wpAny (model X.prog X.w) (X.A.mark (some (.ref a))) (eval (.Name x p) X.env) Q E s := by
  obtain ⟨oe, _, _, _, S⟩ := c.held
  obtain ⟨g, db, m | ⟨m, v', nn⟩⟩ := n
  · exact ld_glob (X := X.suite a ((a, oe) :: (X.pn ++ pins))) S g m q db
  · exact ld_blt (X := X.suite a ((a, oe) :: (X.pn ++ pins))) S g m v' q nn db
theorem Caught.judged (c : Caught X pins σ H a cls d s) {v : Value} {b : Bool} (h : PySem.W.exmOne X.K cls v = some b) : PySem.W.Looks (model X.prog X.w) s.heap (excMatches (.ref a) v) b := by
  obtain ⟨oe, e, z, _, _⟩ := c.held
  exact PySem.W.exm_one c.inv.kIn (fun _ _ _ _ k q => wpAny_typeOf_ref (k _ _ e) (z.1.symm ▸ q)) h
/-- what behind the suite is left of an end -/
theorem Caught.done (c : Caught X pins σ H a cls d s) {oe : Obj} {i : Option Nat} {f : Flow} {s' : Shared} (hN : X.N.Nodup) {n : Str} (hn : ∀ j, i = some j → X.N[j]? = some n ∧ X.env.kindOf n = some .local)
    (h : SP (X.suite a ((a, oe) :: (X.pn ++ pins))) [] (Emp i D) f s') {p : Pos} :
    (i = none → SP X pins D f s') ∧ (i ≠ none → wpAny (model X.prog X.w) X.A (do bindName X.env n .none; unbindBehindTheSuite X.env n p) (fun _ s7 => SP X pins D f s7) X.xe s') := by
  cases i with
  | none =>
    refine ⟨fun _ => ?_, fun z => absurd rfl z⟩
    cases f <;> first
      | (obtain ⟨σ6, H6, S, q⟩ := h; exact ⟨σ6, H6, S.unsuite c.ok, q⟩)
      | (obtain ⟨v, σ6, H6, S, r, q⟩ := h; exact ⟨v, σ6, H6, S.unsuite c.ok, r, q⟩)
  | some j =>
    obtain ⟨hj, hk⟩ := hn j rfl
    refine ⟨fun z => (nomatch z), fun _ => ?_⟩
    cases f <;> first
      | (obtain ⟨σ6, H6, S, q⟩ := h; exact gone_ok (S.unsuite c.ok) hN hj hk fun s7 J => ⟨_, _, J, q⟩)
      | (obtain ⟨v, σ6, H6, S, r, q⟩ := h; exact gone_ok (S.unsuite c.ok) hN hj hk fun s7 J => ⟨_, _, _, J, r, q⟩)
/-- the clauses, one after the other -/
theorem Caught.handled {pos : Pos} (hN : X.N.Nodup) (tk : Takes X Wo) : ∀ {hs : List ExceptHandler} {l : List Cl1}, HdsN X hs l → ∀ {s : Shared}, Caught X pins σ H a cls d s → wN X.K Wo D l cls d σ H →
    wpAny (model X.prog X.w) X.A (handleBy (.ref a) X.env hs) (SP X pins D) X.xe s
  | _, _, .nil, s, c, w => by
    obtain ⟨B, sI, J, nb, up, os, ag, fl⟩ := id c.rest
    obtain ⟨_, _, _, oe, vs, T, oT, ts', he, hz, hd, h1, hr⟩ := id fl
    refine wpAny_handleBy_nil ?_
    have up2 : wpAny (model X.prog X.w) X.A (setFlight (.ref a) X.env.frame) (fun _ s4 => wpAny (model X.prog X.w) X.A (throw (.ref a) : Sem Flow) (SP X pins D) X.xe s4) X.xe s := by
      obtain ⟨hp, g, dr, t, o⟩ := s
      rw [c.fr]
      refine HandSPX.setFlight_upZ fl fun h4 hh4 u4 => wpAny_throw (tk _ _ ⟨a, B, sI, pins, σ, H, cls, d, rfl, J, nb, up.trans u4, .inr (.inr ?_), c.free, os, ag, w⟩)
      rw [c.st]
      exact hh4
    unfold PySem.passOn
    refine wpAny_bind (wpAny_field he hd h1 ?_)
    rw [if_neg (fun z => by simp at z)]
    first
      | exact wpAny_bind (wpAny_pure (wpAny_bind up2))
      | exact wpAny_bind up2
  | _, _, .pl hc hsu r, s, c, w => by
    obtain ⟨b, e, yes, no⟩ := w
    refine wpAny_handleBy_cons (codeAny_handlers_test (c.asks hc ((c.judged e).here ?_))) (fun q => nomatch q)
    cases b with
    | false => exact Caught.handled (pos := pos) hN tk r c (no rfl)
    | true =>
      refine codeAny_handlers_suite ?_
      obtain ⟨B, sI, J, nb, up, os, ag, fl⟩ := id c.rest
      obtain ⟨hp, g, dr, t, o⟩ := s
      refine HandSPX.lands_againZ fl fun h4 fl4 u4 => ?_
      have c4 : Caught X pins σ H a cls d ⟨h4, g, dr, t, o⟩ := ⟨c.ok, c.st, c.fr, c.free, B, sI, J, nb, up.trans u4, os, ag, fl4⟩
      obtain ⟨oe, _, z, q, S⟩ := c4.held
      exact wpAny_mono ((hsu a oe cls d _ z q).run [] _ _ H _ S (yes rfl a c.free)) (fun f s6 h => (c4.done (i := none) (n := "") (p := pos) hN (fun _ z => (nomatch z)) h).1 rfl) fun _ _ z => z.elim
  | _, _, .nm hi hl hc hsu r, s, c, w => by
    obtain ⟨b, e, yes, no⟩ := w
    refine wpAny_handleBy_cons (codeAny_handlers_test (c.asks hc ((c.judged e).here ?_))) (fun q => nomatch q)
    cases b with
    | false => exact Caught.handled (pos := pos) hN tk r c (no rfl)
    | true =>
      refine codeAny_handlers_suite_as ?_
      obtain ⟨B, sI, J, nb, up, os, ag, fl⟩ := id c.rest
      obtain ⟨hp, g, dr, t, o⟩ := s
      refine HandSPX.lands_againZ fl fun h4 fl4 u4 => ?_
      have c4 : Caught X pins σ H a cls d ⟨h4, g, dr, t, o⟩ := ⟨c.ok, c.st, c.fr, c.free, B, sI, J, nb, up.trans u4, os, ag, fl4⟩
      obtain ⟨oe, _, z, q, S⟩ := c4.held
      refine store_ok (X := X.suite a ((a, oe) :: (X.pn ++ pins))) (v := .ref a) S hN hi (.inl hl) rfl (fun s5 S5 => ?_) (.inr hl)
      exact wpAny_mono ((hsu a oe cls d _ z q).run [] s5 _ H _ S5 (yes rfl a c.free)) (fun f s6 h => (c4.done (i := some _) hN (fun j e => by cases e; exact ⟨hi, hl⟩) h).2 (fun z => (nomatch z))) fun _ _ z => z.elim
/-- try: body / several clauses -/
theorem ps_tryN {body : List Stmt} {h0 : ExceptHandler} {hs : List ExceptHandler} {l : List Cl1} {pos : Pos} {tb : WX → TS} (hst : X.stack = X.env :: X.outer) (hfr : X.env.frame = some X.env.locals) (hN : X.N.Nodup) (tk : Takes X Wo)
    (hb : ∀ (W : WX) (pn : List (Addr × Obj)) (xe : Value → Shared → Prop), Takes (X.tr pn xe) W → PassesOwn (model X.prog X.w) X.A X.env xe → PSs (X.tr pn xe) body (tb W)) (hh : HdsN X (h0 :: hs) l) :
    PS X (.Try body (h0 :: hs) [] [] pos) (fun D σ H => tb (wN X.K Wo D l) D σ H) := ⟨fun pins s σ H D I h => by
  have ok := I.ok
  let xe : Value → Shared → Prop := fun e s₁ => wpAny (model X.prog X.w) X.A (noteFrame e X.env) (fun _ s₂ => wpAny (model X.prog X.w) X.A (setFlight e none) (fun _ s₃ => wpAny (model X.prog X.w) X.A (handleBy e X.env (h0 :: hs)) (SP X pins D) X.xe s₃) X.xe s₂) X.xe s₁
  have tk2 : Takes (X.tr (X.pn ++ pins) xe) (wN X.K Wo D l) := fun u s' ⟨a, B, sI, pins', σ', H', cls, d, e, J', nb, up, sky, na, os, ag, w⟩ => by
    subst e
    have sky2 : Sky B (X.env :: X.outer) a (Zc cls d) X.env.locals s'.heap := by rw [← hst]; exact sky
    obtain ⟨hp, g, dr, t, o⟩ := s'
    refine Sky.land Zc.steady (ok.frames.trans (congrArg some hst)) hfr sky2 fun h3 fl u3 => ?_
    exact Caught.handled (pos := pos) hN tk hh ⟨ok, hst, hfr, na, B, sI, J'.ofTry ok, nb, up.trans u3, os, ag, fl⟩ w
  refine wpAny_Try_except (wpAny_mono ((hb _ _ xe tk2 PassesOwn.looking).run [] s σ H D (I.toTry _) h) (fun f s1 q => ?_) fun _ _ z => z)
  cases f <;> first
    | (obtain ⟨σ', H', J, q⟩ := q; exact wpAny_execs_nil ⟨σ', H', J.ofTry ok, q⟩)
    | (obtain ⟨σ', H', J, q⟩ := q; exact ⟨σ', H', J.ofTry ok, q⟩)
    | (obtain ⟨v, σ', H', J, r, q⟩ := q; exact ⟨v, σ', H', J.ofTry ok, r, q⟩)⟩
end
end Ew

set_option Elab.async false
set_option linter.all false
set_option maxRecDepth 100000
set_option maxHeartbeats 4000000
namespace Ew
open PySem PySem.Spec PyProof.Rows L2
/-- what the text's class D of an error says -/
structure ErrC (K : PySem.W.Frag) (D : Addr) : Prop where
  cl : (PySem.W.clsIn K D).isSome = true
  ga : PySem.W.findIn K (.ref D) "__getattribute__" = some (some (.builtin "BaseException.__getattribute__"))
  gt : PySem.W.findIn K (.ref D) "__getattr__" = some none
  sb : PySem.W.subIn K (.ref D) (.type "BaseException") = some true
  ca : PySem.W.findIn K (.ref D) "__class__" = some (some (.builtin "object.__class__"))
  gg : PySem.W.specialIn K (.builtin "object.__class__") "__get__" = some (some (.builtin "getset_descriptor.__get__"))
  tk : PySem.W.takesIn K (.builtin "object.__class__") = some true
  mo : PySem.W.mroIn K D (.type "object") = some true
section
variable {X : Cx} {a D : Addr} {oe : Obj} {pn : List (Addr × Obj)} {d : Option Addr}
theorem err_kit (C : ErrC X.K D) (hz : Zc (.ref D) d oe) (hf : ∃ vs, oe.data = .fields vs) {pins : List (Addr × Obj)} {σ : L2.St} {H : Hp} {s : Shared} (I : Inv (X.suite a ((a, oe) :: pn)) pins σ H s) (hd : ∀ dd, d = some dd → ∃ o, H dd = some o) :
    ∃ P : Heap → Prop, PySem.W.KitX X.K (.ref a) (.ref D) P ∧ P s.heap := by
  obtain ⟨at_, _⟩ := I.pin (a, oe) (List.mem_append.mpr (.inl List.mem_cons_self))
  obtain ⟨vs, hv⟩ := hf
  obtain ⟨oc, od, oda, osl⟩ := oe
  obtain ⟨h1, h2⟩ := hz
  dsimp only at h1 h2 hv
  subst h1 h2 hv
  cases od with
  | none => exact ⟨_, PySem.W.kitx_exc (od := none) C.cl C.ga C.gt C.sb C.ca C.gg C.tk C.mo, at_, rfl, rfl, trivial⟩
  | some dd =>
    obtain ⟨o, ho⟩ := hd dd rfl
    obtain ⟨u, hu⟩ := objOk_get (I.hok dd o ho)
    exact ⟨_, PySem.W.kitx_exc (od := some u) C.cl C.ga C.gt C.sb C.ca C.gg C.tk C.mo, at_, rfl, rfl, hu⟩
/-- isinstance(e, c) | isinstance(e, (c1, c2, ..)), e the error that the suite holds -/
def rIsErr (K : PySem.W.Frag) (D a : Addr) (d : Option Addr) : List V → Hp → VK → Prop := fun xs H Q => (∀ dd, d = some dd → ∃ o, H dd = some o) ∧
  ((∃ c u b, xs = [.ref a, c] ∧ ClsV c u ∧ PySem.W.kitOne K (.ref D) u = some b ∧ Q (.bl b) H) ∨ (∃ tp cs us b, xs = [.ref a, .ref tp] ∧ H tp = some (.tup cs) ∧ Paired ClsV cs us ∧ PySem.W.kitAny K (.ref D) us = some b ∧ Q (.bl b) H))
theorem call_isErr (C : ErrC X.K D) (hz : Zc (.ref D) d oe) (hf : ∃ vs, oe.data = .fields vs) : CallR (X.suite a ((a, oe) :: pn)) (.builtin "isinstance") (rIsErr X.K D a d) := by
  intro pins s σ H xs us Q I r h
  obtain ⟨hd, h⟩ := h
  obtain ⟨P, Z, p⟩ := err_kit C hz hf I hd
  rcases h with ⟨c, u, b, rfl, k, e, q⟩ | ⟨tp, cs, ws, b, rfl, ht, k, e, q⟩
  · obtain ⟨u1, u2, rfl, r1, r2⟩ := vals2 r
    cases r1
    obtain rfl := k.eq r2
    exact PySem.W.kia_one Z I.kIn p e (fun z => nomatch z) fun t => ⟨.bl b, H, I.tok t, rfl, q⟩
  · obtain ⟨u1, u2, rfl, r1, r2⟩ := vals2 r
    cases r1
    cases r2
    obtain ⟨_, its, rv, ⟨oc, od, dt, sl⟩, g1, g2, n, g3⟩ := (show ObjOk X.prog X.w H s.heap tp (.tup cs) from I.hok tp _ ht)
    dsimp only at g2 g3
    subst g2 g3
    obtain rfl := ClsV.all k rv
    exact PySem.W.kia_tup Z I.kIn p g1 e (fun z => nomatch z) fun t => ⟨.bl b, H, I.tok t, rfl, q⟩
/-- the same, the class told by the reading -/
theorem call_isErrC {cls : Value} (C : ErrC X.K D) (hz : Zc cls d oe) (hf : ∃ vs, oe.data = .fields vs) : CallR (X.suite a ((a, oe) :: pn)) (.builtin "isinstance") (fun xs H Q => cls = .ref D ∧ rIsErr X.K D a d xs H Q) := by
  intro pins s σ H xs us Q I r h
  obtain ⟨e, h⟩ := h
  subst e
  exact call_isErr C hz hf pins s σ H xs us Q I r h
end

/-! ### own operators -/
/-- a method of the class by a name of its own -/
structure OpM (K : PySem.W.Frag) (C : Addr) (name : Str) (f : Addr) : Prop where
  at_ : PySem.W.findIn K (.ref C) name = some (some (.ref f))
  fn : PySem.W.isFn K (.ref f) = true
section
variable {X : Cx} {CX : CXT} {k : Nat} {f C : Addr} {fd : FuncData} {ps : List Str} {sp : Sp} {E : L2.St → XK} {a b : Expr} {ta tb : TE} {pos : Pos}
theorem back_of {pins : List (Addr × Obj)} {σ : L2.St} {Q : VK} {u : Value} {s : Shared} (h : EP X pins σ Q u s) : PySem.W.CmpBack (EP X pins σ Q) u s := by
  obtain ⟨v, H, I, r, q⟩ := id h
  cases v <;> first
    | (cases r; exact h)
    | (obtain ⟨t, rfl⟩ := r; exact h)
theorem ins_at {pins : List (Addr × Obj)} {σ : L2.St} {H : Hp} {s : Shared} {x dx : Addr} {fs : List (Str × V)} (I : Inv X pins σ H s) (e : H x = some (.ins C dx fs)) : ∃ od, PySem.W.InstAt s.heap x (PySem.W.instObj C dx) C (some od) := by
  obtain ⟨mA, J, _⟩ := ins_get I.hok e
  obtain ⟨od, J, _⟩ := J.look
  exact ⟨od, J⟩
def tBinO (C : Addr) (sp : Sp) (E : L2.St → XK) (ta tb : TE) : TE := fun σ H Q => ta σ H fun x H1 => tb σ H1 fun y H2 => ∃ p q dx dy fs gs, x = .ref p ∧ y = .ref q ∧ H2 p = some (.ins C dx fs) ∧ H2 q = some (.ins C dy gs) ∧ sp [x, y] H2 Q (E σ)
/-- a + b and its like, both of one own class -/
theorem pe_binO {op : Operator} (F : FnOk X.prog X.w X.K X.mg X.base CX k f fd ps sp) (hr : Room k X.A) (M : OpM X.K C (PySem.dunder op.info.2) f) (sf : PySem.W.selfFirst X.K C = true) (hb : Binds X.K fd ps []) (hx : ∀ σ, PassesAt CX X σ (E σ))
    (h1 : PE X a ta) (h2 : PE X b tb) : PE X (.BinOp a op b pos) (tBinO C sp E ta tb) := by
  refine ⟨fun pins s σ H Q I h => wpAny_BinOp (bin h1 h2 I h fun v u s2 x y H2 I2 rx ry q => ?_)⟩
  obtain ⟨p, q', dx, dy, fs, gs, rfl, rfl, e1, e2, q⟩ := q
  cases rx
  cases ry
  obtain ⟨o1, J1⟩ := ins_at I2 e1
  obtain ⟨o2, J2⟩ := ins_at I2 e2
  obtain ⟨m, fr⟩ := I2.fr
  exact PySem.W.binop_K fr I2.ok.mod.kin J1 J2.type sf M.at_ M.fn (thn (run_fnS (vs := [.ref p, .ref q']) F hr hb (hx σ) I2 (.cons rfl (.cons rfl .nil)) q) fun _ _ z => back_of z)
def tNegO (C : Addr) (sp : Sp) (E : L2.St → XK) (ta : TE) : TE := fun σ H Q => ta σ H fun x H1 => ∃ p dx fs, x = .ref p ∧ H1 p = some (.ins C dx fs) ∧ sp [x] H1 Q (E σ)
/-- -a of an own class -/
theorem pe_negO (F : FnOk X.prog X.w X.K X.mg X.base CX k f fd ps sp) (hr : Room k X.A) (M : OpM X.K C "__neg__" f) (hb : Binds X.K fd ps []) (hx : ∀ σ, PassesAt CX X σ (E σ))
    (h1 : PE X a ta) : PE X (.UnaryOp .USub a pos) (tNegO C sp E ta) := by
  refine ⟨fun pins s σ H Q I h => UnaryOp_ (thn (h1.run pins s σ H _ I h) fun v s1 ⟨x, H1, I1, r1, q1⟩ => ?_)⟩
  obtain ⟨p, dx, fs, rfl, e1, q⟩ := q1
  cases r1
  obtain ⟨o1, J1⟩ := ins_at I1 e1
  obtain ⟨m, fr⟩ := I1.fr
  exact PySem.W.ksp_neg fr I1.ok.mod.kin J1 M.at_ M.fn (run_fnS (vs := [.ref p]) F hr hb (hx σ) I1 (.cons rfl .nil) q)
/-- what stands to the right of an own ==: another of the class, or a tuple -/
def RhsEq (K : PySem.W.Frag) (C : Addr) (H : Hp) (y : V) : Prop := ∃ q, y = .ref q ∧ ((∃ dy gs, H q = some (.ins C dy gs)) ∨ ∃ ys, SqT K H q ys)
def tEqO (K : PySem.W.Frag) (C : Addr) (sp : Sp) (E : L2.St → XK) (ta tb : TE) : TE := fun σ H Q => ta σ H fun x H1 => tb σ H1 fun y H2 => ∃ p dx fs, x = .ref p ∧ H2 p = some (.ins C dx fs) ∧ RhsEq K C H2 y ∧ sp [x, y] H2 Q (E σ)
theorem pc_eqO (F : FnOk X.prog X.w X.K X.mg X.base CX k f fd ps sp) (hr : Room k X.A) (M : OpM X.K C "__eq__" f) (ht : PySem.W.notFirst X.K C (.type "tuple") = true) (hb : Binds X.K fd ps []) (hx : ∀ σ, PassesAt CX X σ (E σ))
    (h1 : PE X a ta) (h2 : PE X b tb) : PC X .Eq a b (tEqO X.K C sp E ta tb) := by
  refine ⟨fun pins s σ H Q I h => bin h1 h2 I h fun v u s2 x y H2 I2 rx ry q => ?_⟩
  obtain ⟨p, dx, fs, rfl, e1, ⟨q', rfl, r⟩, q⟩ := q
  cases rx
  cases ry
  obtain ⟨o1, J1⟩ := ins_at I2 e1
  obtain ⟨m, fr⟩ := I2.fr
  have run := thn (run_fnS (vs := [.ref p, .ref q']) F hr hb (hx σ) I2 (.cons rfl (.cons rfl .nil)) q) fun _ _ z => back_of z
  show wpAny _ _ (richCompare .Eq (.ref p) (.ref q')) _ _ _
  rcases r with ⟨dy, gs, e2⟩ | ⟨ys, e2⟩
  · obtain ⟨o2, J2⟩ := ins_at I2 e2
    exact PySem.W.cmp_K (op := .Eq) hr.units0 fr I2.ok.mod.kin J1 J2.type (by simp [PySem.W.notFirst]) M.at_ M.fn run
  · obtain ⟨its, rv, ⟨o, ho, hc, _⟩, _⟩ := I2.tuple e2
    exact PySem.W.cmp_K (op := .Eq) hr.units0 fr I2.ok.mod.kin J1 (fun A' Q' E' s' kp z => wpAny_typeOf_ref (kp _ _ ho) (by rw [hc]; exact z)) ht M.at_ M.fn run
end
end Ew

set_option Elab.async false
set_option linter.all false
set_option maxRecDepth 100000
set_option maxHeartbeats 4000000
namespace Ew
open PySem PySem.Spec PyProof.Rows L2
/-! ### a def of the top as it stands behind the top, and its promise -/
section
variable {P : Program} {w : World} {K : PySem.W.Frag} {mg : Str → Option Value} {base : Heap}
structure DefAt (K : PySem.W.Frag) (mg : Str → Option Value) (x : Str) (st : Stmt) (ps : List Str) : Prop where
  ex : ∃ f fd, Fun K x x st f fd ∧ mg x = some (.ref f) ∧ Binds K fd ps []
structure Cl (P : Program) (w : World) (K : PySem.W.Frag) (mg : Str → Option Value) (base : Heap) (k : Nat) (x : Str) (ps : List Str) (sp : Sp) (dvs : List V) : Prop where
  ex : ∃ f fd ds, FnOk P w K mg base (L2.CX P w) k f fd ps sp ∧ mg x = some (.ref f) ∧ PySem.W.keepIn K (.ref f) = true ∧ Binds K fd ps ds ∧ Vals dvs ds
/-- where a body runs -/
abbrev cxB (P : Program) (w : World) (K : PySem.W.Frag) (mg : Str → Option Value) (base : Heap) (N : List Str) (qual : Str) (st : Stmt) (f : Addr) (cdv : Value) (A : Around) (outer : List Env) (s : Shared) (H : Hp) (E : XK) : Cx := cxOf (L2.CX P w) P w K mg base N qual (defScope st) f cdv A outer s H E
def BodyOk (P : Program) (w : World) (K : PySem.W.Frag) (mg : Str → Option Value) (base : Heap) (N : List Str) (qual : Str) (st : Stmt) (k : Nat) (sp : Sp) : Prop :=
  ∀ (f : Addr) (cdv : Value) (A : Around) (outer : List Env) (s : Shared) (H : Hp) (vs : List V) (Q : VK) (E : XK), Room k (cxB P w K mg base N qual st f cdv A outer s H E).A → sp vs H Q E →
    ∃ t, PSs (cxB P w K mg base N qual st f cdv A outer s H E) (defBody st) t ∧ t { nx := fun _ H' => Q .non H', rt := Q } (start N vs) H
theorem DefAt.cl {x : Str} {st : Stmt} {ps N : List Str} {k : Nat} {sp : Sp} (D : DefAt K mg x st ps) (S : FnScope N ps (defScope st)) (len : ∀ vs H Q E, sp vs H Q E → vs.length = ps.length) (h : BodyOk P w K mg base N x st k sp) : Cl P w K mg base (k + 1) x ps sp [] := by
  obtain ⟨f, fd, F, g, b⟩ := D.ex
  exact ⟨f, fd, [], F.okX S len fun cdv A outer s H vs Q E hr hs => h f cdv A outer s H vs Q E hr hs, g, F.kp, b, .nil⟩
/-- a def with defaults -/
structure DefAtD (K : PySem.W.Frag) (mg : Str → Option Value) (x : Str) (st : Stmt) (ps : List Str) (dvs : List V) : Prop where
  ex : ∃ f fd, FunD K x x (defArgs st) (defBody st) (defScope st) dvs [] f fd ∧ mg x = some (.ref f) ∧ ∀ j, j ≤ dvs.length → ∃ ds, Vals (dvs.drop j) ds ∧ Binds K fd ps ds
theorem DefAtD.cl {x : Str} {st : Stmt} {ps N : List Str} {k : Nat} {sp : Sp} {dvs : List V} (D : DefAtD K mg x st ps dvs) (j : Nat) (hj : j ≤ dvs.length) (S : FnScope N ps (defScope st)) (len : ∀ vs H Q E, sp vs H Q E → vs.length = ps.length)
    (h : BodyOk P w K mg base N x st k sp) : Cl P w K mg base (k + 1) x ps sp (dvs.drop j) := by
  obtain ⟨f, fd, F, g, b⟩ := D.ex
  obtain ⟨ds, hd, hb⟩ := b j hj
  exact ⟨f, fd, ds, F.ok S len fun cdv A outer s H vs Q E hr hs => h f cdv A outer s H vs Q E hr hs, g, F.kp, hb, hd⟩
theorem fun_ok {x qual : Str} {st : Stmt} {f : Addr} {fd : FuncData} {ps N : List Str} {k : Nat} {sp : Sp} (F : Fun K x qual st f fd) (S : FnScope N ps (defScope st)) (len : ∀ vs H Q E, sp vs H Q E → vs.length = ps.length) (h : BodyOk P w K mg base N qual st k sp) :
    FnOk P w K mg base (L2.CX P w) (k + 1) f fd ps sp := F.okX S len fun cdv A outer s H vs Q E hr hs => h f cdv A outer s H vs Q E hr hs
end
/-! ### calls -/
section
variable {X : Cx} {k j : Nat} {x m : Str} {ps : List Str} {sp : Sp} {dvs : List V} {e o : Expr} {es : List Expr} {t : TA} {ta : TE} {p pos apos : Pos} {W : WX} {C : Addr}
theorem run_dv {f : Addr} {fd : FuncData} {ds : List Value} {pins : List (Addr × Obj)} {σ : L2.St} {H : Hp} {s : Shared} {Q : VK} {us : List Value} {vs : List V} (F : FnOk X.prog X.w X.K X.mg X.base (L2.CX X.prog X.w) k f fd ps sp) (hr : Room k X.A) (hb : Binds X.K fd ps ds) (hd : Vals dvs ds)
    (tk : Takes X W) (I : Inv X pins σ H s) (r : Vals vs us) (h : sp (vs ++ dvs) H Q (WE W σ)) : wpAny (model X.prog X.w) X.A (call (.ref f) us) (EP X pins σ Q) X.xe s := by
  have r2 := r.append hd
  have hl : (us ++ ds).length = ps.length := by rw [← r2.length]; exact F.len _ _ _ _ h
  refine wpAny_call (codeAny_mono (F.run X.A X.stack s H ⟨us, []⟩ (us ++ ds) (vs ++ dvs) Q (WE W σ) hr I.env0 (hb s us I.kIn hl) r2 h) fun y s' hq => ?_)
  match y, hq with
  | .error e, hq => exact passAt tk σ pins H s e s' I hq
  | .ok (.ret u), hq => exact I.after hq
def tF (sp : Sp) (dvs : List V) (W : WX) (t : TA) : TE := fun σ H Q => t σ H fun vs H1 => sp (vs ++ dvs) H1 Q (WE W σ)
theorem pe_f (c : Cl X.prog X.w X.K X.mg X.base k x ps sp dvs) (tk : Takes X W) (hr : Room j X.A) (hk : k ≤ j) (hg : Gl X x) (ha : PA X (e :: es) t) (hdb : (x == ("__debug__" : Str)) = false := by decide)
    (he : starEach (e :: es) X.env = (false, eval e X.env) :: starEach es X.env := by rfl) (hpl : (backTo pos (starEach es X.env)).any (·.1) = false := by rfl) : PE X (.Call (.Name x p) (e :: es) [] pos) (tF sp dvs W t) := by
  obtain ⟨f, fd, ds, F, hm, hkp, hb, hd⟩ := c.ex
  exact ⟨fun pins s σ H Q I h => wpAny_Call_Name_kw (ld_glob I hg hm (PySem.W.callWith_K (h₀ := X.base) I.ok.mod.kin hkp (thn (ha.run pos pins s σ H _ I h) fun us s1 ⟨vs, H1, I1, r, q⟩ => ⟨I1.kIn, run_dv F (hr.mono hk) hb hd tk I1 r q⟩) he hpl) hdb)⟩
/-- a method of the class at C -/
structure Mt (P : Program) (w : World) (K : PySem.W.Frag) (mg : Str → Option Value) (base : Heap) (k : Nat) (C : Addr) (m : Str) (ps : List Str) (sp : Sp) (dvs : List V) : Prop where
  cl : Cls K C
  ex : ∃ f fd ds, Meth K C m f ∧ FnOk P w K mg base (L2.CX P w) k f fd ps sp ∧ Binds K fd ps ds ∧ Vals dvs ds
def tM (C : Addr) (m : Str) (sp : Sp) (dvs : List V) (W : WX) (ta : TE) (t : TA) : TE := fun σ H Q => ta σ H fun x H1 => ∃ a dx fs, x = .ref a ∧ H1 a = some (.ins C dx fs) ∧ fs.lookup m = none ∧ t σ H1 fun vs H2 => sp (x :: (vs ++ dvs)) H2 Q (WE W σ)
theorem pe_mf {pl : Sem Bool} (c : Mt X.prog X.w X.K X.mg X.base k C m ps sp dvs) (tk : Takes X W) (hr : Room j X.A) (hk : k ≤ j) (he : PE X o ta) (ha : PA X (e :: es) t)
    (hst : starEach (e :: es) X.env = (false, eval e X.env) :: starEach es X.env := by rfl) (hpl : (backTo pos (starEach es X.env)).any (·.1) = false := by rfl)
    (ht : eval (.Call (.Attribute o m apos) (e :: es) [] pos) X.env = (do
      let v ← eval o X.env
      standAt apos.atName
      let (g, first) ← holding [v] (getMethod v m pl)
      callWith pos g first (backTo pos (starEach (e :: es) X.env)) (backToKw pos (keywordEach [] X.env))) := by rfl) :
    PE X (.Call (.Attribute o m apos) (e :: es) [] pos) (tM C m sp dvs W ta t) := by
  obtain ⟨f, fd, ds, hm, F, hb, hd⟩ := c.ex
  refine ⟨fun pins s σ H Q I h => PySem.W.methodCall_KW (pl := pl) (thn (he.run pins s σ H _ I h) fun u s1 ⟨x, H1, I1, rx, a, dx, fs, ex, ea, l, q⟩ => ?_) ht⟩
  subst ex
  obtain rfl : u = Value.ref a := rx
  refine getmeth_ok I1 ea c.cl hm l ?_
  refine PySem.W.callWith_K (h₀ := X.base) I1.ok.mod.kin hm.kp (thn (ha.run pos pins s1 σ H1 _ I1 q) fun us s2 ⟨vs, H2, I2, r, q2⟩ => ⟨I2.kIn, ?_⟩) hst hpl
  exact run_dv (vs := .ref a :: vs) F (hr.mono hk) hb hd tk I2 (.cons rfl r) q2
/-- a new instance of the class x at C -/
structure Mkr (P : Program) (w : World) (K : PySem.W.Frag) (mg : Str → Option Value) (base : Heap) (k : Nat) (x : Str) (C : Addr) (ps : List Str) (sp : Sp) : Prop where
  gC : mg x = some (.ref C)
  ex : ∃ f fd, Mk K C f ∧ FnOk P w K mg base (L2.CX P w) k f fd ps sp ∧ Binds K fd ps []
theorem pe_mkf (c : Mkr X.prog X.w X.K X.mg X.base k x C ps sp) (hr : Room j X.A) (hk : k + 1 ≤ j) (hg : Gl X x) (ha : PA X (e :: es) t) (hdb : (x == ("__debug__" : Str)) = false := by decide)
    (he : starEach (e :: es) X.env = (false, eval e X.env) :: starEach es X.env := by rfl) (hpl : (backTo pos (starEach es X.env)).any (·.1) = false := by rfl) : PE X (.Call (.Name x p) (e :: es) [] pos) (tMake C sp [] E0 t) := by
  obtain ⟨f, fd, M, F, hb⟩ := c.ex
  exact pe_make M F (hr.mono hk) hg c.gC hb .nil passL ha hdb he hpl
/-- an own error made by C(e, ..) -/
structure Mke (P : Program) (w : World) (K : PySem.W.Frag) (mg : Str → Option Value) (base : Heap) (k : Nat) (x : Str) (C : Addr) (ps : List Str) (sp : Sp) : Prop where
  gC : mg x = some (.ref C)
  ox : OexC K C
  ex : ∃ f fd, PySem.W.findIn K (.ref C) "__init__" = some (some (.ref f)) ∧ PySem.W.typeIn K (.ref f) = some (.type "function") ∧ FnOk P w K mg base (L2.CX P w) k f fd ps sp ∧ Binds K fd ps []
theorem pmk_err (c : Mke X.prog X.w X.K X.mg X.base k x C ps sp) (hr : Room j X.A) (hk : k + 1 ≤ j) (hg : Gl X x) (ha : PA X (e :: es) t) (hdb : (x == ("__debug__" : Str)) = false := by decide)
    (he : starEach (e :: es) X.env = (false, eval e X.env) :: starEach es X.env := by rfl) (hpl : (backTo pos (starEach es X.env)).any (·.1) = false := by rfl) : PMk X (.Call (.Name x p) (e :: es) [] pos) (tMkO C sp [] t) := by
  obtain ⟨f, fd, hi, ht, F, hb⟩ := c.ex
  exact pmk_oex c.ox hi ht F (hr.mono hk) hb .nil passL hg c.gC ha hdb he hpl
end
/-! ### what is frozen: F, a part of the heap that stays; m: what may be changed -/
structure Stm (m : Addr → Prop) (F H F' H' : Hp) : Prop where
  ff : Same F F'
  fh : Same F' H'
  hh : ∀ a o, ¬ m a → H a = some o → H' a = some o
  nw : ∀ a, F a = none → H a ≠ none → F' a = none
abbrev Stp := Stm (fun _ => False)
section
variable {m m' : Addr → Prop} {F H F' H' F2 H2 : Hp} {p : Addr} {o : HO}
theorem Stm.refl (h : Same F H) : Stm m F H F H := ⟨Same.refl F, h, fun _ _ _ e => e, fun _ n _ => n⟩
theorem Stm.mono (a : Stm m F H F' H') (h : ∀ x, m x → m' x) : Stm m' F H F' H' := ⟨a.ff, a.fh, fun x o n e => a.hh x o (fun z => n (h x z)) e, a.nw⟩
theorem Stm.any (a : Stp F H F' H') : Stm m F H F' H' := a.mono fun _ z => z.elim
theorem Stm.same (a : Stp F H F' H') : Same H H' := fun x o e => a.hh x o (fun z => z) e
theorem Stm.there (a : Stm m F H F' H') (hm : ∀ x, m x → H x ≠ none → H' x ≠ none) {x : Addr} (h : H x ≠ none) : H' x ≠ none := by
  by_cases q : m x
  · exact hm x q h
  · cases e : H x with
    | none => exact absurd e h
    | some o => rw [a.hh x o q e]; exact fun z => nomatch z
theorem Stm.trans (a : Stm m F H F' H') (b : Stm m F' H' F2 H2) (hm : ∀ x, m x → H x ≠ none → H' x ≠ none) : Stm m F H F2 H2 :=
  ⟨a.ff.trans b.ff, b.fh, fun x o n e => b.hh x o n (a.hh x o n e), fun q n z => b.nw q (a.nw q n z) (a.there hm z)⟩
theorem Stm.transP (a : Stp F H F' H') (b : Stp F' H' F2 H2) : Stp F H F2 H2 := a.trans b fun _ z => z.elim
theorem same_new (h : H p = none) : Same H (upd H p o) := fun b u e => by rw [upd_ne (ne_of_none e h)]; exact e
/-- a new thing is laid, and frozen at once -/
theorem Stm.new (a : Stm m F H F' H') (hp : H' p = none) (h0 : H p = none) : Stm m F H (upd F' p o) (upd H' p o) where
  ff := a.ff.trans (same_new (a.fh.free hp))
  fh := fun b u e => by
    by_cases hb : b = p
    · subst hb; rw [upd_same] at e ⊢; exact e
    · rw [upd_ne hb] at e ⊢; exact a.fh b u e
  hh := fun x u n e => by rw [upd_ne (ne_of_none e h0)]; exact a.hh x u n e
  nw := fun x n z => by rw [upd_ne (fun q => z (by rw [q]; exact h0))]; exact a.nw x n z
/-- a new thing is laid that is to be changed further -/
theorem Stm.raw (a : Stm m F H F' H') (hp : H' p = none) (h0 : H p = none) : Stm m F H F' (upd H' p o) := ⟨a.ff, a.fh.trans (same_new hp), fun x u n e => by rw [upd_ne (ne_of_none e h0)]; exact a.hh x u n e, a.nw⟩
/-- a thing of the def's own is changed -/
theorem Stm.mut (a : Stm m F H F' H') (hf : F' p = none) (h0 : H p = none) : Stm m F H F' (upd H' p o) := ⟨a.ff, fun b u e => by rw [upd_ne (ne_of_none e hf)]; exact a.fh b u e, fun x u n e => by rw [upd_ne (ne_of_none e h0)]; exact a.hh x u n e, a.nw⟩
/-- a thing of the def's own stays from now on -/
theorem Stm.freeze (a : Stm m F H F' H') (hf : F' p = none) (h0 : H p = none) (e : H' p = some o) : Stm m F H (upd F' p o) H' where
  ff := a.ff.trans (same_new hf)
  fh := fun b u q => by
    by_cases hb : b = p
    · subst hb; rw [upd_same] at q; rw [e]; exact q
    · rw [upd_ne hb] at q; exact a.fh b u q
  hh := a.hh
  nw := fun x n z => by rw [upd_ne (fun q => z (by rw [q]; exact h0))]; exact a.nw x n z
/-- fresh now is fresh at the start, where what may change is there -/
theorem Stm.fresh (a : Stm m F H F' H') (hm : ∀ x, m x → H' x ≠ none) {x : Addr} (h : H' x = none) : H x = none := by
  by_cases q : m x
  · exact absurd h (hm x q)
  · cases e : H x with
    | none => rfl
    | some o => rw [a.hh x o q e] at h; cases h
theorem Stm.freshP (a : Stp F H F' H') {x : Addr} (h : H' x = none) : H x = none := a.fresh (fun _ z => z.elim) h
theorem Stm.newP (a : Stp F H F' H') (hp : H' p = none) : Stp F H (upd F' p o) (upd H' p o) := a.new hp (a.freshP hp)
theorem stp_new (h : Same F H) (hp : H p = none) : Stp F H (upd F p o) (upd H p o) := (Stm.refl h).newP hp
end
theorem upT {K : PySem.W.Frag} {H H' : Hp} {a : Addr} {xs : List V} (e : Same H H') (h : SqT K H a xs) : SqT K H' a xs := h.ext e
theorem upL {K : PySem.W.Frag} {H H' : Hp} {a : Addr} {xs : List V} (e : Same H H') (h : SqL K H a xs) : SqL K H' a xs := h.ext e
theorem sq_new {K : PySem.W.Frag} {H : Hp} {p : Addr} {xs : List V} : SqT K (upd H p (.tup xs)) p xs := SqT.of upd_same
/-- what a def promises that changes nothing: a part of the heap stays, the answer stands in it -/
def Pu (F H : Hp) (Q : VK) (post : Hp → V → Prop) : Prop := Same F H ∧ ∀ F' H' v, Stp F H F' H' → post F' v → Q v H'
theorem iteY {c A B : Prop} [Decidable c] (h : c) (x : A) : if c then A else B := by rw [if_pos h]; exact x
theorem iteN {c A B : Prop} [Decidable c] (h : ¬ c) (x : B) : if c then A else B := by rw [if_neg h]; exact x
theorem vint_ne {a b : Int} (h : a ≠ b) : ¬ decide (V.int a = V.int b) = true := fun z => h (V.int.inj (of_decide_eq_true z))
theorem vint_eq {a b : Int} (h : a = b) : decide (V.int a = V.int b) = true := decide_eq_true (congrArg V.int h)
/-! ### // by any divisor but 0 -/
def CDivX (_ j : Int) : Prop := j ≠ 0 ∧ j.natAbs.log2 < 9000
theorem op_fdivX {X : Cx} : OpR X (binaryOp .FloorDiv) (rI CDivX fun i j => .int (i.fdiv j)) := opI fun _ _ _ _ _ _ _ hc q => floordiv_int hc.1 q (.inl (PyProof.noPylong_of_log2 hc.2))
end Ew

set_option Elab.async false
set_option linter.all false
set_option maxRecDepth 100000
set_option maxHeartbeats 4000000
namespace Ew
open PySem PySem.Spec PyProof.Rows L2
/-- an error's __init__ that keeps its one argument (its two) -/
def spI1 (C : Addr) (f : Str) : Sp := fun vs H Q _ => ∃ x v, vs = [.ref x, v] ∧ H x = some (exo x C none) ∧ ∀ dx, H dx = none → dx ≠ x → Q .non (upd (upd H dx (exd dx [(f, v)])) x (exo x C (some dx)))
def spI2 (C : Addr) (f g : Str) : Sp := fun vs H Q _ => ∃ x u v, vs = [.ref x, u, v] ∧ H x = some (exo x C none) ∧
  ∀ dx, H dx = none → dx ≠ x → Q .non (upd (upd (upd H dx (exd dx [(f, u)])) x (exo x C (some dx))) dx (exd dx [(g, v), (f, u)]))
theorem back1 {H : Hp} {a d : Addr} {o1 o2 o3 o4 : HO} (ha : H a = none) (h : d ≠ a) : upd (del (upd (upd (upd H a o1) d o2) a o3) a) d o4 = upd H d o4 := by
  funext b
  by_cases e : b = d
  · subst e; rw [upd_same, upd_same]
  · rw [upd_ne e, upd_ne e]
    by_cases e2 : b = a
    · subst e2; rw [del_same, ha]
    · rw [del_ne e2, upd_ne e2, upd_ne e, upd_ne e2]
theorem back2 {H : Hp} {a d : Addr} {o1 o2 o3 o4 o5 : HO} (ha : H a = none) (h : d ≠ a) : upd (del (upd (upd (upd (upd H a o1) d o2) a o3) d o5) a) d o4 = upd H d o4 := by
  funext b
  by_cases e : b = d
  · subst e; rw [upd_same, upd_same]
  · rw [upd_ne e, upd_ne e]
    by_cases e2 : b = a
    · subst e2; rw [del_same, ha]
    · rw [del_ne e2, upd_ne e, upd_ne e2, upd_ne e, upd_ne e2]
section
variable {X : Cx} {k j : Nat} {x f g : Str} {ps : List Str} {e e2 : Expr} {te te2 : TE} {p pos pos2 : Pos} {W : WX} {C : Addr}
def tR1 (C : Addr) (f : Str) (W : WX) (te : TE) : TS := fun _ σ H => te σ H fun v H1 => ∀ d, H1 d = none → W (.ref C) (some d) σ (upd H1 d (.xd [(f, v)]))
def tR2 (C : Addr) (f g : Str) (W : WX) (te te2 : TE) : TS := fun _ σ H => te σ H fun u H1 => te2 σ H1 fun v H2 => ∀ d, H2 d = none → W (.ref C) (some d) σ (upd H2 d (.xd [(g, v), (f, u)]))
theorem ps_weak {st : Stmt} {t t' : TS} (h : PS X st t) (q : ∀ D σ H, t' D σ H → t D σ H) : PS X st t' := ⟨fun pins s σ H D I z => h.run pins s σ H D I (q D σ H z)⟩
end
/-- te says what it says of more, too -/
def TeMono (te : TE) : Prop := ∀ σ H (Q Q' : VK), (∀ v H', Q v H' → Q' v H') → te σ H Q → te σ H Q'
theorem pe_up {X : Cx} {e : Expr} {te : TE} (h : PE X e te) : PE X e fun σ H Q => ∃ Q', (∀ v H', Q' v H' → Q v H') ∧ te σ H Q' := ⟨fun pins s σ H Q I ⟨Q', q, z⟩ => thn (h.run pins s σ H Q' I z) fun _ _ ⟨v, H', I', r, y⟩ => ⟨v, H', I', r, q v H' y⟩⟩
section
variable {X : Cx} {k j : Nat} {x f g : Str} {ps : List Str} {e e2 : Expr} {te te2 : TE} {p pos pos2 : Pos} {W : WX} {C : Addr}
theorem ps_raise1 (hc : X.calm = true) (tk : Takes X W) (c : Mke X.prog X.w X.K X.mg X.base k x C ps (spI1 C f)) (hr : Room j X.A) (hk : k + 1 ≤ j) (hg : Gl X x) (he : PE X e te) (hdb : (x == ("__debug__" : Str)) = false := by decide)
    (hs : starEach [e] X.env = [(false, eval e X.env)] := by rfl) (hpl : (backTo pos (starEach ([] : List Expr) X.env)).any (·.1) = false := by rfl) : PS X (.Raise (some (.Call (.Name x p) [e] [] pos)) none pos2) (tR1 C f W te) := by
  refine ps_weak (ps_raise hc tk (pmk_err c hr hk hg (pa_cons (pe_up he) pa_nil hs) hdb hs hpl)) fun D σ H h => ⟨_, fun v H1 z => ?_, h⟩
  refine ⟨Nat.le_of_ble_eq_true rfl, fun a ha => ⟨a, v, rfl, upd_same, fun dx n ne => ⟨rfl, dx, [(f, v)], upd_same, ?_, ?_, ?_⟩⟩⟩
  · rw [upd_ne ne, upd_same]
  · rw [upd_ne ne] at n; exact n
  · rw [back1 ha ne]
    rw [upd_ne ne] at n
    exact z dx n
theorem ps_raise2 (hc : X.calm = true) (tk : Takes X W) (c : Mke X.prog X.w X.K X.mg X.base k x C ps (spI2 C f g)) (hr : Room j X.A) (hk : k + 1 ≤ j) (hg : Gl X x) (he : PE X e te) (he2 : PE X e2 te2) (hdb : (x == ("__debug__" : Str)) = false := by decide)
    (hs : starEach [e, e2] X.env = [(false, eval e X.env), (false, eval e2 X.env)] := by rfl) (hs2 : starEach [e2] X.env = [(false, eval e2 X.env)] := by rfl) (hpl : (backTo pos (starEach [e2] X.env)).any (·.1) = false := by rfl) :
    PS X (.Raise (some (.Call (.Name x p) [e, e2] [] pos)) none pos2) (tR2 C f g W te te2) := by
  have hs' : starEach [e, e2] X.env = (false, eval e X.env) :: starEach [e2] X.env := by rw [hs, hs2]
  refine ps_weak (ps_raise hc tk (pmk_err c hr hk hg (pa_cons (pe_up he) (pa_cons (pe_up he2) pa_nil hs2) hs') hdb hs' hpl)) fun D σ H h => ⟨_, fun u H1 y => ⟨_, fun v H2 z => ?_, y⟩, h⟩
  refine ⟨Nat.le_of_ble_eq_true rfl, fun a ha => ⟨a, u, v, rfl, upd_same, fun dx n ne => ⟨rfl, dx, [(g, v), (f, u)], ?_, upd_same, ?_, ?_⟩⟩⟩
  · rw [upd_ne (Ne.symm ne), upd_same]
  · rw [upd_ne ne] at n; exact n
  · rw [back2 ha ne]
    rw [upd_ne ne] at n
    exact z dx n
end
/-- what a def promises of an error that leaves it -/
def Ra (F H : Hp) (E : XK) (C : Addr) (post : Hp → Addr → Prop) : Prop := ∀ F' H' d, Stp F H F' H' → post F' d → E (.ref C) (some d) H'
theorem ty_sqT {K : PySem.W.Frag} {H : Hp} {p : Addr} {xs : List V} (h : SqT K H p xs) : TyX K H (.ref p) (.type "tuple") := by
  rcases h with (h | ⟨o, h⟩) | h
  · exact .base (.tup h)
  · exact .fTuple h
  · obtain ⟨o, its, n, e, c, _⟩ := h
    exact .kTuple e c
theorem ty_sqL {K : PySem.W.Frag} {H : Hp} {p : Addr} {xs : List V} (h : SqL K H p xs) : TyX K H (.ref p) (.type "list") := by
  rcases h with (h | ⟨o, h⟩) | h
  · exact .base (.lst h)
  · exact .base (.frz h)
  · obtain ⟨o, its, n, e, c, _⟩ := h
    exact .kList e c
end Ew

set_option Elab.async false
set_option linter.all false
set_option maxRecDepth 100000
set_option maxHeartbeats 4000000
namespace Ew
open PySem PySem.Spec PyProof.Rows L2
/-- what may be changed (m), and what stays true of it (I) -/
structure Mem (m : Addr → Prop) (I : Hp → Hp → Prop) : Prop where
  there : ∀ {F H x}, I F H → m x → H x ≠ none
  off : ∀ {F H x}, I F H → m x → F x = none
  put : ∀ {F H p o}, I F H → ¬ m p → I F (upd H p o)
  grow : ∀ {F F' H}, I F H → Same F F' → (∀ x, m x → F' x = none) → I F' H
theorem memP : Mem (fun _ => False) (fun _ _ => True) := ⟨fun _ z => z.elim, fun _ z => z.elim, fun _ _ => trivial, fun _ _ _ => trivial⟩
section
variable {m : Addr → Prop} {I : Hp → Hp → Prop} {F H F' H' F2 H2 : Hp} {J : It} {n : Nat} {G : Hp → Prop} {Y : Nat → Hp → V → Hp → Prop}
theorem Stm.then (M : Mem m I) (i : I F' H') (a : Stm m F H F' H') (b : Stm m F' H' F2 H2) : Stm m F H F2 H2 := a.trans b fun _ z _ => M.there i z
/-- a comprehension: each turn gives one item, of which R says what is wanted; the new list is frozen at the end -/
theorem lcM (M : Mem m I) (w : Walk J n G Y) {g : TG} {tt : TT} {te : TE} {vs : List Nat} {σ : L2.St} {D : Addr} {Qd : Hp → Prop} (hf : Same F H) (i0 : I F H) (hD : H D = none) (R : Nat → Hp → V → Prop) (hR : ∀ i F F' y, Same F F' → R i F y → R i F' y)
    (hn : n ≤ 1000000) (hG : ∀ F' H', Same F F' → Same F' H' → G H')
    (hs : ∀ i x F' H' H'' (Kt : VK) (Kn : Hp → Prop), i < n → Stm m F H F' H' → I F' H' → Y i H' x H'' → (∀ y F4 H4, Stm m F' H' F4 H4 → I F4 H4 → R i F4 y → Kt y H4) →
      g x (wipe σ vs) H'' fun σ2 H2 => wipe σ2 vs = wipe σ vs ∧ tt σ2 H2 fun b H3 => if b = true then te σ2 H3 Kt else Kn H3)
    (hd : ∀ F' H' ys, Stm m F H F' H' → I F' H' → F' D = some (.lst ys) → ys.length = n → (∀ j y, ys[j]? = some y → R j F' y) → Qd H') :
    ∃ W : Nat → Nat → Hp → Prop, (∃ k, W 0 k (upd H D (.lst []))) ∧ ∀ i k H, W i k H →
      (J.stop i H ∧ Qd H) ∨ (J.go i H ∧ ∃ Nx : Hp → Prop, (∀ H', Nx H' → ∃ k', k' < k ∧ W (i + 1) k' H') ∧ ∀ x H', J.yld i H x H' → g x (wipe σ vs) H' fun σ2 H2 => wipe σ2 vs = wipe σ vs ∧ tt σ2 H2 fun b H3 =>
        if b = true then te σ2 H3 fun y H4 => ∃ acc, H4 D = some (.lst acc) ∧ acc.length < sizeLine ∧ Nx (upd H4 D (.lst (acc ++ [y]))) else Nx H3) := by
  have nm : ¬ m D := fun z => M.there i0 z hD
  have fD : F D = none := hf.free hD
  refine lc_it w (fun i H' => ∃ F' acc, Stm m F H F' H' ∧ I F' H' ∧ F' D = none ∧ H' D = some (.lst acc) ∧ acc.length = i ∧ ∀ j y, acc[j]? = some y → R j F' y) ?_ ?_ ?_ ?_
  · exact ⟨F, [], (Stm.refl hf).raw hD hD, M.put i0 nm, fD, upd_same, rfl, fun j y z => by simp at z⟩
  · rintro i H' _ ⟨F', acc, s, _⟩
    exact hG F' H' s.ff s.fh
  · rintro i x H' H'' hi ⟨F', acc, s, iv, f', h', hl, hr⟩ y
    refine hs i x F' H' H'' _ _ hi s iv y fun y F4 H4 s4 i4 r4 => ?_
    have f4 : F4 D = none := s4.nw D f' (by rw [h']; exact fun z => nomatch z)
    have h4 : H4 D = some (.lst acc) := s4.hh D _ nm h'
    refine ⟨acc, h4, by rw [sizeLine_eq]; omega, F4, acc ++ [y], (s.then M iv s4).mut f4 hD, M.put i4 nm, f4, upd_same, by rw [List.length_append, hl]; rfl, fun j z hz => ?_⟩
    rcases Nat.lt_or_ge j acc.length with hj | hj
    · rw [List.getElem?_append_left hj] at hz
      exact hR j F' F4 z s4.ff (hr j z hz)
    · rw [List.getElem?_append_right hj] at hz
      have e0 : j - acc.length = 0 := by
        rcases Nat.eq_zero_or_pos (j - acc.length) with h0 | h0
        · exact h0
        · rw [List.getElem?_eq_none (by simp; omega)] at hz; cases hz
      rw [e0] at hz
      cases hz
      have ej : j = i := by omega
      rw [ej]
      exact r4
  · rintro H' ⟨F', acc, s, iv, f', h', hl, hr⟩
    refine hd (upd F' D (.lst acc)) H' acc (s.freeze f' hD h') (M.grow iv (same_new f') fun x hx => ?_) upd_same hl fun j y hy => hR j F' _ y (same_new f') (hr j y hy)
    rw [upd_ne (fun z => nm (by rw [← z]; exact hx))]
    exact M.off iv hx
theorem lc_yes {te : TE} {σ : L2.St} {H : Hp} {Kt : VK} {Kn : Hp → Prop} (h : te σ H Kt) : tYes σ H fun b H3 => if b = true then te σ H3 Kt else Kn H3 := by
  show if true = true then te σ H Kt else Kn H
  rw [if_pos rfl]
  exact h
end
end Ew

set_option Elab.async false
set_option linter.all false
set_option maxRecDepth 100000
set_option maxHeartbeats 4000000
namespace Ew
open PySem PySem.Spec PyProof.Rows L2
/-- a tuple of ints as data -/
def intT (ds : List Int) : PyData := .tuple (ds.map .int)
theorem dpAll_ints {K : PySem.W.Frag} {H : Hp} : ∀ ds : List Int, DpAll K H (ds.map V.int) (ds.map PyData.int)
  | [] => .nil
  | d :: ds => .cons (.int d) (dpAll_ints ds)
theorem dp_ints {K : PySem.W.Frag} {H : Hp} {p : Addr} {ds : List Int} (h : SqT K H p (ds.map V.int)) : Dp K H (.ref p) (intT ds) := .tup h (dpAll_ints ds)
theorem eqvAll_ints : ∀ a b : List Int, PyData.eqvAll (a.map .int) (b.map .int) = decide (a = b)
  | [], [] => rfl
  | [], y :: b => rfl
  | x :: a, [] => rfl
  | x :: a, y :: b => by
    rw [List.map_cons, List.map_cons, PyData.eqvAll, PyData.eqv, eqvAll_ints a b]
    by_cases h : x = y
    · subst h; by_cases h2 : a = b <;> simp [h2]
    · simp [h]
theorem eqv_ints (a b : List Int) : PyData.eqv (intT a) (intT b) = decide (a = b) := by
  unfold intT
  rw [PyData.eqv, eqvAll_ints]
theorem lay_ints : ∀ ds : List Int, PyData.canLayAll0 (ds.map PyData.int) = true
  | [] => by rw [List.map_nil, PyData.canLayAll0]
  | d :: ds => by rw [List.map_cons, PyData.canLayAll0, lay_ints ds, PyData.canLay0, Bool.and_self]
theorem dep_ints : ∀ ds : List Int, PyData.depthAll (ds.map PyData.int) = 0
  | [] => by rw [List.map_nil, PyData.depthAll]
  | d :: ds => by rw [List.map_cons, PyData.depthAll, dep_ints ds, PyData.depth, Nat.max_self]
theorem shaped_ints (ds : List Int) : SeqAt.shaped (intT ds) = true := by
  unfold SeqAt.shaped intT
  rw [PyData.canLay0, lay_ints, PyData.depth, dep_ints]
  rfl
/-! ### ratios -/
/-- at v a pair of ints; a tuple of ints -/
def Rt (K : PySem.W.Frag) (F : Hp) (v : V) (r : Int × Int) : Prop := ∃ p, v = .ref p ∧ SqT K F p [.int r.1, .int r.2]
def Dm (K : PySem.W.Frag) (F : Hp) (v : V) (ds : List Int) : Prop := ∃ p, v = .ref p ∧ SqT K F p (ds.map V.int)
section
variable {K : PySem.W.Frag} {F F' : Hp} {v : V} {r : Int × Int} {ds : List Int}
theorem Rt.up (h : Rt K F v r) (e : Same F F') : Rt K F' v r := by obtain ⟨p, h1, h2⟩ := h; exact ⟨p, h1, upT e h2⟩
theorem Dm.up (h : Dm K F v ds) (e : Same F F') : Dm K F' v ds := by obtain ⟨p, h1, h2⟩ := h; exact ⟨p, h1, upT e h2⟩
theorem Rt.dp (h : Rt K F v r) : Dp K F v (intT [r.1, r.2]) := by obtain ⟨p, rfl, h2⟩ := h; exact dp_ints h2
theorem Dm.dp (h : Dm K F v ds) : Dp K F v (intT ds) := by obtain ⟨p, rfl, h2⟩ := h; exact dp_ints h2
end
/-- the common divisor, with the sign of d -/
def com (n d : Int) : Int := if d < 0 then -((Nat.gcd n.natAbs d.natAbs : Nat) : Int) else ((Nat.gcd n.natAbs d.natAbs : Nat) : Int)
/-- n / d in lowest terms -/
def rat (n d : Int) : Int × Int := (n.fdiv (com n d), d.fdiv (com n d))
/-- size: below 2 ^ b -/
def Sz (b : Nat) (n : Int) : Prop := n.natAbs < 2 ^ b
theorem Sz.mono {a b : Nat} {n : Int} (h : Sz a n) (k : a ≤ b) : Sz b n := Nat.lt_of_lt_of_le h (Nat.pow_le_pow_right (by decide) k)
theorem Sz.log {b : Nat} {n : Int} (h : Sz b n) (h0 : 0 < b) (k : b ≤ 9000) : n.natAbs.log2 < 9000 := Nat.lt_of_lt_of_le (PySem.Flt.log2_lt_of h0 h) k
theorem Sz.mul {a b : Nat} {m n : Int} (h : Sz a m) (k : Sz b n) : Sz (a + b) (m * n) := wide_lt h k
theorem Sz.add {a : Nat} {m n : Int} (h : Sz a m) (k : Sz a n) : Sz (a + 1) (m + n) := by
  unfold Sz at *
  have := Int.natAbs_add_le m n
  rw [Nat.pow_succ]
  omega
theorem Sz.sub {a : Nat} {m n : Int} (h : Sz a m) (k : Sz a n) : Sz (a + 1) (m - n) := by
  unfold Sz at *
  rw [Nat.pow_succ]
  omega
theorem Sz.neg {a : Nat} {m : Int} (h : Sz a m) : Sz a (-m) := by
  unfold Sz at *
  rwa [Int.natAbs_neg]
theorem com_ne {n d : Int} (h : d ≠ 0) : com n d ≠ 0 := by
  have g : 0 < Nat.gcd n.natAbs d.natAbs := Nat.gcd_pos_of_pos_right _ (by omega)
  unfold com
  split <;> omega
theorem com_abs (n d : Int) : (com n d).natAbs = Nat.gcd n.natAbs d.natAbs := by
  unfold com
  split <;> simp
theorem com_sz {n d : Int} {b : Nat} (h0 : d ≠ 0) (h : Sz b d) : Sz b (com n d) := by
  unfold Sz
  rw [com_abs]
  exact Nat.lt_of_le_of_lt (Nat.gcd_le_right _ (by omega)) h
theorem com_dn (n d : Int) : com n d ∣ n := by
  rw [← Int.natAbs_dvd_natAbs, com_abs]
  exact Nat.gcd_dvd_left _ _
theorem com_dd (n d : Int) : com n d ∣ d := by
  rw [← Int.natAbs_dvd_natAbs, com_abs]
  exact Nat.gcd_dvd_right _ _
theorem fdiv_abs {n c : Int} (h : c ∣ n) : (n.fdiv c).natAbs = n.natAbs / c.natAbs := by
  obtain ⟨k, rfl⟩ := h
  by_cases h0 : c = 0
  · subst h0; simp
  · rw [Int.mul_fdiv_cancel_left _ h0, Int.natAbs_mul, Nat.mul_div_cancel_left _ (by omega)]
theorem Sz.fdiv {n c : Int} {b : Nat} (h : Sz b n) (hd : c ∣ n) : Sz b (n.fdiv c) := by
  unfold Sz
  rw [fdiv_abs hd]
  exact Nat.lt_of_le_of_lt (Nat.div_le_self _ _) h
theorem rat_sz {n d : Int} {b : Nat} (h1 : Sz b n) (h2 : Sz b d) : Sz b (rat n d).1 ∧ Sz b (rat n d).2 := ⟨h1.fdiv (com_dn n d), h2.fdiv (com_dd n d)⟩
theorem rat_pos {n d : Int} (h : d ≠ 0) : 0 < (rat n d).2 := by
  show 0 < d.fdiv (com n d)
  have g : 0 < Nat.gcd n.natAbs d.natAbs := Nat.gcd_pos_of_pos_right _ (by omega)
  obtain ⟨k, hk⟩ := com_dd n d
  have hc := com_ne (n := n) h
  have e : d.fdiv (com n d) = k := by
    conv => lhs; lhs; rw [hk]
    rw [Int.mul_fdiv_cancel_left _ hc]
  rw [e]
  unfold com at hk
  split at hk
  · rename_i hd
    rcases Int.lt_trichotomy k 0 with q | q | q
    · have : 0 < -((Nat.gcd n.natAbs d.natAbs : Nat) : Int) * k := Int.mul_pos_of_neg_of_neg (by omega) q
      omega
    · subst q; simp at hk; omega
    · exact q
  · rename_i hd
    rcases Int.lt_trichotomy k 0 with q | q | q
    · have : ((Nat.gcd n.natAbs d.natAbs : Nat) : Int) * k < 0 := Int.mul_neg_of_pos_of_neg (by omega) q
      omega
    · subst q; simp at hk; omega
    · exact q
theorem rat_cop {n d : Int} (h : d ≠ 0) : Nat.gcd (rat n d).1.natAbs (rat n d).2.natAbs = 1 := by
  show Nat.gcd (n.fdiv (com n d)).natAbs (d.fdiv (com n d)).natAbs = 1
  rw [fdiv_abs (com_dn n d), fdiv_abs (com_dd n d), com_abs]
  exact Nat.gcd_div_gcd_div_gcd_of_pos_right (by omega)
end Ew

set_option Elab.async false
set_option linter.all false
set_option maxRecDepth 100000
set_option maxHeartbeats 4000000
namespace Ew
open PySem PySem.Spec PyProof.Rows L2
/-- a static method m of the class at C: what stands at p holds the def at g -/
structure StM (K : PySem.W.Frag) (C : Addr) (mc : Value) (m : Str) (p g : Addr) : Prop where
  rd : ClX.CRead K C mc
  off : PySem.W.findCls K (.ref C) mc m = some (.get (.builtin "staticmethod.__get__") (.ref p) .none (.ref C))
  rc : ∃ rest, PySem.W.recIn K p "staticmethod" = some (.ref g :: rest)
  kp : PySem.W.keepIn K (.ref g) = true
  pg : PySem.W.plainGet K C Str.empty = true
  ic : PySem.W.isClsIn K C = true
  at_ : PySem.W.findIn K (.ref C) m = some (some (.ref p))
  ty : PySem.W.typeIn K (.ref p) = some (.type "staticmethod")
  gt : PySem.W.specialIn K (.ref p) "__get__" = some (some (.builtin "staticmethod.__get__"))
  tk : PySem.W.takesIn K (.ref p) = some false
  cp : PySem.W.copiedNames.contains m = false
section
variable {X : Cx} {pins : List (Addr × Obj)} {σ : L2.St} {H : Hp} {s : Shared} {b C p g : Addr} {mc : Value} {m : Str} {A : Around} {E : Value → Shared → Prop}
theorem sm_off {pl : Sem Bool} {Q : Value × List Value → Shared → Prop} (I : Inv X pins σ H s) (k : StM X.K C mc m p g) (h : ∀ s', Inv X pins σ H s' → Q (.ref g, []) s') : wpAny (model X.prog X.w) A (getMethod (.ref C) m pl) Q E s := by
  obtain ⟨rest, hp⟩ := k.rc
  exact PySem.W.method_cls I.kIn k.rd.ga (PySem.W.cls_bind I.kIn k.rd.rd k.off (wpAny_call (PySem.W.sm_get (s := { s with toks := s.toks + 1 }) I.kIn hp (PySem.W.handed_on rfl (h _ (I.tok _))))))
theorem sm_on {pl : Sem Bool} {ox od : Obj} {Q : Value × List Value → Shared → Prop} (I : Inv X pins σ H s) (J : PySem.W.InstAt s.heap b ox C (some od)) (hl : PySem.W.lookIn m od = some none) (k : StM X.K C mc m p g)
    (h : ∀ s', Inv X pins σ H s' → Q (.ref g, []) s') : wpAny (model X.prog X.w) A (getMethod (.ref b) m pl) Q E s := by
  obtain ⟨rest, hp⟩ := k.rc
  have pg : PySem.W.plainGet X.K C m = true := k.pg
  refine PySem.W.method_usual (r := some (.ref p)) I.kIn J (PySem.W.plainGet_of pg).1 (PySem.W.plainGet_of pg).2 k.at_ ?_ (PySem.W.get_bind I.kIn J (PySem.W.plainGet_of pg).1 (ClX.find_cm k.ic k.at_ k.gt k.tk k.cp hl) (PySem.W.plainGet_of pg).2
    (wpAny_call (PySem.W.sm_get (s := { s with toks := s.toks + 1 }) I.kIn hp (PySem.W.handed_on rfl (h _ (I.tok _))))))
  rw [Option.all_some, k.ty]
  decide +kernel
variable {k j : Nat} {fd : FuncData} {ps : List Str} {sp : Sp} {e o : Expr} {es : List Expr} {t : TA} {ta : TE} {pos apos : Pos} {W : WX}
/-- C.m(e, ..), o.m(e, ..), m a static method -/
structure Sm (P : Program) (w : World) (K : PySem.W.Frag) (mg : Str → Option Value) (base : Heap) (k : Nat) (C : Addr) (m : Str) (ps : List Str) (sp : Sp) : Prop where
  ex : ∃ mc p g fd, StM K C mc m p g ∧ FnOk P w K mg base (L2.CX P w) k g fd ps sp ∧ Binds K fd ps []
def tSm (K : PySem.W.Frag) (C : Addr) (m : Str) (sp : Sp) (W : WX) (ta : TE) (t : TA) : TE := fun σ H Q => ta σ H fun x H1 => (x = .ref C ∨ ∃ b dx fs, x = .ref b ∧ H1 b = some (.ins C dx fs) ∧ fs.lookup m = none) ∧ t σ H1 fun vs H2 => sp vs H2 Q (WE W σ)
theorem pe_sm {pl : Sem Bool} (c : Sm X.prog X.w X.K X.mg X.base k C m ps sp) (tk : Takes X W) (hr : Room j X.A) (hk : k ≤ j) (he : PE X o ta) (ha : PA X (e :: es) t)
    (hst : starEach (e :: es) X.env = (false, eval e X.env) :: starEach es X.env := by rfl) (hpl : (backTo pos (starEach es X.env)).any (·.1) = false := by rfl)
    (ht : eval (.Call (.Attribute o m apos) (e :: es) [] pos) X.env = (do
      let v ← eval o X.env
      standAt apos.atName
      let (g, first) ← holding [v] (getMethod v m pl)
      callWith pos g first (backTo pos (starEach (e :: es) X.env)) (backToKw pos (keywordEach [] X.env))) := by rfl) :
    PE X (.Call (.Attribute o m apos) (e :: es) [] pos) (tSm X.K C m sp W ta t) := by
  obtain ⟨mc, p, g, fd, S, F, hb⟩ := c.ex
  refine ⟨fun pins s σ H Q I h => PySem.W.methodCall_KW (pl := pl) (thn (he.run pins s σ H _ I h) fun u s1 ⟨x, H1, I1, rx, ex, q⟩ => ?_) ht⟩
  have go : ∀ s', Inv X pins σ H1 s' → wpAny (model X.prog X.w) X.A (callWith pos (.ref g) [] (backTo pos (starEach (e :: es) X.env)) (backToKw pos (keywordEach [] X.env))) (EP X pins σ Q) X.xe s' := fun s' I' =>
    PySem.W.callWith_K (h₀ := X.base) I'.ok.mod.kin S.kp (thn (ha.run pos pins s' σ H1 _ I' q) fun us s2 ⟨vs, H2, I2, r, q2⟩ => ⟨I2.kIn, run_dv F (hr.mono hk) hb .nil tk I2 r (by rw [List.append_nil]; exact q2)⟩) hst hpl
  rcases ex with rfl | ⟨b, dx, fs, rfl, eb, l⟩
  · obtain rfl : u = Value.ref C := rx
    exact sm_off I1 S fun s' I' => go s' I'
  · obtain rfl : u = Value.ref b := rx
    obtain ⟨mA, O, rr, _, _, _⟩ := ins_get I1.hok eb
    obtain ⟨od, J, hl⟩ := O.look
    have hn : mA m = none := RelO.none_of (by rw [← l]; exact rr m)
    exact sm_on I1 J (by rw [hl m, hn]) S fun s' I' => go s' I'
end
/-! ### methods as they stand behind the top -/
structure MthAt (K : PySem.W.Frag) (C : Addr) (m q : Str) (st : Stmt) (ps : List Str) : Prop where
  ex : ∃ f fd, Meth K C m f ∧ Fun K m q st f fd ∧ Binds K fd ps []
structure OpAt (K : PySem.W.Frag) (C : Addr) (m x q : Str) (st : Stmt) (ps : List Str) : Prop where
  ex : ∃ f fd, OpM K C m f ∧ Fun K x q st f fd ∧ Binds K fd ps []
structure MkAt (K : PySem.W.Frag) (C : Addr) (q : Str) (st : Stmt) (ps : List Str) : Prop where
  ex : ∃ f fd, Mk K C f ∧ Fun K "__init__" q st f fd ∧ Binds K fd ps []
structure SmAt (K : PySem.W.Frag) (C : Addr) (m q : Str) (st : Stmt) (ps : List Str) : Prop where
  ex : ∃ mc p g fd, StM K C mc m p g ∧ Fun K m q st g fd ∧ Binds K fd ps []
/-- an own operator's method, its promise -/
structure OpC (P : Program) (w : World) (K : PySem.W.Frag) (mg : Str → Option Value) (base : Heap) (k : Nat) (C : Addr) (m : Str) (ps : List Str) (sp : Sp) : Prop where
  sf : PySem.W.selfFirst K C = true
  ex : ∃ f fd, OpM K C m f ∧ FnOk P w K mg base (L2.CX P w) k f fd ps sp ∧ Binds K fd ps []
section
variable {X : Cx} {k j : Nat} {C : Addr} {ps : List Str} {sp : Sp} {e1 e2 : Expr} {ta tb : TE} {pos : Pos} {W : WX}
theorem pe_bop {op : Operator} (c : OpC X.prog X.w X.K X.mg X.base k C (PySem.dunder op.info.2) ps sp) (tk : Takes X W) (hr : Room j X.A) (hk : k ≤ j) (h1 : PE X e1 ta) (h2 : PE X e2 tb) : PE X (.BinOp e1 op e2 pos) (tBinO C sp (WE W) ta tb) := by
  obtain ⟨f, fd, M, F, hb⟩ := c.ex
  exact pe_binO F (hr.mono hk) M c.sf hb (fun σ => passAt tk σ) h1 h2
theorem pe_nop (c : OpC X.prog X.w X.K X.mg X.base k C "__neg__" ps sp) (tk : Takes X W) (hr : Room j X.A) (hk : k ≤ j) (h1 : PE X e1 ta) : PE X (.UnaryOp .USub e1 pos) (tNegO C sp (WE W) ta) := by
  obtain ⟨f, fd, M, F, hb⟩ := c.ex
  exact pe_negO F (hr.mono hk) M hb (fun σ => passAt tk σ) h1
theorem pc_eop (c : OpC X.prog X.w X.K X.mg X.base k C "__eq__" ps sp) (tk : Takes X W) (hr : Room j X.A) (hk : k ≤ j) (ht : PySem.W.notFirst X.K C (.type "tuple") = true) (h1 : PE X e1 ta) (h2 : PE X e2 tb) : PC X .Eq e1 e2 (tEqO X.K C sp (WE W) ta tb) := by
  obtain ⟨f, fd, M, F, hb⟩ := c.ex
  exact pc_eqO F (hr.mono hk) M ht hb (fun σ => passAt tk σ) h1 h2
end
/-- what isinstance asks of an own class -/
structure KiC (K : PySem.W.Frag) (C : Addr) : Prop where
  cl : Cls K C
  ca : PySem.W.findIn K (.ref C) "__class__" = some (some (.builtin "object.__class__"))
  gg : PySem.W.specialIn K (.builtin "object.__class__") "__get__" = some (some (.builtin "getset_descriptor.__get__"))
  tk : PySem.W.takesIn K (.builtin "object.__class__") = some true
  mo : PySem.W.mroIn K C (.type "object") = some true
theorem KiC.ty {K : PySem.W.Frag} {C : Addr} (k : KiC K C) {H : Hp} {x dx : Addr} {fs : List (Str × V)} (h : H x = some (.ins C dx fs)) : TyX K H (.ref x) (.ref C) := .base (.ins h k.cl k.ca k.gg k.tk k.mo)
theorem kit_same {K : PySem.W.Frag} {t : Value} : PySem.W.kitOne K t t = some true := by
  unfold PySem.W.kitOne
  rw [if_pos (beq_self_eq_true t)]
end Ew

set_option Elab.async false
set_option linter.all false
set_option maxRecDepth 100000
set_option maxHeartbeats 4000000
namespace Ew
open PySem PySem.Spec PyProof.Rows L2
open AutoSeq1 (wpAny_loadPart')
open MeetsSeq MeetsSeq2 MeetsSeq3 SeqRoads2
theorem tup_once (l : Addr) (items : Array Value) (n : Nat) (dd : Option Addr) (sl : Array (Option Value)) (u : Tok) :
    Meets (Builtin.«tuple.__mul__» ⟨[.ref l, .int 1 u], []⟩) (fun _ R s => s.heap.get? l = some { cls := .type "tuple", dict := dd, data := .seq items n, slots := sl } ∧ R (.ok (.ret (.ref l))) s) :=
  .of_wp fun prog w A R s h => by
    obtain ⟨hp, g, d, tk, os⟩ := s
    obtain ⟨hl, h⟩ := h
    have f1 := AutoSeq1.idx_int
    wp_walk using wpAny_loadPart' hl
    exact ⟨_, rfl, h⟩
def rRep1 (K : PySem.W.Frag) : R2 := fun x y H Q => ∃ l xs, x = .ref l ∧ y = .int 1 ∧ SqT K H l xs ∧ Q (.ref l) H
theorem op_rep1 {X : Cx} : OpR X (binaryOp .Mult) (rRep1 X.K) := by
  intro pins s σ H x y v u Q I rx ry h
  obtain ⟨l, xs, rfl, rfl, hT, q⟩ := h
  cases rx
  obtain ⟨t, rfl⟩ := ry
  obtain ⟨its, r, ⟨⟨cls, dd, data, sl⟩, ho, hc, n, hd⟩, hs⟩ := I.tuple hT
  dsimp only at hc hd
  subst hc hd
  exact wpAny_binaryOp_repeat_ref (T := "tuple") (U := "int") (by decide) ⟨_, ho, rfl⟩ (fun s' => typeIs_int s' 1 t) noFill_tuple_mul F.fills_int_mul F.slot_int_rmul repeat_tuple F.slot_int_index.lookup
    (call_meets F.slot_int_rmul (typeIs_int s 1 t) F.entry_int_rmul (F.args_int_rmul_2 _ _) (int_rmul_tuple 1 t l its.toArray n dd sl)
      ⟨ho, rfl, ⟨_, ho, rfl⟩, call_meets F.slot_tuple_mul ⟨_, ho, rfl⟩ F.entry_tuple_mul (F.args_tuple_mul_2 _ _) (tup_once l its.toArray n dd sl t) ⟨ho, .ref l, H, I, rfl, q⟩⟩)
theorem op_repA {X : Cx} : OpR X (binaryOp .Mult) (fun x y H Q => rRepT X.K x y H Q ∨ rRep1 X.K x y H Q) := op_repT.or op_rep1
end Ew

set_option Elab.async false
set_option linter.all false
set_option maxRecDepth 100000
set_option maxHeartbeats 4000000
namespace Ew
open PySem PySem.Spec PyProof.Rows L2
/-- data that may be compared: n deep at most -/
structure Fl (n : Nat) (d : PyData) : Prop where
  c : d.canLay0 = true
  d : d.depth ≤ n
structure FlA (n : Nat) (ds : List PyData) : Prop where
  c : PyData.canLayAll0 ds = true
  d : PyData.depthAll ds ≤ n
theorem FlA.nil {n : Nat} : FlA n [] := ⟨by rw [PyData.canLayAll0], by rw [PyData.depthAll]; omega⟩
theorem FlA.cons {n : Nat} {d : PyData} {ds : List PyData} (h : Fl n d) (t : FlA n ds) : FlA n (d :: ds) := ⟨by rw [PyData.canLayAll0, h.c, t.c]; rfl, by rw [PyData.depthAll]; have := h.d; have := t.d; omega⟩
theorem FlA.all {n : Nat} : ∀ {ds : List PyData}, (∀ d ∈ ds, Fl n d) → FlA n ds
  | [], _ => .nil
  | d :: ds, h => .cons (h d List.mem_cons_self) (FlA.all fun x hx => h x (List.mem_cons_of_mem _ hx))
theorem Fl.tup {n : Nat} {ds : List PyData} (h : FlA n ds) : Fl (n + 1) (.tuple ds) := ⟨by rw [PyData.canLay0]; exact h.c, by rw [PyData.depth]; have := h.d; omega⟩
theorem Fl.lst {n : Nat} {ds : List PyData} (h : FlA n ds) : Fl (n + 1) (.list ds) := ⟨by rw [PyData.canLay0]; exact h.c, by rw [PyData.depth]; have := h.d; omega⟩
theorem Fl.int {n : Nat} {i : Int} : Fl n (.int i) := ⟨by rw [PyData.canLay0], by rw [PyData.depth]; omega⟩
theorem Fl.str {n : Nat} {x : Str} (h : PyData.strOk x = true) : Fl n (.str x) := ⟨by rw [PyData.canLay0]; exact h, by rw [PyData.depth]; omega⟩
theorem Fl.sh {n : Nat} {d : PyData} (h : Fl n d) (k : n ≤ 64) : SeqAt.shaped d = true := by
  unfold SeqAt.shaped
  have := h.d
  rw [h.c, decide_eq_true (by omega : d.depth ≤ 64)]
  rfl
theorem fl_ints {n : Nat} (ds : List Int) : Fl (n + 1) (intT ds) := Fl.tup ⟨lay_ints ds, by rw [dep_ints]; omega⟩
/-- a pair of a ratio and a tuple of ints -/
def rowD (s : (Int × Int) × List Int) : PyData := .tuple [intT [s.1.1, s.1.2], intT s.2]
theorem fl_row {n : Nat} (s : (Int × Int) × List Int) : Fl (n + 2) (rowD s) := Fl.tup (.cons (fl_ints _) (.cons (fl_ints _) .nil))
theorem eqv_row (s t : (Int × Int) × List Int) : PyData.eqv (rowD s) (rowD t) = decide (s = t) := by
  unfold rowD
  rw [PyData.eqv, PyData.eqvAll, PyData.eqvAll, PyData.eqvAll, eqv_ints, eqv_ints]
  obtain ⟨⟨a, b⟩, c⟩ := s
  obtain ⟨⟨a', b'⟩, c'⟩ := t
  by_cases h1 : a = a' <;> by_cases h2 : b = b' <;> by_cases h3 : c = c' <;> simp [h1, h2, h3]
def Row (K : PySem.W.Frag) (F : Hp) (v : V) (s : (Int × Int) × List Int) : Prop := ∃ p u w, v = .ref p ∧ SqT K F p [u, w] ∧ Rt K F u s.1 ∧ Dm K F w s.2
theorem Row.up {K : PySem.W.Frag} {F F' : Hp} {v : V} {s : (Int × Int) × List Int} (h : Row K F v s) (e : Same F F') : Row K F' v s := by
  obtain ⟨p, u, w, h1, h2, h3, h4⟩ := h
  exact ⟨p, u, w, h1, upT e h2, h3.up e, h4.up e⟩
theorem Row.dp {K : PySem.W.Frag} {F : Hp} {v : V} {s : (Int × Int) × List Int} (h : Row K F v s) : Dp K F v (rowD s) := by
  obtain ⟨p, u, w, rfl, h2, h3, h4⟩ := h
  exact .tup h2 (.cons h3.dp (.cons h4.dp .nil))
/-- items, each with its own word -/
def Rws (K : PySem.W.Frag) (F : Hp) (xs : List V) (ss : List ((Int × Int) × List Int)) : Prop := xs.length = ss.length ∧ ∀ (i : Nat) x, xs[i]? = some x → ∃ s, ss[i]? = some s ∧ Row K F x s
theorem Rws.up {K : PySem.W.Frag} {F F' : Hp} {xs : List V} {ss : List ((Int × Int) × List Int)} (h : Rws K F xs ss) (e : Same F F') : Rws K F' xs ss := ⟨h.1, fun i x hx => by
  obtain ⟨s, h1, h2⟩ := h.2 i x hx
  exact ⟨s, h1, h2.up e⟩⟩
theorem Rws.nil {K : PySem.W.Frag} {F : Hp} : Rws K F [] [] := ⟨rfl, fun i x h => by simp at h⟩
theorem Rws.snoc {K : PySem.W.Frag} {F : Hp} {xs : List V} {ss : List ((Int × Int) × List Int)} {x : V} {s : (Int × Int) × List Int} (h : Rws K F xs ss) (k : Row K F x s) : Rws K F (xs ++ [x]) (ss ++ [s]) := by
  refine ⟨by simp [h.1], fun i y hy => ?_⟩
  rcases Nat.lt_or_ge i xs.length with hi | hi
  · rw [List.getElem?_append_left hi] at hy
    obtain ⟨t, h1, h2⟩ := h.2 i y hy
    exact ⟨t, by rw [List.getElem?_append_left (by rw [← h.1]; exact hi)]; exact h1, h2⟩
  · rw [List.getElem?_append_right hi] at hy
    have e0 : i - xs.length = 0 := by
      rcases Nat.eq_zero_or_pos (i - xs.length) with h0 | h0
      · exact h0
      · rw [List.getElem?_eq_none (by simp; omega)] at hy; cases hy
    rw [e0] at hy
    cases hy
    refine ⟨s, ?_, k⟩
    rw [List.getElem?_append_right (by rw [← h.1]; exact hi), ← h.1, e0]
    rfl
theorem Rws.dps {K : PySem.W.Frag} {F : Hp} : ∀ {xs : List V} {ss : List ((Int × Int) × List Int)}, Rws K F xs ss → DpAll K F xs (ss.map rowD)
  | [], [], _ => .nil
  | [], s :: ss, h => absurd h.1 (by simp)
  | x :: xs, [], h => absurd h.1 (by simp)
  | x :: xs, s :: ss, h => by
    obtain ⟨t, h1, h2⟩ := h.2 0 x rfl
    cases h1
    exact .cons h2.dp (Rws.dps ⟨by simpa using h.1, fun i y hy => h.2 (i + 1) y hy⟩)
end Ew

set_option Elab.async false
set_option linter.all false
set_option maxRecDepth 100000
set_option maxHeartbeats 4000000
namespace Ew
open PySem PySem.Spec PyProof.Rows L2
open SX (S)
/-- a sign, k times -/
theorem fold_one (c : Nat) : ∀ (m : Nat) (acc : Array Nat), (List.replicate m #[c]).foldl (· ++ ·) acc = acc ++ (List.replicate m c).toArray
  | 0, acc => by simp
  | m + 1, acc => by
    rw [List.replicate_succ, List.foldl_cons, fold_one c m, List.replicate_succ]
    apply Array.ext'
    simp
def rRepC : R2 := fun x y H Q => ∃ (c : Nat) (k : Int), x = .str ⟨#[c]⟩ ∧ y = .int k ∧ 2 ≤ k ∧ k ≤ 100000 ∧ Q (.str (S (List.replicate k.toNat c))) H
theorem op_repC {X : Cx} : OpR X (binaryOp .Mult) rRepC := by
  intro pins s σ H x y v u Q I rx ry h
  obtain ⟨c, k, rfl, rfl, h1, h2, q⟩ := h
  obtain ⟨t, rfl⟩ := rx
  obtain ⟨t', rfl⟩ := ry
  have hl : (⟨#[c]⟩ : Str).length = 1 := rfl
  have e1 : (k == 1) = false := by rw [beq_eq_false_iff_ne]; omega
  refine PySem.P.mul_str ?_ (fun _ _ => ?_) (fun _ _ => ?_) ?_
  · rw [decide_eq_false (by omega), decide_eq_false (by omega)]
    rfl
  · rw [hl]
    have : (1 : Int) ≤ (2 ^ 63 - 1) / k := (Int.le_ediv_iff_mul_le (by omega)).mpr (by omega)
    show ¬ ((1 : Int) > _)
    omega
  · rw [hl]
    unfold PySem.Builtin.Str.tooLong
    rw [decide_eq_false_iff_not, sizeLine_eq]
    omega
  · rw [if_neg (by omega), e1, hl]
    have e2 : ((⟨#[c]⟩ : Str).cps) = #[c] := rfl
    rw [if_neg (by decide), e2, fold_one]
    have e3 : (#[] ++ (List.replicate k.toNat c).toArray : Array Nat) = (List.replicate k.toNat c).toArray := by simp
    rw [e3]
    refine ⟨?_, ⟨.str (S (List.replicate k.toNat c)), H, I.tok _, ⟨_, rfl⟩, q⟩⟩
    show (S (List.replicate k.toNat c)).length ≤ sizeLine
    rw [SX.S_len, List.length_replicate, sizeLine_eq]
    omega
end Ew

set_option Elab.async false
set_option linter.all false
set_option maxRecDepth 100000
set_option maxHeartbeats 4000000
namespace Ew
open PySem PySem.Spec PyProof.Rows L2
/-! ### defs that are asked only where no repr is under way -/
section
variable {P : Program} {w : World} {K : PySem.W.Frag} {mg : Str → Option Value} {base : Heap}
structure FnG (P : Program) (w : World) (K : PySem.W.Frag) (mg : Str → Option Value) (base : Heap) (k : Nat) (f : Addr) (fd : FuncData) (ps : List Str) (sp : Sp) : Prop where
  len : ∀ vs H Q E, sp vs H Q E → vs.length = ps.length
  go : ∀ (A : Around) (outer : List Env) (s : Shared) (H : Hp) (args : Args) (us : List Value) (vs : List V) (Q : VK) (E : XK), A.guards = some [] → Room k A → Env0 P w K mg base A outer s H → BindsTo s fd args (ps.zip us) → Vals vs us → sp vs H Q E →
    codeAny (model P w) A (.call (.ref f) args) (CR (L2.CX P w) outer P w H s Q E) s
def BodyG (P : Program) (w : World) (K : PySem.W.Frag) (mg : Str → Option Value) (base : Heap) (N : List Str) (qual : Str) (st : Stmt) (k : Nat) (sp : Sp) : Prop :=
  ∀ (f : Addr) (cdv : Value) (A : Around) (outer : List Env) (s : Shared) (H : Hp) (vs : List V) (Q : VK) (E : XK), (cxB P w K mg base N qual st f cdv A outer s H E).A.guards = some [] → Room k (cxB P w K mg base N qual st f cdv A outer s H E).A → sp vs H Q E →
    ∃ t, PSs (cxB P w K mg base N qual st f cdv A outer s H E) (defBody st) t ∧ t { nx := fun _ H' => Q .non H', rt := Q } (start N vs) H
theorem fun_gd {x qual : Str} {st : Stmt} {f : Addr} {fd : FuncData} {ps N : List Str} {k : Nat} {sp : Sp} (F : Fun K x qual st f fd) (S : FnScope N ps (defScope st)) (len : ∀ vs H Q E, sp vs H Q E → vs.length = ps.length) (h : BodyG P w K mg base N qual st k sp) :
    FnG P w K mg base (k + 1) f fd ps sp := by
  obtain ⟨oc, od, kV, doc, pm, an, cdv, ct, osl, rfl, lk, hcd⟩ := F.ex
  refine ⟨len, ?_⟩
  intro A outer s H args us vs Q E hg room e0 bind rel ask
  have many := len _ _ _ _ ask
  have kept : ∀ b o, base.get? b = some o → s.heap.get? b = some o := fun b o e => (e0.bs b o e).1
  have KX : K.In s.heap := e0.mod.kin.keeps kept
  have locals_ : ∀ y ∈ ps.zip us, (defScope st).names.lookup y.1 = some .local ∨ ((defScope st).names.lookup y.1 = some .cell ∧ ((cellsFrom (s.heap.objs.size + 1) (defScope st).names []).lookup y.1).isSome = true) := by
    rintro ⟨nm, v⟩ hy
    refine (S.par nm (List.of_mem_zip hy).1).imp id fun q => ⟨q, ?_⟩
    exact PySem.W.cellsFrom_some _ _ _ (.inl q)
  refine codeAny_call_function room.depth (KX _ _ lk) rfl S.co S.gen rfl (PySem.W.codeRec_of KX hcd) (bind _ _ _ _ ?_)
  refine wpAny_newFunctionEnv_cells S.kind locals_ ?_
  rintro env rfl s1 x
  refine ⟨(e0.mod.nolimit.keeps kept).keeps x.toInCall.keep, codeAny_func ?_⟩
  obtain ⟨t, ht, goal⟩ := h f cdv A outer s H vs Q E hg (room.deeper _) ask
  refine wpAny_mono (ht.run [] s1 (start N vs) H _ (inv_start S room.hd e0 many rel x) goal) ?_ (fun e s' z => z)
  intro fl s' end_
  match fl, end_ with
  | .ret u, ⟨v, σ', H', J, rv, q⟩ => exact ⟨v, H', J.os, J.bare, J.base, J.hok, rv, q⟩
  | .next, ⟨σ', H', J, q⟩ => exact ⟨.non, H', J.os, J.bare, J.base, J.hok, rfl, q⟩
  | .brk, ⟨_, _, _, q⟩ => exact q.elim
  | .cont, ⟨_, _, _, q⟩ => exact q.elim
structure ClG (P : Program) (w : World) (K : PySem.W.Frag) (mg : Str → Option Value) (base : Heap) (k : Nat) (x : Str) (ps : List Str) (sp : Sp) : Prop where
  ex : ∃ f fd, FnG P w K mg base k f fd ps sp ∧ mg x = some (.ref f) ∧ PySem.W.keepIn K (.ref f) = true ∧ Binds K fd ps []
theorem DefAt.clG {x : Str} {st : Stmt} {ps N : List Str} {k : Nat} {sp : Sp} (D : DefAt K mg x st ps) (S : FnScope N ps (defScope st)) (len : ∀ vs H Q E, sp vs H Q E → vs.length = ps.length) (h : BodyG P w K mg base N x st k sp) : ClG P w K mg base (k + 1) x ps sp := by
  obtain ⟨f, fd, F, g, b⟩ := D.ex
  exact ⟨f, fd, fun_gd F S len h, g, F.kp, b⟩
end
section
variable {X : Cx} {k j : Nat} {x : Str} {ps : List Str} {sp : Sp} {e : Expr} {es : List Expr} {t : TA} {p pos : Pos} {W : WX}
theorem pe_fG (hg0 : X.A.guards = some []) (c : ClG X.prog X.w X.K X.mg X.base k x ps sp) (tk : Takes X W) (hr : Room j X.A) (hk : k ≤ j) (hg : Gl X x) (ha : PA X (e :: es) t) (hdb : (x == ("__debug__" : Str)) = false := by decide)
    (he : starEach (e :: es) X.env = (false, eval e X.env) :: starEach es X.env := by rfl) (hpl : (backTo pos (starEach es X.env)).any (·.1) = false := by rfl) : PE X (.Call (.Name x p) (e :: es) [] pos) (tF sp [] W t) := by
  obtain ⟨f, fd, F, hm, hkp, hb⟩ := c.ex
  refine ⟨fun pins s σ H Q I h => wpAny_Call_Name_kw (ld_glob I hg hm (PySem.W.callWith_K (h₀ := X.base) I.ok.mod.kin hkp (thn (ha.run pos pins s σ H _ I h) fun us s1 ⟨vs, H1, I1, r, q⟩ => ⟨I1.kIn, ?_⟩) he hpl) hdb)⟩
  have r2 := r.append (.nil : Vals [] [])
  have hl : (us ++ []).length = ps.length := by rw [← r2.length]; exact F.len _ _ _ _ q
  refine wpAny_call (codeAny_mono (F.go X.A X.stack s1 H1 ⟨us, []⟩ (us ++ []) (vs ++ []) Q (WE W σ) hg0 (hr.mono hk) I1.env0 (hb s1 us I1.kIn hl) r2 q) fun y s' hq => ?_)
  match y, hq with
  | .error e, hq => exact passAt tk σ pins H1 s1 e s' I1 hq
  | .ok (.ret u), hq => exact I1.after hq
end
/-- a call without arguments of a def that lets nothing out -/
theorem pe_f0 {X : Cx} {k j : Nat} {x : Str} {ps : List Str} {sp : Sp} {p pos : Pos} (c : Cl X.prog X.w X.K X.mg X.base k x ps sp []) (hr : Room j X.A) (hk : k ≤ j) (hg : Gl X x) (hdb : (x == ("__debug__" : Str)) = false := by decide) : PE X (.Call (.Name x p) [] [] pos) (tCall sp [] E0 tNil) := by
  obtain ⟨f, fd, ds, F, hm, hkp, hb, hd⟩ := c.ex
  cases hd
  exact pe_call0 F (hr.mono hk) hg hm hkp hb .nil passL hdb
/-! ### repr, where none is under way -/
section
variable {X : Cx}
def rReprD (K : PySem.W.Frag) : List V → Hp → VK → Prop := fun xs H Q => (∃ (a : Addr) (d : PyData), xs = [.ref a] ∧ Dp K H (.ref a) d ∧ d.showable = true ∧ d.hasDict = false ∧ d.depth ≤ 60 ∧ d.shown.length ≤ sizeLine ∧ Q (.str d.shown) H) ∨
  (∃ i : Int, xs = [.int i] ∧ i.natAbs.log2 < 1920 ∧ Q (.str (toString i)) H) ∨ (∃ b : Bool, xs = [.bl b] ∧ Q (.str (if b then "True" else "False")) H) ∨ (xs = [.non] ∧ Q (.str "None") H) ∨
  ∃ a : Addr, xs = [.ref a] ∧ H a = some (.dK []) ∧ Q (.str (PyData.dict []).shown) H
/-- the same, closed -/
structure rRepr (K : PySem.W.Frag) (xs : List V) (H : Hp) (Q : VK) : Prop where
  is : rReprD K xs H Q
theorem call_repr (hg : X.A.guards = some []) (hu : X.A.units + 64 < cLine) : CallR X (.builtin "repr") (rRepr X.K) := by
  intro pins s σ H xs us Q I r h
  rcases h.is with ⟨a, d, rfl, hd, h1, h2, h3, h4, q⟩ | ⟨i, rfl, hz, q⟩ | ⟨b, rfl, q⟩ | ⟨rfl, q⟩ | ⟨a, rfl, hd, q⟩
  · obtain ⟨u, rfl, rx⟩ := vals1 r
    obtain ⟨as, rd⟩ := Dp.reads I d _ _ hd rx
    obtain rfl : u = Value.ref a := rx
    exact repr_of_reads' rd h1 (PyData.noDict_hsm h2) hg (by omega) (fun _ _ e => e) (fun h' u' tk hk => ⟨.str d.shown, H, I.kept hk, ⟨_, rfl⟩, q⟩) h4
  · obtain ⟨u, rfl, t, rfl⟩ := vals1 r
    exact PySem.P.repr_of_int hz ⟨.str _, H, I.tok _, ⟨_, rfl⟩, q⟩
  · obtain ⟨u, rfl, rx⟩ := vals1 r
    obtain rfl : u = Value.bool b := rx
    exact PySem.P.repr_of_bool ⟨.str _, H, I.tok _, ⟨_, rfl⟩, q⟩
  · obtain ⟨u, rfl, rx⟩ := vals1 r
    obtain rfl : u = Value.none := rx
    exact PySem.P.repr_of_none ⟨.str _, H, I.tok _, ⟨_, rfl⟩, q⟩
  · obtain ⟨u, rfl, rx⟩ := vals1 r
    obtain rfl : u = Value.ref a := rx
    obtain ⟨_, ns, vs, kv, dd⟩ := dk_of I.hok hd
    cases kv
    obtain ⟨o, n, es, ho, hc, hdat, hes⟩ : ∃ (o : Obj) (n : Nat) (es : Array DictEntry), s.heap.get? a = some o ∧ o.cls = .type "dict" ∧ o.data = .dict es n ∧ es = #[] := by
      obtain ⟨o, es, ep, ho, ex, hdat, _, pr, _⟩ := dd
      refine ⟨o, ep, es, ho, ex.1, hdat, ?_⟩
      have : es.toList = [] := by
        cases e : es.toList with
        | nil => rfl
        | cons y ys => rw [e] at pr; cases pr
      exact Array.toList_eq_nil_iff.mp this
    subst hes
    have rd : Reads s.heap (.ref a) (.dict []) (a :: [] ++ []) := .dict ho hc hdat .nil .nil
    exact repr_of_reads' rd (by decide) (fun _ hm => by simp at hm; rw [hm] at ns; simp at ns) hg (by have : (PyData.dict []).depth = 1 := rfl; omega) (fun _ _ e => e) (fun h' u' tk hk => ⟨.str _, H, I.kept hk, ⟨_, rfl⟩, q⟩) (by decide +kernel)
end
end Ew

set_option Elab.async false
set_option linter.all false
set_option maxRecDepth 100000
set_option maxHeartbeats 4000000
namespace Ew
open PySem PySem.Spec PyProof.Rows L2
/-! ### an own class that is asked by [ ], in, len -/
section
variable {X : Cx} {CX : CXT} {k : Nat} {f C : Addr} {fd : FuncData} {ps : List Str} {sp : Sp} {E : L2.St → XK} {a b : Expr} {ta tb : TE} {pos : Pos}
/-- a call one step further in -/
theorem run_fn1 {pins : List (Addr × Obj)} {σ : L2.St} {H : Hp} {s : Shared} {Q : VK} {us : List Value} {vs : List V} {E0 : XK} (F : FnOk X.prog X.w X.K X.mg X.base CX k f fd ps sp) (hr : Room (k + 1) X.A) (hb : Binds X.K fd ps []) (hx : PassesAt CX X σ E0)
    (I : Inv X pins σ H s) (r : Vals vs us) (h : sp vs H Q E0) : wpAny (model X.prog X.w) X.A.in1 (call (.ref f) us) (EP X pins σ Q) X.xe s := by
  have hl : us.length = ps.length := by rw [← r.length]; exact F.len _ _ _ _ h
  have b := hb s us I.kIn (by rw [List.append_nil]; exact hl)
  rw [List.append_nil] at b
  refine wpAny_call (codeAny_mono (F.run X.A.in1 X.stack s H ⟨us, []⟩ us vs Q E0 hr.in1 I.env0.in1 b r h) fun r s' hq => ?_)
  cases r with
  | error e => exact hx pins H s e s' I hq
  | ok fl =>
    cases fl with
    | ret u => exact I.after hq
    | next => exact False.elim hq
    | brk => exact False.elim hq
    | cont => exact False.elim hq
def tIxO (C : Addr) (sp : Sp) (E : L2.St → XK) (ta tb : TE) : TE := fun σ H Q => ta σ H fun x H1 => tb σ H1 fun y H2 => ∃ p dx fs, x = .ref p ∧ H2 p = some (.ins C dx fs) ∧ sp [x, y] H2 Q (E σ)
/-- o[k], o of an own class -/
theorem pe_ixO (F : FnOk X.prog X.w X.K X.mg X.base CX k f fd ps sp) (hr : Room (k + 1) X.A) (M : OpM X.K C "__getitem__" f) (hf : PySem.W.fnIn X.K f = true) (hb : Binds X.K fd ps []) (hx : ∀ σ, PassesAt CX X σ (E σ)) (h1 : PE X a ta) (h2 : PE X b tb)
    (hsl : ∀ x i, subscripted b true (.ref x) i = runValue (.builtin "lifetime.subscript" ⟨[.ref x, i], []⟩)) : PE X (.Subscript a b pos) (tIxO C sp E ta tb) := by
  refine ⟨fun pins s σ H Q I h => Subscript_ (bin h1 h2 I h fun v u s2 x y H2 I2 rx ry q => ?_)⟩
  obtain ⟨p, dx, fs, rfl, e1, q⟩ := q
  cases rx
  obtain ⟨o1, J1⟩ := ins_at I2 e1
  obtain ⟨m, fr⟩ := I2.fr
  exact PySem.W.sub_K fr I2.ok.mod.kin J1 M.at_ hf M.fn (run_fn1 (vs := [.ref p, y]) F hr hb (hx σ) I2 (.cons rfl (.cons ry .nil)) q) (hsl _ _)
def tInO (C : Addr) (sp : Sp) (neg : Bool) (E : L2.St → XK) (ta tb : TE) : TE := fun σ H Q => ta σ H fun x H1 => tb σ H1 fun y H2 => ∃ p dx fs, y = .ref p ∧ H2 p = some (.ins C dx fs) ∧ sp [y, x] H2 (fun z H3 => ∃ r : Bool, z = .bl r ∧ Q (.bl (if neg = true then !r else r)) H3) (E σ)
theorem pc_inO (F : FnOk X.prog X.w X.K X.mg X.base CX k f fd ps sp) (hr : Room k X.A) (M : OpM X.K C "__contains__" f) (hb : Binds X.K fd ps []) (hx : ∀ σ, PassesAt CX X σ (E σ)) (h1 : PE X a ta) (h2 : PE X b tb) : PC X .In a b (tInO C sp false E ta tb) := by
  refine ⟨fun pins s σ H Q I h => bin h1 h2 I h fun v u s2 x y H2 I2 rx ry q => ?_⟩
  obtain ⟨p, dx, fs, rfl, e1, q⟩ := q
  cases ry
  obtain ⟨o1, J1⟩ := ins_at I2 e1
  obtain ⟨m, fr⟩ := I2.fr
  refine PySem.W.in_K fr I2.ok.mod.kin J1 M.at_ M.fn (thn (run_fnS (vs := [.ref p, x]) F hr hb (hx σ) I2 (.cons rfl (.cons rx .nil)) q) fun w s3 z => ?_)
  obtain ⟨v3, H3, I3, r3, t, rfl, q3⟩ := z
  cases r3
  exact wpAny_truthy_bool ⟨.bl t, H3, I3, rfl, q3⟩
theorem pc_ninO (F : FnOk X.prog X.w X.K X.mg X.base CX k f fd ps sp) (hr : Room k X.A) (M : OpM X.K C "__contains__" f) (hb : Binds X.K fd ps []) (hx : ∀ σ, PassesAt CX X σ (E σ)) (h1 : PE X a ta) (h2 : PE X b tb) : PC X .NotIn a b (tInO C sp true E ta tb) := by
  refine ⟨fun pins s σ H Q I h => bin h1 h2 I h fun v u s2 x y H2 I2 rx ry q => ?_⟩
  obtain ⟨p, dx, fs, rfl, e1, q⟩ := q
  cases ry
  obtain ⟨o1, J1⟩ := ins_at I2 e1
  obtain ⟨m, fr⟩ := I2.fr
  refine PySem.W.notIn_K fr I2.ok.mod.kin J1 M.at_ M.fn (thn (run_fnS (vs := [.ref p, x]) F hr hb (hx σ) I2 (.cons rfl (.cons rx .nil)) q) fun w s3 z => ?_)
  obtain ⟨v3, H3, I3, r3, t, rfl, q3⟩ := z
  cases r3
  exact wpAny_truthy_bool ⟨.bl (!t), H3, I3, rfl, q3⟩
/-- len(o), o of an own class; nothing is let out -/
def rLenO (C : Addr) (sp : Sp) (E0 : XK) : List V → Hp → VK → Prop := fun xs H Q => ∃ p dx fs, xs = [.ref p] ∧ H p = some (.ins C dx fs) ∧ sp [.ref p] H (fun z H3 => ∃ n : Int, z = .int n ∧ 0 ≤ n ∧ n < 2 ^ 63 ∧ Q (.int n) H3) E0
theorem call_lenO {E0 : XK} (F : FnOk X.prog X.w X.K X.mg X.base CX k f fd ps sp) (hr : Room (k + 1) X.A) (M : OpM X.K C "__len__" f) (hb : Binds X.K fd ps []) (hx : ∀ σ, PassesAt CX X σ E0) : CallR X (.builtin "len") (rLenO C sp E0) := by
  intro pins s σ H xs us Q I r h
  obtain ⟨p, dx, fs, rfl, e1, q⟩ := h
  obtain ⟨u, rfl, rx⟩ := vals1 r
  cases rx
  obtain ⟨o1, J1⟩ := ins_at I e1
  obtain ⟨m, fr⟩ := I.fr
  refine PySem.W.len_K fr I.ok.mod.kin J1 M.at_ M.fn (thn (run_fn1 (vs := [.ref p]) F hr hb (hx σ) I (.cons rfl .nil) q) fun w s3 z => ?_)
  obtain ⟨v3, H3, I3, r3, n, rfl, n0, n1, q3⟩ := z
  obtain ⟨t, rfl⟩ := r3
  exact ⟨⟨n0, n1⟩, .int n, H3, I3.tok _, ⟨_, rfl⟩, q3⟩
end
end Ew

set_option Elab.async false
set_option linter.all false
set_option maxRecDepth 100000
set_option maxHeartbeats 4000000
namespace Ew
open PySem PySem.Spec PyProof.Rows L2
/-! ### an own == with anything at its right -/
/-- what stands to the right: another of the class, a list, a tuple, a text, a number, a truth value, None -/
def RhsAny (K : PySem.W.Frag) (C : Addr) (H : Hp) (y : V) : Prop := y = .non ∨ (∃ b, y = .bl b) ∨ (∃ i, y = .int i) ∨ (∃ z, y = .str z) ∨ ∃ q, y = .ref q ∧ ((∃ dy gs, H q = some (.ins C dy gs)) ∨ (∃ ys, SqL K H q ys) ∨ ∃ ys, SqT K H q ys)
/-- none of these kinds comes ahead of the class -/
def NoFirst (K : PySem.W.Frag) (C : Addr) : Prop := ∀ T ∈ (["NoneType", "bool", "int", "str", "list", "tuple"] : List String), PySem.W.notFirst K C (.type T) = true
section
variable {X : Cx} {CX : CXT} {k : Nat} {f C : Addr} {fd : FuncData} {ps : List Str} {sp : Sp} {E : L2.St → XK} {a b : Expr} {ta tb : TE} {pos : Pos}
def tEqA (K : PySem.W.Frag) (C : Addr) (sp : Sp) (E : L2.St → XK) (ta tb : TE) : TE := fun σ H Q => ta σ H fun x H1 => tb σ H1 fun y H2 => ∃ p dx fs, x = .ref p ∧ H2 p = some (.ins C dx fs) ∧ RhsAny K C H2 y ∧ sp [x, y] H2 Q (E σ)
theorem looks_val {M : Model} {h : Heap} {v : Value} {T : String} (ht : ∀ s : Shared, s.TypeIs v T) : PySem.W.Looks M h (typeOf v) (.type T) := fun A Q E s _ z => wpAny_typeOf (ht s) z
theorem pc_eqA (F : FnOk X.prog X.w X.K X.mg X.base CX k f fd ps sp) (hr : Room k X.A) (M : OpM X.K C "__eq__" f) (ht : NoFirst X.K C) (hb : Binds X.K fd ps []) (hx : ∀ σ, PassesAt CX X σ (E σ))
    (h1 : PE X a ta) (h2 : PE X b tb) : PC X .Eq a b (tEqA X.K C sp E ta tb) := by
  refine ⟨fun pins s σ H Q I h => bin h1 h2 I h fun v u s2 x y H2 I2 rx ry q => ?_⟩
  obtain ⟨p, dx, fs, rfl, e1, r, q⟩ := q
  cases rx
  obtain ⟨o1, J1⟩ := ins_at I2 e1
  obtain ⟨m, fr⟩ := I2.fr
  have run := thn (run_fnS (vs := [.ref p, y]) F hr hb (hx σ) I2 (.cons rfl (.cons ry .nil)) q) fun _ _ z => back_of z
  show wpAny _ _ (richCompare .Eq (.ref p) u) _ _ _
  rcases r with rfl | ⟨c, rfl⟩ | ⟨i, rfl⟩ | ⟨z, rfl⟩ | ⟨q', rfl, r⟩
  · obtain rfl : u = Value.none := ry
    exact PySem.W.cmp_K (op := .Eq) hr.units0 fr I2.ok.mod.kin J1 (looks_val fun s => rfl) (ht "NoneType" (by simp)) M.at_ M.fn run
  · obtain rfl : u = Value.bool c := ry
    exact PySem.W.cmp_K (op := .Eq) hr.units0 fr I2.ok.mod.kin J1 (looks_val fun s => rfl) (ht "bool" (by simp)) M.at_ M.fn run
  · obtain ⟨t, rfl⟩ := ry
    exact PySem.W.cmp_K (op := .Eq) hr.units0 fr I2.ok.mod.kin J1 (looks_val fun s => rfl) (ht "int" (by simp)) M.at_ M.fn run
  · obtain ⟨t, rfl⟩ := ry
    exact PySem.W.cmp_K (op := .Eq) hr.units0 fr I2.ok.mod.kin J1 (looks_val fun s => rfl) (ht "str" (by simp)) M.at_ M.fn run
  · cases ry
    rcases r with ⟨dy, gs, e2⟩ | ⟨ys, e2⟩ | ⟨ys, e2⟩
    · obtain ⟨o2, J2⟩ := ins_at I2 e2
      exact PySem.W.cmp_K (op := .Eq) hr.units0 fr I2.ok.mod.kin J1 J2.type (by simp [PySem.W.notFirst]) M.at_ M.fn run
    · obtain ⟨its, rv, ⟨o, n, ho, hc, _⟩, _⟩ := I2.list e2
      exact PySem.W.cmp_K (op := .Eq) hr.units0 fr I2.ok.mod.kin J1 (fun A' Q' E' s' kp z => wpAny_typeOf_ref (kp _ _ ho) (by rw [hc]; exact z)) (ht "list" (by simp)) M.at_ M.fn run
    · obtain ⟨its, rv, ⟨o, ho, hc, _⟩, _⟩ := I2.tuple e2
      exact PySem.W.cmp_K (op := .Eq) hr.units0 fr I2.ok.mod.kin J1 (fun A' Q' E' s' kp z => wpAny_typeOf_ref (kp _ _ ho) (by rw [hc]; exact z)) (ht "tuple" (by simp)) M.at_ M.fn run
end
/-! ### the class's own methods, by their promises -/
structure OwC (P : Program) (w : World) (K : PySem.W.Frag) (mg : Str → Option Value) (base : Heap) (k : Nat) (C : Addr) (m : Str) (ps : List Str) (sp : Sp) : Prop where
  ex : ∃ f fd, OpM K C m f ∧ PySem.W.fnIn K f = true ∧ FnOk P w K mg base (L2.CX P w) k f fd ps sp ∧ Binds K fd ps []
section
variable {X : Cx} {k j : Nat} {C : Addr} {ps : List Str} {sp : Sp} {e1 e2 : Expr} {ta tb : TE} {pos : Pos} {W : WX}
theorem pe_ixC (c : OwC X.prog X.w X.K X.mg X.base k C "__getitem__" ps sp) (tk : Takes X W) (hr : Room j X.A) (hk : k + 1 ≤ j) (h1 : PE X e1 ta) (h2 : PE X e2 tb)
    (hsl : ∀ x i, subscripted e2 true (.ref x) i = runValue (.builtin "lifetime.subscript" ⟨[.ref x, i], []⟩)) : PE X (.Subscript e1 e2 pos) (tIxO C sp (WE W) ta tb) := by
  obtain ⟨f, fd, M, hf, F, hb⟩ := c.ex
  exact pe_ixO F (hr.mono hk) M hf hb (fun σ => passAt tk σ) h1 h2 hsl
theorem pc_inC (c : OwC X.prog X.w X.K X.mg X.base k C "__contains__" ps sp) (tk : Takes X W) (hr : Room j X.A) (hk : k ≤ j) (h1 : PE X e1 ta) (h2 : PE X e2 tb) : PC X .In e1 e2 (tInO C sp false (WE W) ta tb) := by
  obtain ⟨f, fd, M, hf, F, hb⟩ := c.ex
  exact pc_inO F (hr.mono hk) M hb (fun σ => passAt tk σ) h1 h2
theorem pc_ninC (c : OwC X.prog X.w X.K X.mg X.base k C "__contains__" ps sp) (tk : Takes X W) (hr : Room j X.A) (hk : k ≤ j) (h1 : PE X e1 ta) (h2 : PE X e2 tb) : PC X .NotIn e1 e2 (tInO C sp true (WE W) ta tb) := by
  obtain ⟨f, fd, M, hf, F, hb⟩ := c.ex
  exact pc_ninO F (hr.mono hk) M hb (fun σ => passAt tk σ) h1 h2
theorem pc_eqC (c : OwC X.prog X.w X.K X.mg X.base k C "__eq__" ps sp) (ht : NoFirst X.K C) (tk : Takes X W) (hr : Room j X.A) (hk : k ≤ j) (h1 : PE X e1 ta) (h2 : PE X e2 tb) : PC X .Eq e1 e2 (tEqA X.K C sp (WE W) ta tb) := by
  obtain ⟨f, fd, M, hf, F, hb⟩ := c.ex
  exact pc_eqA F (hr.mono hk) M ht hb (fun σ => passAt tk σ) h1 h2
theorem call_lenC (c : OwC X.prog X.w X.K X.mg X.base k C "__len__" ps sp) (hr : Room j X.A) (hk : k + 1 ≤ j) : CallR X (.builtin "len") (rLenO C sp E0) := by
  obtain ⟨f, fd, M, hf, F, hb⟩ := c.ex
  exact call_lenO F (hr.mono hk) M hb fun σ pins H s e s' I h => passL pins σ H s e s' I h
end
end Ew

set_option Elab.async false
set_option linter.all false
set_option maxRecDepth 100000
set_option maxHeartbeats 4000000
namespace Ew
open PySem PySem.Spec PyProof.Rows L2
/-! ### a def that an except suite calls with the error it holds; nothing leaves it but by return -/
section
variable {P : Program} {w : World} {K : PySem.W.Frag} {mg : Str → Option Value} {base : Heap}
/-- the error at a, of the class cls, its dict d -/
abbrev SpE := Addr → Value → Option Addr → Sp
structure FnE (P : Program) (w : World) (K : PySem.W.Frag) (mg : Str → Option Value) (base : Heap) (k : Nat) (f : Addr) (fd : FuncData) (ps : List Str) (sp : SpE) : Prop where
  len : ∀ a cls d vs H Q E, sp a cls d vs H Q E → vs.length = ps.length
  go : ∀ (A : Around) (outer : List Env) (s : Shared) (H : Hp) (args : Args) (us : List Value) (vs : List V) (Q : VK) (E : XK) (a : Addr) (oe : Obj) (cls : Value) (d : Option Addr), A.guards = some [] → A.handled = some (.ref a) → Zc cls d oe → (∃ vs, oe.data = .fields vs) →
    L2H.RoomH k A → L2H.PinOk outer H s (a, oe) → Env0 P w K mg base A outer s H → BindsTo s fd args (ps.zip us) → Vals vs us → sp a cls d vs H Q E → codeAny (model P w) A (.call (.ref f) args) (CR (L2.CX P w) outer P w H s Q E) s
def BodyE (P : Program) (w : World) (K : PySem.W.Frag) (mg : Str → Option Value) (base : Heap) (N : List Str) (qual : Str) (st : Stmt) (k : Nat) (sp : SpE) : Prop :=
  ∀ (f : Addr) (cdv : Value) (A : Around) (outer : List Env) (s : Shared) (H : Hp) (vs : List V) (Q : VK) (E : XK) (a : Addr) (oe : Obj) (cls : Value) (d : Option Addr), (cxB P w K mg base N qual st f cdv A outer s H E).A.guards = some [] → Zc cls d oe → (∃ vs, oe.data = .fields vs) →
    L2H.RoomH k (cxB P w K mg base N qual st f cdv A outer s H E).A → sp a cls d vs H Q E →
    ∃ t, PSs ((cxB P w K mg base N qual st f cdv A outer s H E).suite a [(a, oe)]) (defBody st) t ∧ t { nx := fun _ H' => Q .non H', rt := Q } (start N vs) H
theorem mark_same {A : Around} {h : Option Value} (e : A.handled = h) : A.mark h = A := by
  subst e
  obtain ⟨h, d, fr, g, u⟩ := A
  cases h <;> rfl
theorem fun_hot {x qual : Str} {st : Stmt} {f : Addr} {fd : FuncData} {ps N : List Str} {k : Nat} {sp : SpE} (F : Fun K x qual st f fd) (S : FnScope N ps (defScope st)) (len : ∀ a cls d vs H Q E, sp a cls d vs H Q E → vs.length = ps.length) (h : BodyE P w K mg base N qual st k sp) :
    FnE P w K mg base (k + 1) f fd ps sp := by
  obtain ⟨oc, od, kV, doc, pm, an, cdv, ct, osl, rfl, lk, hcd⟩ := F.ex
  refine ⟨len, ?_⟩
  intro A outer s H args us vs Q E a oe cls d hg hh hz hf room pin e0 bind rel ask
  have many := len _ _ _ _ _ _ _ ask
  have kept : ∀ b o, base.get? b = some o → s.heap.get? b = some o := fun b o e => (e0.bs b o e).1
  have KX : K.In s.heap := e0.mod.kin.keeps kept
  have locals_ : ∀ y ∈ ps.zip us, (defScope st).names.lookup y.1 = some .local ∨ ((defScope st).names.lookup y.1 = some .cell ∧ ((cellsFrom (s.heap.objs.size + 1) (defScope st).names []).lookup y.1).isSome = true) := by
    rintro ⟨nm, v⟩ hy
    refine (S.par nm (List.of_mem_zip hy).1).imp id fun q => ⟨q, ?_⟩
    exact PySem.W.cellsFrom_some _ _ _ (.inl q)
  refine codeAny_call_function room.depth (KX _ _ lk) rfl S.co S.gen rfl (PySem.W.codeRec_of KX hcd) (bind _ _ _ _ ?_)
  refine wpAny_newFunctionEnv_cells S.kind locals_ ?_
  rintro env rfl s1 x
  refine ⟨(e0.mod.nolimit.keeps kept).keeps x.toInCall.keep, codeAny_func ?_⟩
  obtain ⟨t, ht, goal⟩ := h f cdv A outer s H vs Q E a oe cls d hg hz hf (room.deeper _) ask
  have J := L2H.inv_startH (CX := L2.CX P w) (E := E) (f := f) (cd := cdv) (qual := qual) S pin e0 many rel x
  have ok := J.ok
  have I : Inv ((cxB P w K mg base N qual st f cdv A outer s H E).suite a [(a, oe)]) [] (start N vs) H s1 :=
    ⟨⟨ok.mod, ok.kind, ok.glob, ok.blt, ok.above, ok.inj, ok.has, ok.cab, fun z => Bool.noConfusion (show false = true from z), ok.frames, ok.stk, ok.exf, ok.bs, ok.bsz, ok.noex, ok.exfs, ok.funs, ok.frf⟩, J.os, J.bare, J.base, J.loc, J.cell, J.free, J.freeC, J.pin, J.hok, J.len⟩
  have r := ht.run [] s1 (start N vs) H _ I goal
  have same : ((cxB P w K mg base N qual st f cdv A outer s H E).suite a [(a, oe)]).A = (cxB P w K mg base N qual st f cdv A outer s H E).A := mark_same hh
  rw [same] at r
  refine wpAny_mono r ?_ fun e s' z => z.elim
  intro fl s' end_
  match fl, end_ with
  | .ret u, ⟨v, σ', H', J, rv, q⟩ => exact ⟨v, H', J.os, J.bare, J.base, J.hok, rv, q⟩
  | .next, ⟨σ', H', J, q⟩ => exact ⟨.non, H', J.os, J.bare, J.base, J.hok, rfl, q⟩
  | .brk, ⟨_, _, _, q⟩ => exact q.elim
  | .cont, ⟨_, _, _, q⟩ => exact q.elim
structure ClE (P : Program) (w : World) (K : PySem.W.Frag) (mg : Str → Option Value) (base : Heap) (k : Nat) (x : Str) (ps : List Str) (sp : SpE) : Prop where
  ex : ∃ f fd, FnE P w K mg base k f fd ps sp ∧ mg x = some (.ref f) ∧ PySem.W.keepIn K (.ref f) = true ∧ Binds K fd ps []
theorem DefAt.clE {x : Str} {st : Stmt} {ps N : List Str} {k : Nat} {sp : SpE} (D : DefAt K mg x st ps) (S : FnScope N ps (defScope st)) (len : ∀ a cls d vs H Q E, sp a cls d vs H Q E → vs.length = ps.length) (h : BodyE P w K mg base N x st k sp) : ClE P w K mg base (k + 1) x ps sp := by
  obtain ⟨f, fd, F, g, b⟩ := D.ex
  exact ⟨f, fd, fun_hot F S len h, g, F.kp, b⟩
end
section
variable {X : Cx} {k j : Nat} {x : Str} {ps : List Str} {sp : SpE} {e : Expr} {es : List Expr} {t : TA} {p pos : Pos} {a : Addr} {oe : Obj} {cls : Value} {d : Option Addr} {pn : List (Addr × Obj)}
theorem pe_fE (hg0 : X.A.guards = some []) (c : ClE X.prog X.w X.K X.mg X.base k x ps sp) (hz : Zc cls d oe) (hf : ∃ vs, oe.data = .fields vs) (hr : Room j X.A) (hk : k ≤ j) (hg : Gl X x) (ha : PA (X.suite a ((a, oe) :: pn)) (e :: es) t) (hdb : (x == ("__debug__" : Str)) = false := by decide)
    (he : starEach (e :: es) X.env = (false, eval e X.env) :: starEach es X.env := by rfl) (hpl : (backTo pos (starEach es X.env)).any (·.1) = false := by rfl) : PE (X.suite a ((a, oe) :: pn)) (.Call (.Name x p) (e :: es) [] pos) (tCall (sp a cls d) [] E0 t) := by
  obtain ⟨f, fd, F, hm, hkp, hb⟩ := c.ex
  have hr := hr.mono hk
  refine ⟨fun pins s σ H Q I h => wpAny_Call_Name_kw (ld_glob I hg hm (PySem.W.callWith_K (h₀ := X.base) I.ok.mod.kin hkp (thn (ha.run pos pins s σ H _ I h) fun us s1 ⟨vs, H1, I1, r, q⟩ => ⟨I1.kIn, ?_⟩) he hpl) hdb)⟩
  have r2 := r.append (.nil : Vals [] [])
  have hl : (us ++ []).length = ps.length := by rw [← r2.length]; exact F.len _ _ _ _ _ _ _ q
  have P1 := I1.pin (a, oe) (List.mem_append_left _ List.mem_cons_self)
  have pin : L2H.PinOk X.stack H1 s1 (a, oe) := ⟨P1.1, P1.2.1, fun hm => (List.mem_cons.mp (I1.stkSub a hm)).elim P1.2.2.1 P1.2.2.2.1, P1.2.2.2.2⟩
  refine wpAny_call (codeAny_mono (F.go _ X.stack s1 H1 ⟨us, []⟩ (us ++ []) (vs ++ []) Q E0 a oe cls d hg0 rfl hz hf ⟨hr.dp, hr.un⟩ pin I1.env0 (hb s1 us I1.kIn hl) r2 q) fun y s' hq => ?_)
  match y, hq with
  | .error e, hq => exact passL pins σ H1 s1 e s' I1 hq
  | .ok (.ret u), hq => exact I1.after hq
end
end Ew

set_option Elab.async false
set_option linter.all false
set_option maxRecDepth 100000
set_option maxHeartbeats 4000000
namespace Ew
open PySem PySem.Spec PyProof.Rows L2
/-! ### a new instance whose __init__ may let an error out, at the slots where it is made -/
section
variable {X : Cx} {k j : Nat} {x : Str} {C : Addr} {ps : List Str} {sp : Sp} {e : Expr} {es : List Expr} {t : TA} {p pos : Pos} {W : WX}
def tMkW (C : Addr) (sp : Sp) (W : WX) (t : TA) : TE := fun σ H Q => t σ H fun vs H1 => ∀ o d, H1 o = none → H1 d = none → d ≠ o →
  sp (.ref o :: vs) (upd (upd H1 d (.own o)) o (.ins C d [])) (fun v H2 => v = .non ∧ Q (.ref o) H2) (WE W σ)
theorem pe_mkW (c : Mkr X.prog X.w X.K X.mg X.base k x C ps sp) (tk : Takes X W) (hr : Room j X.A) (hk : k + 1 ≤ j) (hg : Gl X x) (ha : PA X (e :: es) t) (hdb : (x == ("__debug__" : Str)) = false := by decide)
    (he : starEach (e :: es) X.env = (false, eval e X.env) :: starEach es X.env := by rfl) (hpl : (backTo pos (starEach es X.env)).any (·.1) = false := by rfl) : PE X (.Call (.Name x p) (e :: es) [] pos) (tMkW C sp W t) := by
  obtain ⟨f, fd, M, F, hb⟩ := c.ex
  have room : Room (k + 1) X.A := hr.mono hk
  refine ⟨fun pins s σ H Q I h => wpAny_Call_Name_kw (ld_glob I hg c.gC (PySem.W.callWith_K (h₀ := X.base) I.ok.mod.kin M.kp (thn (ha.run pos pins s σ H _ I h) fun us s1 z => ?_) he hpl) hdb)⟩
  obtain ⟨vs, H1, J, r, q⟩ := z
  refine ⟨J.kIn, ?_⟩
  have ask := q (s1.heap.objs.size + 1) s1.heap.objs.size (J.hok.fresh (Nat.le_succ _)) (J.hok.fresh (Nat.le_refl _)) (Nat.ne_of_lt (Nat.lt_succ_self _))
  have both : Vals (V.ref (s1.heap.objs.size + 1) :: vs) (Value.ref (s1.heap.objs.size + 1) :: us) := .cons rfl r
  have many : (Value.ref (s1.heap.objs.size + 1) :: us).length = ps.length := both.length ▸ F.len _ _ _ _ ask
  have J2 := Inv.made (C := C) J
  have bind := hb _ (Value.ref (s1.heap.objs.size + 1) :: us) J2.kIn (by rw [List.append_nil]; exact many)
  rw [List.append_nil] at bind
  have go := F.run _ X.stack _ _ ⟨Value.ref (s1.heap.objs.size + 1) :: us, []⟩ _ _ _ _ (room.make C us []) (J2.env0.make C us []) bind both ask
  refine wpAny_call (make_map (f := f) J.kIn M.makes M.init (beq_iff_eq.mp M.fn) (codeAny_mono go fun y s' end_ => ?_))
  match y, end_ with
  | .error e, end_ => exact passAt tk σ pins _ _ e s' J2 end_
  | .ok (.ret u), end_ =>
    obtain ⟨v, H', J3, rv, rfl, q3⟩ := J2.after end_
    exact ⟨rv, .ref _, H', J3, rfl, q3⟩
end
end Ew

set_option Elab.async false
set_option linter.all false
set_option maxRecDepth 100000
set_option maxHeartbeats 4000000
namespace Ew
open PySem PySem.Spec PyProof.Rows L2
/-! ### a walk over an own class whose __iter__ hands iter of a dict of its own -/
/-- what is known behind such a call -/
def KI (outer : List Env) (P : Program) (w : World) (H : Hp) (s : Shared) (d : Addr) (n ep : Nat) (u : Value) (s' : Shared) : Prop :=
  ∃ (it : Addr) (H' : Hp), u = .ref it ∧ H' = H ∧ s'.os = s.os ∧ AllBare s'.gens ∧ Un (frs outer) [] H H' s.heap s'.heap ∧ HOk P w H' s'.heap ∧ H' it = none ∧ s.heap.objs.size ≤ it ∧ s'.heap.IsKeyIter it d 0 n ep
def KR (outer : List Env) (P : Program) (w : World) (H : Hp) (s : Shared) (d : Addr) (n ep : Nat) (r : Result) (s' : Shared) : Prop :=
  match r with
  | .ok (.ret u) => KI outer P w H s d n ep u s'
  | .ok _ => False
  | .error e => L2.CX P w outer H s E0 e s'
section
variable {P : Program} {w : World} {K : PySem.W.Frag} {mg : Str → Option Value} {base : Heap}
structure FnI (P : Program) (w : World) (K : PySem.W.Frag) (mg : Str → Option Value) (base : Heap) (k : Nat) (f : Addr) (fd : FuncData) (C : Addr) (at_ : Str) : Prop where
  go : ∀ (A : Around) (outer : List Env) (s : Shared) (H : Hp) (args : Args) (a dx d : Addr) (fs : List (Str × V)) (o : Obj) (kvs : List (List Key × V)) (es : Array DictEntry) (ep : Nat), Room k A → Env0 P w K mg base A outer s H → BindsTo s fd args ([("self", .ref a)]) →
    H a = some (.ins C dx fs) → fs.lookup at_ = some (.ref d) → H d = some (.frz o (.dT kvs)) → o.data = .dict es ep →
    codeAny (model P w) A (.call (.ref f) args) (KR outer P w H s d kvs.length ep) s
theorem call_iter_dict {prog : Program} {A : Around} {E : Value → Shared → Prop} {s : Shared} {d : Addr} {o : Obj} {es : Array DictEntry} {ep : Nat} {Q : Value → Shared → Prop} (hd : (d == sysModules) = false) (ho : s.heap.get? d = some o) (hc : o.ExactDict) (hdat : o.data = .dict es ep)
    (hQ : Q (.ref s.heap.objs.size) { s with heap := s.heap.push { cls := .type "dict_keyiterator", data := .fields #[.ref d, .int 0 0, .int es.size 0, .int ep 0] } }) : wpAny (model prog w) A (call (.builtin "iter") [.ref d]) Q E s := by
  refine Calls.call_function_entry (by decide +kernel) (by decide +kernel) PySem.W.kdk_entry_iter (PySem.W.kdk_args_iter _) ?_
  unfold Builtin.«iter»
  refine wpAny_bind (m := someArgs "iter" 1 2 _) (wpAny_of_eq (a := [Value.ref d]) (by first | rfl | kernel_rfl!) ?_)
  show wpAny _ _ (pyIter (.ref d) >>= _) _ _ _
  refine wpAny_bind (iter_keys hd ho hc hdat ?_)
  exact wpAny_pure ⟨_, rfl, hQ⟩
theorem fun_it {q : Str} {st : Stmt} {f C : Addr} {fd : FuncData} {N : List Str} {k : Nat} {at_ : Str} {ea : Expr} {np cp rp : Pos} (F : Fun K "__iter__" q st f fd) (S : FnScope N ["self"] (defScope st)) (hb : defBody st = [.Return (some (.Call (.Name "iter" np) [ea] [] cp)) rp]) (hm : mg "iter" = none)
    (he : ∀ (cdv : Value) (A : Around) (outer : List Env) (s : Shared) (H : Hp), ∃ te : TE, PE (cxB P w K mg base N q st f cdv A outer s H E0) ea te ∧ Gl (cxB P w K mg base N q st f cdv A outer s H E0) "iter" ∧
      starEach [ea] (cxB P w K mg base N q st f cdv A outer s H E0).env = (false, eval ea (cxB P w K mg base N q st f cdv A outer s H E0).env) :: starEach [] (cxB P w K mg base N q st f cdv A outer s H E0).env ∧
      ∀ (H1 : Hp) (Q : VK) (a dx d : Addr) (fs : List (Str × V)), H1 a = some (.ins C dx fs) → fs.lookup at_ = some (.ref d) → Q (.ref d) H1 → te (start N [.ref a]) H1 Q) :
    FnI P w K mg base (k + 1) f fd C at_ := by
  obtain ⟨oc, od, kV, doc, pm, an, cdv, ct, osl, rfl, lk, hcd⟩ := F.ex
  refine ⟨?_⟩
  intro A outer s H args a dx d fs o kvs es ep room e0 bind ha hl hd hdat
  have kept : ∀ b o, base.get? b = some o → s.heap.get? b = some o := fun b o e => (e0.bs b o e).1
  have KX : K.In s.heap := e0.mod.kin.keeps kept
  have locals_ : ∀ y ∈ ([("self", Value.ref a)] : List (Str × Value)), (defScope st).names.lookup y.1 = some .local ∨ ((defScope st).names.lookup y.1 = some .cell ∧ ((cellsFrom (s.heap.objs.size + 1) (defScope st).names []).lookup y.1).isSome = true) := by
    rintro ⟨nm, v⟩ hy
    have hn : nm ∈ (["self"] : List Str) := by
      rcases List.mem_cons.mp hy with h | h
      · cases h; exact List.mem_cons_self
      · exact absurd h List.not_mem_nil
    refine (S.par nm hn).imp id fun q => ⟨q, ?_⟩
    exact PySem.W.cellsFrom_some _ _ _ (.inl q)
  refine codeAny_call_function room.depth (KX _ _ lk) rfl S.co S.gen rfl (PySem.W.codeRec_of KX hcd) (bind _ _ _ _ ?_)
  refine wpAny_newFunctionEnv_cells S.kind locals_ ?_
  rintro env rfl s1 x
  refine ⟨(e0.mod.nolimit.keeps kept).keeps x.toInCall.keep, codeAny_func ?_⟩
  obtain ⟨te, hpe, hg, hst, hte⟩ := he cdv A outer s H
  have I1 : Inv (cxB P w K mg base N q st f cdv A outer s H E0) [] (start N [.ref a]) H s1 := inv_start (us := [.ref a]) S room.hd e0 rfl (.cons rfl .nil) x
  have main : wpAny (model P w) (cxB P w K mg base N q st f cdv A outer s H E0).A (execs (defBody st) (cxB P w K mg base N q st f cdv A outer s H E0).env) (fun fl s' => ∃ it, fl = .ret (.ref it) ∧ (∃ σ', Inv (cxB P w K mg base N q st f cdv A outer s H E0) [] σ' H s') ∧ H it = none ∧ s.heap.objs.size ≤ it ∧ s'.heap.IsKeyIter it d 0 kvs.length ep) (cxB P w K mg base N q st f cdv A outer s H E0).xe s1 := by
    rw [hb]
    refine wpAny_execs_cons (thn (wpAny_Return_some (Q := fun fl s' => ∃ it, fl = .ret (.ref it) ∧ (∃ σ', Inv (cxB P w K mg base N q st f cdv A outer s H E0) [] σ' H s') ∧ H it = none ∧ s.heap.objs.size ≤ it ∧ s'.heap.IsKeyIter it d 0 kvs.length ep) (wpAny_Call_Name_kw (ld_blt I1 hg hm (by decide +kernel : bootBuiltins "iter" = some (.builtin "iter")) ?_ (by decide) (by decide)))) ?_)
    · refine PyProof.Rows.callWith_builtin1 (thn ((pa_cons hpe pa_nil (hs := hst)).run cp [] s1 (start N [.ref a]) H (fun vs H1 => vs = [.ref d] ∧ H1 = H) I1 (hte H _ a dx d fs ha hl ⟨rfl, rfl⟩)) fun us s2 z => ?_) hst (by rfl)
      obtain ⟨vs, H1, I2, r2, rfl, rfl⟩ := z
      obtain ⟨u, rfl, ru⟩ := vals1 r2
      obtain rfl : u = Value.ref d := ru
      obtain ⟨hs, hgd, hx, es', ep', hdt, hsz, ent⟩ := I2.frzT hd
      obtain ⟨rfl, rfl⟩ := dict_ep hdat hdt
      refine call_iter_dict hs hgd hx hdt ⟨_, rfl, ⟨_, I2.kept (t' := s2.toks) fun b ob e => Heap.get?_push_of_some _ e⟩, I2.hok.fresh (Nat.le_refl _), ?_, ⟨_, Heap.get?_push_size _ rfl, rfl, ?_⟩⟩
      · exact I2.sz
      · rw [hsz]
        rfl
    · rintro fl s' ⟨it, rfl, h⟩
      exact ⟨it, rfl, h⟩
  refine wpAny_mono main ?_ (fun e s' z => z)
  rintro fl s' ⟨it, rfl, ⟨σ', J⟩, h1, h2, h3⟩
  exact ⟨it, H, rfl, rfl, J.os, J.bare, J.base, J.hok, h1, h2, h3⟩
end
/-- an own class with such an __iter__, its promise -/
structure ItrC (P : Program) (w : World) (K : PySem.W.Frag) (mg : Str → Option Value) (base : Heap) (k : Nat) (C : Addr) (at_ : Str) : Prop where
  ex : ∃ f fd, OpM K C "__iter__" f ∧ FnI P w K mg base k f fd C at_ ∧ Binds K fd ["self"] []
section
variable {X : Cx} {tg e : Expr} {td : TE} {C : Addr} {at_ : Str} {k j : Nat}
def iOwn (C : Addr) (at_ : Str) (td : TE) : TI := fun σ H R => td σ H fun x H1 => ∃ a dx fs d o kvs, x = .ref a ∧ H1 a = some (.ins C dx fs) ∧ fs.lookup at_ = some (.ref d) ∧ H1 d = some (.frz o (.dT kvs)) ∧ R (Itkt d o kvs) H1
/-- for k in o, o of an own class -/
theorem pi_own (c : ItrC X.prog X.w X.K X.mg X.base k C at_) (hr : Room j X.A) (hk : k ≤ j) (he : PE X e td) : PI X tg e (iOwn C at_ td) := by
  obtain ⟨f, fd, M, FI, hb⟩ := c.ex
  refine ⟨fun pins s σ H R I h => thn (he.run pins s σ H _ I h) fun u s1 z => ?_⟩
  obtain ⟨x, H1, I1, rx, a, dx, fs, d, o, kvs, rfl, ha, hl, hd, q⟩ := z
  obtain rfl : u = Value.ref a := rx
  obtain ⟨od, J⟩ := ins_at I1 ha
  obtain ⟨m, fr⟩ := I1.fr
  obtain ⟨hs, hgd, hx, es, ep, hdt, hsz, ent⟩ := I1.frzT hd
  have b := hb s1 [.ref a] I1.kIn (by rfl)
  refine PySem.W.owit_iter fr I1.ok.mod.kin J M.at_ M.fn (wpAny_call (codeAny_mono (FI.go X.A X.stack s1 H1 ⟨[.ref a], []⟩ a dx d fs o kvs es ep (hr.mono hk) I1.env0 b ha hl hd hdt) fun r s' hq => ?_))
  match r, hq with
  | .error e, hq => exact passL pins σ H1 s1 e s' I1 hq
  | .ok (.ret u), hq =>
    obtain ⟨it, H', rfl, rfl, os, bare, un, hok, hn, hz, hit⟩ := hq
    obtain ⟨hh, g, dd, t, os'⟩ := s'
    obtain rfl : os' = s1.os := os
    have J2 := I1.call (h' := hh) (g' := g) (d' := dd) (t' := t) (ch := []) un hok bare (fun b z => absurd z (by simp))
    show PySem.W.OwitIt _ _ _ _ _ _
    unfold PySem.W.OwitIt
    refine wpAny_specialOf hit.typeIs PySem.F.slot_dict_keyiterator_next.lookup ?_
    refine ⟨it, [it], _, Itkt d o kvs, _, rfl, J2, turn_keysT it hdt, hit, fun b hb => ?_, q⟩
    have e : b = it := by simpa using hb
    subst e
    exact I1.fpOk hz hn
end
end Ew

set_option Elab.async false
set_option linter.all false
set_option maxRecDepth 100000
set_option maxHeartbeats 4000000
namespace Ew
open PySem PySem.Spec PyProof.Rows L2
/-! ### list(o), o of an own class with __len__, whose __iter__ hands iter of a dict of its own -/
section
variable {P : Program} {w : World} {A : Around} {E : Value → Shared → Prop} {s : Shared} {K : PySem.W.Frag} {a f C : Addr} {ox : Obj} {od : Option Obj}
/-- the length is asked, and some room is made where it is above 0 -/
theorem own_length {Q : Bool → Shared → Prop} (hK : K.In s.heap) (J : PySem.W.InstAt s.heap a ox C od) (M : OpM K C "__len__" f)
    (h : wpAny (model P w) A (call (.builtin "len") [.ref a]) (fun v s' => ∃ (n : Nat) (t : Tok), v = .int n t ∧ n ≤ sizeLine ∧ Q (n != 0) s') (fun _ _ => False) s) : wpAny (model P w) A (Builtin.List.listLengthHint (.ref a)) Q E s := by
  unfold Builtin.List.listLengthHint
  refine wpAny_bind (wpAny_bind (J.type.here ((PySem.W.looks_findIn hK M.at_).here ?_)))
  refine PySem.W.KFB.if_not rfl ?_
  refine wpAny_ite_split (fun _ => ?_) (fun z => absurd (show (some (Value.ref f)).isSome = true from rfl) z)
  refine wpAny_bind (wpAny_rule ?_)
  refine wpAny_bind (wpAny_attempt (wpAny_mono h (fun v s' hv => ?_) fun e s' he => ?_))
  · obtain ⟨n, t, rfl, hn, q⟩ := hv
    refine wpAny_bind (wpAny_pure ?_)
    have hl : Builtin.List.listTooLong ((n : Nat) : Int).toNat = false := by
      unfold Builtin.List.listTooLong
      simpa using hn
    show wpAny _ _ (if Builtin.List.listTooLong ((n : Nat) : Int).toNat = true then _ else pure (((n : Nat) : Int) != 0)) _ _ _
    rw [if_neg (by rw [hl]; decide)]
    refine wpAny_pure ?_
    have e : (((n : Nat) : Int) != 0) = (n != 0) := by
      rw [Bool.eq_iff_iff]
      simp
    rw [e]
    exact q
  · exact he.elim
end
section
variable {X : Cx} {pins : List (Addr × Obj)} {σ : L2.St} {H : Hp} {s : Shared} {k : Nat} {f : Addr} {fd : FuncData} {ps : List Str} {sp : Sp}
/-- somewhere below the running body -/
structure Low (X : Cx) (k : Nat) (A : Around) : Prop where
  room : Room k A
  fr : A.frames = X.A.frames
theorem Low.env0 {A : Around} (l : Low X k A) (I : Inv X pins σ H s) : Env0 X.prog X.w X.K X.mg X.base A X.stack s H := by
  have e := I.env0
  exact ⟨l.fr.trans e.frames, e.mod, e.bs, e.bsz, e.funs, e.frf, e.hok, e.bare⟩
/-- a call there of a def that lets nothing out -/
theorem run_low {A : Around} {Q : VK} {us : List Value} {vs : List V} {E : Value → Shared → Prop} (F : FnOk X.prog X.w X.K X.mg X.base (L2.CX X.prog X.w) k f fd ps sp) (l : Low X k A) (hb : Binds X.K fd ps [])
    (I : Inv X pins σ H s) (r : Vals vs us) (h : sp vs H Q E0) : wpAny (model X.prog X.w) A (call (.ref f) us) (EP X pins σ Q) E s := by
  have many : us.length = ps.length := r.length ▸ F.len _ _ _ _ h
  have bind := hb s us I.kIn (by rw [List.append_nil]; exact many)
  rw [List.append_nil] at bind
  refine wpAny_call (codeAny_mono (F.run A X.stack s H ⟨us, []⟩ us vs Q E0 l.room (l.env0 I) bind r h) fun y s' end_ => ?_)
  match y, end_ with
  | .error e, ⟨_, _, _, _, _, _, _, _, _, _, _, _, bad⟩ => exact bad.elim
  | .ok (.ret u), end_ => exact I.after end_
end
section
variable {X : Cx} {C : Addr} {at_ : Str} {k j : Nat} {sp : Sp}
/-- the keys of such a dict, off a row of addresses -/
theorem keys_row {H : Hp} : ∀ {kvs : List (List Key × V)} {vs : List Value}, vs.length = kvs.length → (∀ (i : Nat) (k : List Key) (v : V), kvs[i]? = some (k, v) → ∃ b : Addr, vs[i]? = some (Value.ref b) ∧ H b = some (.tup (k.map kV))) →
    ∃ bs, IsKeys H kvs bs ∧ vs = bs.map Value.ref ∧ Vals (bs.map V.ref) vs
  | [], [], _, _ => ⟨[], .nil, rfl, .nil⟩
  | (k, v) :: kvs, u :: vs, hl, h => by
    obtain ⟨b, e, hb⟩ := h 0 k v rfl
    obtain rfl : u = .ref b := Option.some.inj e
    obtain ⟨bs, h1, h2, h3⟩ := keys_row (by simpa using hl) fun i k v e => h (i + 1) k v e
    exact ⟨b :: bs, .cons hb h1, by rw [h2]; rfl, .cons rfl h3⟩
def rListC (C : Addr) (at_ : Str) (sp : Sp) : List V → Hp → VK → Prop := fun xs H Q => ∃ a dx fs d o kvs, xs = [.ref a] ∧ H a = some (.ins C dx fs) ∧ fs.lookup at_ = some (.ref d) ∧ H d = some (.frz o (.dT kvs)) ∧
  (∀ q, H q = none → sp [.ref a] (upd H q (.lst [])) (fun z H3 => ∃ n : Nat, z = .int n ∧ n ≤ sizeLine ∧ H3 = upd H q (.lst [])) E0) ∧ ∀ p bs, H p = none → IsKeys H kvs bs → Q (.ref p) (upd H p (.lst (bs.map V.ref)))
theorem call_listC (hc : X.calm = true) (ci : ItrC X.prog X.w X.K X.mg X.base k C at_) (cl : OwC X.prog X.w X.K X.mg X.base k C "__len__" ["self"] sp) (hr : Room j X.A) (hk : k + 3 ≤ j) : CallR X (.type "list") (rListC C at_ sp) := by
  intro pins s σ H xs us Q I r h
  obtain ⟨a, dx, fs, d, o, kvs, rfl, ha, hl, hd, hlen, q⟩ := h
  obtain ⟨u, rfl, rx⟩ := vals1 r
  obtain rfl : u = Value.ref a := rx
  obtain ⟨fi, fdi, Mi, FI, bi⟩ := ci.ex
  obtain ⟨fl, fdl, Ml, _, FL, bl⟩ := cl.ex
  refine callType_codes (Q₁ := fun obj s₁ => obj = .ref s.heap.objs.size ∧ s₁ = { s with heap := s.heap.push { cls := .type "list", data := .seq #[] } }) PySem.F.called_list (PySem.F.typeCall_list_1 _) PySem.F.entry_list_init (code_list_new _ ⟨rfl, rfl⟩) ?_
  rintro obj s1 ⟨rfl, rfl⟩
  have I1 : Inv X pins σ (upd H s.heap.objs.size (.lst [])) { s with heap := s.heap.push { cls := .type "list", data := .seq #[] } } := I.lnew (its := []) (t' := s.toks) .nil (Nat.zero_le _)
  have free := I.fresh
  have pa : a ≠ s.heap.objs.size := ne_of_none ha free
  have pd : d ≠ s.heap.objs.size := ne_of_none hd free
  obtain ⟨_, its, n, r1, l1, g1⟩ := I1.lstM upd_same
  cases r1
  refine ⟨⟨_, g1, rfl⟩, PySem.F.args_list_init_2 _ _, ?_⟩
  unfold Builtin.«list.__init__»
  refine wpAny_bind (m := Builtin.List.listItems (.ref s.heap.objs.size)) ?_
  unfold Builtin.List.listItems Builtin.List.listUpdate
  refine wpAny_bind (wpAny_seqItems g1 rfl (wpAny_pure (wpAny_bind (wpAny_updateSeq g1 rfl ?_))))
  have I2 := I1.lset (f := fun _ => #[]) (its := []) (its' := []) (ys := []) (t' := s.toks) upd_same g1 rfl .nil (Nat.zero_le _)
  rw [upd_upd] at I2
  refine wpAny_bind (wpAny_letGo ?_)
  obtain ⟨_, its2, n2, r2, l2, g2⟩ := I2.lstM upd_same
  cases r2
  have ha2 : upd H s.heap.objs.size (.lst []) a = some (.ins C dx fs) := by rw [upd_ne pa]; exact ha
  have hd2 : upd H s.heap.objs.size (.lst []) d = some (.frz o (.dT kvs)) := by rw [upd_ne pd]; exact hd
  have hl2 := hlen _ free
  have hp2 : upd H s.heap.objs.size (.lst []) s.heap.objs.size = some (.lst []) := upd_same
  obtain ⟨H2, eH⟩ : ∃ H2, H2 = upd H s.heap.objs.size (.lst []) := ⟨_, rfl⟩
  rw [← eH] at I2 ha2 hd2 hl2 hp2
  obtain ⟨p, ep⟩ : ∃ p, p = s.heap.objs.size := ⟨_, rfl⟩
  rw [← ep] at g2 hp2 pa pd eH free ⊢
  revert I2 g2
  rw [← ep]
  generalize ({ s with heap := (s.heap.push { cls := .type "list", data := .seq #[] }).update p (Obj.mapSeq fun _ => #[]) } : Shared) = s2
  intro I2 g2
  have low : Low X (k + 1) X.A.in1.in1 := ⟨((hr.mono (show k + 1 + 1 + 1 ≤ j by omega)).in1).in1, rfl⟩
  obtain ⟨oa, J⟩ := ins_at I2 ha2
  obtain ⟨m, fr⟩ := I2.fr
  obtain ⟨_, gd, hx, es, ee, hdt, hsz, ent⟩ := I2.frzT hd2
  -- what is left when the iterator is there and the room is made
  have fin : ∀ (it : Addr) (s5 : Shared) (n5 : Nat), FpOk X pins H2 it → it ≠ p → it ≠ d → Inv X pins σ H2 s5 → s5.heap.get? p = some { cls := .type "list", data := .seq #[] n5 } → s5.heap.IsKeyIter it d 0 es.size ee →
      codeAny (model X.prog X.w) X.A.in1 (.builtin "list.extend.loop" ⟨[.ref p, .ref it, .none], []⟩) (wants (fun r s₂ => r = .none ∧ EP X pins σ Q (.ref p) s₂) X.xe) s5 := by
    intro it s5 n5 hf hip hid I5 g5 hit
    obtain ⟨_, gd5, _⟩ := I5.frzT hd2
    have hz : es.size ≤ sizeLine := by
      rw [hsz]
      exact (I5.hok d _ hd2).2.1
    have off : p ∉ [it, d] := fun z => by
      rcases List.mem_cons.mp z with z | z
      · exact hip z.symm
      · exact pd (List.mem_singleton.mp z).symm
    refine codeAny_extend_loopS (walks_raw (A := X.A.in1.in1) (I.ok.hd hc) it d (Ne.symm hid) hdt).toS hz p off .none es.size 0 _ #[] n5 rfl (Nat.zero_le _) ⟨hit, gd5⟩ g5 (ItemsOf.nil _) fun s6 acc n6 mv g6 all => ?_
    obtain ⟨bs, ks, eb, rv⟩ := keys_row (H := H2) (kvs := kvs) (vs := acc.toList) (by rw [Array.length_toList, all.1, hsz]) fun i k v e => by
      obtain ⟨en, b, h1, h2, h3⟩ := ent i k v e
      have hi : i < acc.size := by
        rw [all.1]
        exact (Array.getElem?_eq_some_iff.mp h1).1
      obtain ⟨en', h4, h5⟩ := all.2 i acc[i] (Array.getElem?_eq_getElem hi)
      rw [h1] at h4
      cases h4
      exact ⟨b, by rw [Array.getElem?_toList, Array.getElem?_eq_getElem hi, h5, h2], h3⟩
    have gp := Heap.get?_update_self (fun _ => ({ cls := .type "list", data := .seq acc n6 } : Obj)) g5 rfl
    have J6 := I5.write (x := p) (e := p) (o := .lst (bs.map V.ref)) (t' := s6.toks) (h' := s5.heap.update p fun _ => { cls := .type "list", data := .seq acc n6 }) (by rw [hp2]; exact trivial) (.inl rfl) (fun b o hb e => (Heap.get?_update_other _ _ (Ne.symm hb)).trans e) ⟨_, gp⟩
      ⟨by rw [List.length_map, ← List.length_map (f := Value.ref), ← eb, Array.length_toList, all.1]; exact hz, acc.toList, n6, rv, by rw [Array.toArray_toList]; exact gp⟩
    obtain ⟨f0, f1, f2, f3, f4, f5⟩ := hf
    have J7 := J6.turned (h' := s6.heap) (t' := s6.toks) (it := it) (fun b o hb e => by
      by_cases ebp : b = p
      · subst ebp
        have e' := gp.symm.trans e
        cases e'
        exact g6
      · exact mv.heap b o (fun z => by
          rcases List.mem_cons.mp z with z | z
          · exact ebp z
          · exact hb (List.mem_singleton.mp z)) ((Heap.get?_update_other _ _ (Ne.symm ebp)).symm.trans e)) (by rw [upd_ne hip]; exact f0) f1 f3 f4 f5
    have fin : EP X pins σ Q (.ref p) s6 := by
      rw [Moved.eq_with mv]
      refine ⟨.ref p, _, J7, rfl, ?_⟩
      rw [eH, upd_upd]
      refine q p bs free (Paired.mapP ks fun x b z => ?_)
      have np : b ≠ p := fun e => by
        rw [e, hp2] at z
        cases z
      rwa [eH, upd_ne np] at z
    exact ⟨rfl, fin⟩
  show wpAny _ _ (Builtin.List.listExtendWith (.ref p) (.ref a) .none) _ _ s2
  unfold Builtin.List.listExtendWith
  have no : (Builtin.List.listSameRef (.ref p) (.ref a) || Value.ref C == .type "list" || Value.ref C == .type "tuple") = false := by
    have : Builtin.List.listSameRef (.ref p) (.ref a) = false := by simp [Builtin.List.listSameRef, Ne.symm pa]
    rw [this]
    rfl
  refine wpAny_bind (J.type.here ?_)
  rw [if_neg (by rw [no]; decide)]
  have b := bi s2 [.ref a] I2.kIn (by rfl)
  refine wpAny_bind (PySem.W.owit_iter fr I2.ok.mod.kin J Mi.at_ Mi.fn (wpAny_call (codeAny_mono (FI.go X.A.in1.in1 X.stack s2 H2 ⟨[.ref a], []⟩ a dx d fs o kvs es ee (low.room.mono (Nat.le_succ k)) (low.env0 I2) b ha2 hl hd2 hdt) fun y s3 end_ => ?_)))
  match y, end_ with
  | .error e, ⟨_, _, _, _, _, _, _, _, _, _, _, _, bad⟩ => exact bad.elim
  | .ok (.ret u), ⟨it, H', eu, eH', os, bare, un, hok, hn, hz, hit⟩ =>
    subst eu
    obtain ⟨hh, g, dd, t, os'⟩ := s3
    obtain rfl : os' = s2.os := os
    subst eH'
    have J3 := I2.call (h' := hh) (g' := g) (d' := dd) (t' := t) (ch := []) un hok bare (fun b z => absurd z (by simp))
    unfold PySem.W.OwitIt
    refine wpAny_specialOf hit.typeIs PySem.F.slot_dict_keyiterator_next.lookup ?_
    have hf := I2.fpOk hz hn
    obtain ⟨oi, gi, ci2, di⟩ := id hit
    have J4 := J3.pinned (fp := [it]) (fun b hb => by rw [List.mem_singleton.mp hb]; exact hf) (fun b hb => by rw [List.mem_singleton.mp hb]; exact ⟨oi, gi, fun v z => by rw [di] at z; cases z⟩)
    obtain ⟨ob, J5⟩ := ins_at J4 ha2
    obtain ⟨m4, fr4⟩ := J4.fr
    have ni : it ≠ p := fun z => by rw [z, hp2] at hn; cases hn
    have nd : it ≠ d := fun z => by rw [z, hd2] at hn; cases hn
    refine wpAny_bind (wpAny_holding (own_length J4.kIn J5 Ml (PySem.W.len_K fr4 J4.ok.mod.kin J5 Ml.at_ Ml.fn (thn (run_low (vs := [.ref a]) FL (⟨low.room.in1, low.fr⟩ : Low X k X.A.in1.in1.in1) bl J4 (.cons rfl .nil) hl2) fun v s4 z => ?_))))
    obtain ⟨v4, H4, J6, r4, c, rfl, hc4, eH4⟩ := z
    obtain ⟨tc, rfl⟩ := r4
    subst eH4
    refine ⟨⟨by omega, by have := sizeLine_eq; omega⟩, c, _, rfl, hc4, ?_⟩
    have J7 := J6.unpinned.tok (s4.toks + 1)
    have at_it : s4.heap.get? it = some oi := (J6.pin (it, oi) (List.mem_append_right _ (List.mem_append_right _ (mem_pinsAt List.mem_cons_self gi)))).1
    have hit4 : s4.heap.IsKeyIter it d 0 es.size ee := ⟨oi, at_it, ci2, by rw [hsz]; exact di⟩
    obtain ⟨_, its5, n5, r5, l5, g5⟩ := J7.lstM hp2
    cases r5
    refine wpAny_ite_split (fun _ => ?_) (fun _ => wpAny_pure ⟨plainId_quiet PySem.F.plain_extend_loop _, fin it _ n5 hf ni nd J7 g5 hit4⟩)
    refine wpAny_bind (wpAny_rule (wpAny_bind ?_))
    unfold Builtin.List.listTouch Builtin.List.listUpdate
    refine wpAny_bind (wpAny_updateSeq g5 rfl ?_ (by simp [sizeLine_eq]) (by simp [sizeLine_eq]))
    have J8 := J7.lset (f := (·.push Value.none)) (its' := [Value.none]) (ys := [.non]) (t' := s4.toks + 1) hp2 g5 (by simp) (.cons rfl .nil) (by simp [sizeLine_eq])
    obtain ⟨_, its8, n8, r8, l8, g8⟩ := J8.lstM upd_same
    obtain ⟨u8, rfl, ru8⟩ := r8.one
    refine wpAny_updateSeq g8 rfl ?_ (by simp [sizeLine_eq]) (by simp [sizeLine_eq])
    have J9 := J8.lset (f := (·.pop)) (its := [u8]) (its' := []) (ys := []) (t' := s4.toks + 1) upd_same g8 (by rfl) .nil (Nat.zero_le _)
    have same : upd (upd H4 p (.lst [.non])) p (.lst []) = H4 := by
      rw [upd_upd]
      funext b
      by_cases e : b = p
      · rw [e, upd_same, hp2]
      · rw [upd_ne e]
    rw [same] at J9
    obtain ⟨_, its9, n9, r9, l9, g9⟩ := J9.lstM hp2
    cases r9
    refine wpAny_pure ⟨plainId_quiet PySem.F.plain_extend_loop _, fin it _ n9 hf ni nd J9 g9 ⟨oi, ?_, ci2, by rw [hsz]; exact di⟩⟩
    exact (Heap.get?_update_other _ _ (Ne.symm ni)).trans ((Heap.get?_update_other _ _ (Ne.symm ni)).trans at_it)
end
end Ew

set_option Elab.async false
set_option linter.all false
set_option maxRecDepth 100000
set_option maxHeartbeats 4000000
namespace Ew
open PySem PySem.Spec PyProof.Rows L2
/-! ### two dicts whose keys are tuples, side by side -/
section
variable {P : Program} {w : World} {A : Around} {E : Value → Shared → Prop} {s : Shared}
abbrev Turn1 := Option Bool × PUnit
/-- places asked one after the other, nothing is changed; the first no is the answer -/
theorem ask_places {Q : Turn1 → Shared → Prop} (b : Nat → Bool) (g : Nat → Turn1 → Sem (ForInStep Turn1)) : ∀ l : List Nat,
    (∀ i ∈ l, ∀ R : ForInStep Turn1 → Shared → Prop, R (if b i = true then .yield (none, ()) else .done (some false, ())) s → wpAny (model P w) A (g i (none, ())) R E s) →
    Q (if l.all b = true then (none, ()) else (some false, ())) s → wpAny (model P w) A (forIn l ((none, ()) : Turn1) g) Q E s
  | [], _, q => by
    rw [List.forIn_nil]
    exact wpAny_pure q
  | i :: l, h, q => by
    rw [List.forIn_cons]
    refine wpAny_bind (h i List.mem_cons_self _ ?_)
    rw [List.all_cons] at q
    cases e : b i with
    | false =>
      rw [e] at q
      exact wpAny_pure q
    | true =>
      rw [e] at q
      exact ask_places b g l (fun j hj => h j (List.mem_cons_of_mem _ hj)) q
variable {K : Type} [DecidableEq K] {kd : HeapKind P w K}
/-- what the pair at a place of the one says of the other -/
def sideB (ys : List (K × Addr × Value)) (e : K → Bool) (x : K × Addr × Value) : Bool := (ys.any fun y => decide (y.1 = x.1)) && e x.1
theorem one_of {ys : List (K × Addr × Value)} (hn : (ys.map (·.1)).Nodup) {i j : Nat} {k : K} {p q : Addr × Value} (h1 : ys[i]? = some (k, p)) (h2 : ys[j]? = some (k, q)) : p = q := by
  have e1 : (ys.map (·.1))[i]? = some k := by rw [List.getElem?_map, h1]; rfl
  have e2 : (ys.map (·.1))[j]? = some k := by rw [List.getElem?_map, h2]; rfl
  obtain ⟨hi, _⟩ := List.getElem?_eq_some_iff.mp e1
  have : i = j := (List.getElem?_inj hi hn).mp (e1.trans e2.symm)
  subst this
  exact (Prod.mk.inj (Option.some.inj (h1.symm.trans h2))).2
theorem side_by_side {nm : String} {a b : Addr} {xs ys : List (K × Addr × Value)} {e : K → Bool} {Q : Bool → Shared → Prop} (hu : kd.room A) (ha : (a == sysModules) = false) (hb : (b == sysModules) = false) (da : s.heap.DictOfH kd a xs) (db : s.heap.DictOfH kd b ys)
    (he : ∀ k p q, (k, p) ∈ xs → (k, q) ∈ ys → SeqAt.EqP P w A s p.2 q.2 (e k)) (q : Q (xs.length == ys.length && xs.all (sideB ys e)) s) : wpAny (model P w) A (Builtin.Dict.samePairs nm a b) Q E s := by
  obtain ⟨oa, ea, pa, ga, _, va, la, ka, _⟩ := da
  obtain ⟨ob, eb, pb, gb, _, vb, lb, kb, nb⟩ := db
  have sa : ea.size = xs.length := by rw [← Array.length_toList, la, List.length_map]
  have sb : eb.size = ys.length := by rw [← Array.length_toList, lb, List.length_map]
  simp only [Builtin.Dict.samePairs, Builtin.Dict.showsAll, ha, hb, Bool.false_eq_true, if_false]
  refine wpAny_bind (wpAny_pure (wpAny_bind (wpAny_pure (wpAny_bind (wpAny_dictEntries ga va (wpAny_bind (wpAny_dictEntries gb vb ?_)))))))
  rw [sa, sb]
  by_cases hl : xs.length = ys.length
  · rw [if_neg (by rw [hl]; simp)]
    rw [hl, beq_self_eq_true, Bool.true_and] at q
    refine wpAny_bind (wpAny_dictEpoch ga va (wpAny_bind ?_))
    rw [Std.Legacy.Range.forIn_eq_forIn_range']
    refine ask_places (fun i => (xs[i]?.map (sideB ys e)).getD true) _ _ (fun i hi R r => ?_) ?_
    · have il : i < xs.length := by
        have := List.mem_range'.mp hi
        simp at this
        omega
      obtain ⟨k, p, hx⟩ : ∃ k p, xs[i]? = some (k, p) := ⟨_, _, List.getElem?_eq_getElem il⟩
      have hm := List.mem_of_getElem? hx
      rw [hx] at r
      refine wpAny_bind (wpAny_dictEntries ga va ?_)
      rw [entry_at la, hx]
      refine wpAny_bind (wpAny_holding (wpAny_bind (wpAny_dictFind_heap (k := k) hu (ka _ hm) gb vb lb kb nb (fun no => ?_) fun j q hj => ?_)))
      · have f : sideB ys e (k, p) = false := by
          have n : (ys.any fun y => decide (y.1 = k)) = false := by
            rw [List.any_eq_false]
            rintro ⟨k2, q2⟩ hy
            obtain ⟨j, hj⟩ := List.mem_iff_getElem?.mp hy
            intro z
            obtain rfl : k2 = k := of_decide_eq_true z
            exact no j q2 hj
          rw [sideB, n, Bool.false_and]
        simp only [Option.map_some, Option.getD_some, f, Bool.false_eq_true, if_false] at r
        exact wpAny_pure (wpAny_pure r)
      · have hy := List.mem_of_getElem? hj
        have f : sideB ys e (k, p) = e k := by
          have n : (ys.any fun y => decide (y.1 = k)) = true := List.any_eq_true.mpr ⟨_, hy, decide_eq_true rfl⟩
          rw [sideB, n, Bool.true_and]
        simp only [Option.map_some, Option.getD_some, f] at r
        refine wpAny_bind (wpAny_dictEntries gb vb ?_)
        rw [entry_at lb, hj]
        refine wpAny_holding (he k p q hm hy _ _ ?_)
        cases ek : e k with
        | false =>
          rw [ek] at r
          exact wpAny_pure r
        | true =>
          rw [ek] at r
          refine wpAny_bind (wpAny_dictEpoch ga va ?_)
          rw [if_neg (by simp)]
          exact wpAny_pure r
    · have f : ((List.range' 0 xs.length 1).all fun i => (xs[i]?.map (sideB ys e)).getD true) = xs.all (sideB ys e) := by
        rw [Bool.eq_iff_iff, List.all_eq_true, List.all_eq_true]
        constructor
        · intro h x hx
          obtain ⟨i, hi⟩ := List.mem_iff_getElem?.mp hx
          have il := (List.getElem?_eq_some_iff.mp hi).1
          have := h i (List.mem_range'.mpr ⟨i, il, by simp⟩)
          rw [hi] at this
          exact this
        · intro h i hi
          cases hx : xs[i]? with
          | none => rfl
          | some x => exact h x (List.mem_of_getElem? hx)
      have g : (Std.Legacy.Range.size { start := 0, stop := xs.length, step := 1, step_pos := Nat.one_pos }) = xs.length := by
        simp [Std.Legacy.Range.size]
      rw [g, f]
      cases r : xs.all (sideB ys e) <;> (rw [r] at q; exact wpAny_pure q)
  · rw [if_pos (by simpa using hl)]
    have hf : (xs.length == ys.length) = false := by simpa using hl
    rw [hf, Bool.false_and] at q
    exact wpAny_bind (wpAny_rule (wpAny_pure q))
/-- a == b -/
theorem dd_eq {a b : Addr} {xs ys : List (K × Addr × Value)} {e : K → Bool} {Q : Value → Shared → Prop} (hc : A.units < cLine) (hu : kd.room A.in1) (ha : (a == sysModules) = false) (hb : (b == sysModules) = false) (da : s.heap.DictOfH kd a xs) (db : s.heap.DictOfH kd b ys)
    (he : ∀ k p q, (k, p) ∈ xs → (k, q) ∈ ys → SeqAt.EqP P w A.in1 s p.2 q.2 (e k)) (q : Q (.bool (xs.length == ys.length && xs.all (sideB ys e))) s) : wpAny (model P w) A (richCompare .Eq (.ref a) (.ref b)) Q E s := by
  have ta : s.TypeIs (.ref a) "dict" := da.typeIs
  have tb : s.TypeIs (.ref b) "dict" := db.typeIs
  refine wpAny_richCompare_same_room (op := .Eq) ta tb PySem.F.slot_dict_eq ?_ hc
  refine wpAny_call_entry PySem.F.slot_dict_eq ta PySem.F.entry_dict_eq ?_ (PySem.F.args_dict_eq_2 _ _)
  refine wpAny_bind (m := Builtin.Dict.dictSlotArgs "__eq__" ⟨[.ref a, .ref b], []⟩) (wpAny_bind (wpAny_notOrdered_dict ta (wpAny_pure ?_)))
  refine wpAny_bind (wpAny_isInstance (T := "dict") (b := true) tb PySem.F.sub_dict_dict ?_)
  refine wpAny_bind (m := Builtin.Dict.addrOf (.ref a)) (wpAny_pure (wpAny_bind (m := Builtin.Dict.addrOf (.ref b)) (wpAny_pure (wpAny_bind (side_by_side hu ha hb da db he ?_)))))
  have f : Q (.bool ((xs.length == ys.length && xs.all (sideB ys e)) == true)) s := by
    rw [beq_true]
    exact q
  refine wpAny_pure ⟨_, rfl, ?_, f⟩
  rintro ⟨⟩
end
/-! ### == of two such dicts by what the reading says of them -/
def inB (kb : List (List Key × V)) (e : List Key → Bool) (p : List Key × V) : Bool := (kb.any fun q => decide (q.1 = p.1)) && e p.1
def rEqT (K : PySem.W.Frag) : R2 := fun x y H Q => ∃ a b ka kb e, x = .ref a ∧ y = .ref b ∧ Rd H a (.dT ka) ∧ Rd H b (.dT kb) ∧
  (∀ k v u, (k, v) ∈ ka → (k, u) ∈ kb → ∃ d1 d2, Dp K H v d1 ∧ Dp K H u d2 ∧ SeqAt.shaped d1 = true ∧ SeqAt.shaped d2 = true ∧ PyData.eqv d1 d2 = e k) ∧ Q (.bl (ka.length == kb.length && ka.all (inB kb e))) H
theorem kt_back {H : Hp} {ks : List (List Key × V)} {xs : List (List Key × Addr × Value)} (r : KT H ks xs) : ∀ k p, (k, p) ∈ xs → ∃ v, (k, v) ∈ ks ∧ RelV v p.2 := by
  induction r with
  | nil => exact fun k p h => nomatch h
  | cons h t ih =>
    intro k p m
    rcases List.mem_cons.mp m with z | z
    · subst z
      exact ⟨_, List.mem_cons.mpr (.inl (Prod.ext h.1.symm rfl)), h.2.2⟩
    · obtain ⟨v, hv, rv⟩ := ih k p z
      exact ⟨v, List.mem_cons_of_mem _ hv, rv⟩
theorem kt_len {H : Hp} {ks : List (List Key × V)} {xs : List (List Key × Addr × Value)} (r : KT H ks xs) : xs.length = ks.length := by
  induction r with
  | nil => rfl
  | cons h t ih => rw [List.length_cons, List.length_cons, ih]
theorem kt_any {H : Hp} {ks : List (List Key × V)} {xs : List (List Key × Addr × Value)} (r : KT H ks xs) (k : List Key) : (xs.any fun y => decide (y.1 = k)) = ks.any fun q => decide (q.1 = k) := by
  induction r with
  | nil => rfl
  | cons h t ih => rw [List.any_cons, List.any_cons, ih, h.1]
theorem kt_all {H : Hp} {ka kb : List (List Key × V)} {xs ys : List (List Key × Addr × Value)} (r : KT H ka xs) (t : KT H kb ys) (e : List Key → Bool) : xs.all (sideB ys e) = ka.all (inB kb e) := by
  induction r with
  | nil => rfl
  | cons h _ ih => rw [List.all_cons, List.all_cons, ih, sideB, inB, kt_any t, h.1]
theorem op_eqT {X : Cx} (hu : X.A.units + 65 < cLine) : OpR X (compareOp .Eq) (rEqT X.K) := by
  intro pins s σ H x y v u Q I rx ry h
  obtain ⟨a, b, ka, kb, e, rfl, rfl, ea, eb, he, q⟩ := h
  obtain rfl : v = Value.ref a := rx
  obtain rfl : u = Value.ref b := ry
  obtain ⟨_, na, xs, ra, da⟩ := dt_rd I.hok ea
  obtain ⟨_, nb, ys, rb, db⟩ := dt_rd I.hok eb
  refine dd_eq (e := e) (by omega) (show X.A.in1.units < cLine from ?_) na nb da db (fun k p z hp hz => ?_) ?_
  · show X.A.units + 1 < cLine
    omega
  · obtain ⟨v1, m1, r1⟩ := kt_back ra k p hp
    obtain ⟨v2, m2, r2⟩ := kt_back rb k z hz
    obtain ⟨d1, d2, h1, h2, s1, s2, f⟩ := he k v1 v2 m1 m2
    obtain ⟨as, w1⟩ := Dp.reads I d1 v1 _ h1 r1
    obtain ⟨bs, w2⟩ := Dp.reads I d2 v2 _ h2 r2
    rw [← f]
    exact (PySem.W.keq_at w1 w2 s1 s2 (show X.A.units + 1 + 64 < cLine by omega)).eqP
  · rw [kt_len ra, kt_len rb, kt_all ra rb]
    exact ⟨.bl _, H, I, rfl, q⟩
end Ew

set_option Elab.async false
set_option linter.all false
set_option maxRecDepth 100000
set_option maxHeartbeats 4000000
namespace Ew
open PySem PySem.Spec PyProof.Rows L2
section
variable {X : Cx} {e : Expr} {te : TE}
/-- behind an expression a thing of the def's own is not to be written any more -/
def tKeep (te : TE) : TE := fun σ H Q => te σ H fun v H' => ∃ d u, H' d = some u ∧ Mut (some u) ∧ ∀ o, Q v (upd H' d (.frz o u))
theorem pe_keep (h : PE X e te) : PE X e (tKeep te) := ⟨fun pins s σ H Q I q => thn (h.run pins s σ H _ I q) fun _ _ ⟨v, H', J, r, d, u, hd, mu, k⟩ => by
  obtain ⟨o, J2⟩ := J.lock hd mu
  exact ⟨v, _, J2, r, k o⟩⟩
/-- len of a dict whose keys are tuples, written or not -/
def rLenF : List V → Hp → VK → Prop := fun xs H Q => ∃ p kvs, xs = [.ref p] ∧ Rd H p (.dT kvs) ∧ Q (.int ((kvs.length : Nat) : Int)) H
theorem call_lenF : CallR X (.builtin "len") rLenF := by
  intro pins s σ H xs us Q I r h
  obtain ⟨p, kvs, rfl, hp, q⟩ := h
  obtain ⟨u, rfl, rx⟩ := vals1 r
  obtain rfl : u = Value.ref p := rx
  obtain ⟨z, ns, ys, kt, d⟩ := dt_rd I.hok hp
  have l : ys.length = kvs.length := kt_len kt
  refine call_len_dictH ns d (by have := sizeLine_eq; omega) ?_
  rw [l]
  exact ⟨.int _, H, (I.tok _).tok _, ⟨_, rfl⟩, q⟩
/-- room for what stands a little deeper -/
theorem units5 {k : Nat} {A : Around} (r : Room k A) : A.units + 65 < cLine := by
  have := r.un
  omega
end
end Ew

set_option Elab.async false
set_option linter.all false
set_option maxRecDepth 100000
set_option maxHeartbeats 4000000
namespace Ew
open PySem PySem.Spec PyProof.Rows L2
/-! ### enumerate(a tuple) -/
section
variable {P : Program} {w : World} {A : Around} {E : Value → Shared → Prop} {s : Shared}
theorem enum_new {v : Value} {o : Obj} {G : Heap → Prop} (B : Begins v o G) : Meets (Builtin.«enumerate.__new__» ⟨[.type "enumerate", v], []⟩) (fun _ R s => G s.heap ∧
    R (.ok (.ret (.ref (s.heap.push o).objs.size))) { s with heap := (s.heap.push o).push { cls := .type "enumerate", data := .fields #[.none, .bool false, .ref s.heap.objs.size, rawInt 0, .none, .none] } }) :=
  .of_wp fun P w A R s z => by
    obtain ⟨hp, g, d, tk, os⟩ := s
    obtain ⟨here, q⟩ := z
    have sub := sub_enumerate
    have go : ∀ {A' : Around} {E : Value → Shared → Prop} {Q : Value → Shared → Prop}, Q (.ref hp.objs.size) ⟨hp.push o, g, d, tk, os⟩ → wpAny (model P w) A' (pyIter v) Q E ⟨hp, g, d, tk, os⟩ := fun k => B.iter P w _ _ ⟨hp, g, d, tk, os⟩ _ here k
    wp_walk using go
    refine wpAny_stack_any fun st => wpAny_pure ?_
    split
    · rename_i c _ _ _ _ _
      cases (c == Value.type "enumerate") <;> (wp_walk using go; exact ⟨_, rfl, q⟩)
    · wp_walk using go
      exact ⟨_, rfl, q⟩
theorem enum_call {v : Value} {o : Obj} {G : Heap → Prop} {Q : Value → Shared → Prop} (B : Begins v o G) (here : G s.heap)
    (k : ∀ h', IsEnum h' (s.heap.objs.size + 1) s.heap.objs.size 0 .none → h'.get? s.heap.objs.size = some o → (∀ b u, s.heap.get? b = some u → h'.get? b = some u) → Q (.ref (s.heap.objs.size + 1)) { s with heap := h' }) :
    wpAny (model P w) A (call (.type "enumerate") [v]) Q E s := by
  refine callType_new F.called_enumerate (by decide) (F.typeCall_enumerate_1 _) (F.newCall_enumerate_1 _) (fun obj => F.args_object_init_2 obj _) F.entry_enumerate_new (enum_new B) ⟨here, ?_⟩
  have z : (s.heap.push o).objs.size = s.heap.objs.size + 1 := Heap.size_push ..
  have e := Heap.get?_push_size (s.heap.push o) (o := { cls := .type "enumerate", data := .fields #[.none, .bool false, .ref s.heap.objs.size, rawInt 0, .none, .none] }) rfl
  show _ ∧ _
  rw [z] at e ⊢
  exact ⟨⟨_, e, rfl⟩, k _ e (Heap.get?_push_of_some _ (Heap.get?_push_size _ B.free)) fun b u q => Heap.get?_push_of_some _ (Heap.get?_push_of_some _ q)⟩
end
/-- the tuple at a, each item in a new pair behind its place -/
def IteT (K : PySem.W.Frag) (a : Addr) : It where
  go := fun i H => ∃ (xs : List V) (x : V), SqT K H a xs ∧ xs[i]? = some x
  yld := fun i H v H' => ∃ T x, v = .ref T ∧ H T = none ∧ H' = upd H T (.tup [.int (i : Nat), x]) ∧ ∀ xs, SqT K H a xs → xs[i]? = some x
  stop := fun i H => ∃ xs : List V, SqT K H a xs ∧ i = xs.length
theorem two {c e it : Addr} (h : c ∈ [e, it]) : c = e ∨ c = it := by
  simp only [List.mem_cons, List.not_mem_nil, or_false] at h
  exact h
theorem turn_enumT {P : Program} {w : World} {K : PySem.W.Frag} {elts : List Expr} {kk : Nat} {tpos : Pos} {a e it : Addr} (ne : e ≠ it) (na : a ≠ it) (ea : e ≠ a) :
    Turn P w K (.Tuple elts kk tpos) (IteT K a) [e, it] e (fun i h => (∃ old, IsEnum h e it ((i : Nat) : Int) old) ∧ h.IsTupleIter it a i) where
  mem := List.mem_cons_self
  obj := fun i h st c hc => by
    obtain ⟨⟨_, q1⟩, ⟨o, q2, _, d2⟩⟩ := st
    rcases two hc with rfl | rfl
    · exact ⟨_, q1, fun v e => nomatch e⟩
    · exact ⟨o, q2, fun v e => by rw [d2] at e; cases e⟩
  keep := fun i h h' st k => by
    obtain ⟨⟨x, q1⟩, q2⟩ := st
    exact ⟨⟨x, k _ List.mem_cons_self _ q1⟩, q2.at fun o e => k _ (by simp) o e⟩
  item := by
    intro X hP hw hK hc i pins s σ H E I hf st go
    subst hP hw hK
    obtain ⟨⟨x0, q1⟩, q2⟩ := st
    obtain ⟨xs, x, sx, hx⟩ := go
    obtain ⟨l, r, p, _⟩ := I.tuple sx
    obtain ⟨u, hu, ru⟩ := r.get hx
    have D := Draws.tuple (prog := X.prog) (w := X.w) (A := X.A.in1) (I.ok.hd hc) it a na l.toArray
    have g : i < l.toArray.size := by
      rw [List.size_toArray]
      exact (List.getElem?_eq_some_iff.mp hu).1
    have le := Heap.lt_size q1
    have li : it < s.heap.objs.size := by obtain ⟨_, e, _⟩ := q2; exact Heap.lt_size e
    refine wpAny_pyNext_enum_itemD D q1 ⟨q2, p⟩ g ne (fun z => (List.mem_cons.mp z).elim ne fun z => ea (List.mem_singleton.mp z)) fun v h' tk e1 w1 w2 w3 w4 w5 => ?_
    rw [List.getElem?_toArray, hu] at e1
    cases e1
    refine ⟨_, rfl, wpAny_letOwnedTupleGo_enum (s := { s with heap := h', toks := tk + 1 }) w1 fun h'' w1' sb => ?_⟩
    have nw : h''.get? s.heap.objs.size = some { cls := .type "tuple", data := .seq #[.int i tk, u] } := (sb.2 _ (Nat.ne_of_gt le)).trans w3
    have ob : ObjOk X.prog X.w (upd H s.heap.objs.size (.tup [.int (i : Nat), x])) h'' s.heap.objs.size (.tup [.int (i : Nat), x]) := by
      refine ⟨?_, [.int i tk, u], .cons ⟨_, rfl⟩ (.cons ru .nil), ⟨_, nw, rfl, _, rfl⟩⟩
      show 2 ≤ sizeLine
      decide
    have off : ∀ c o, c ∉ [e, it] → s.heap.get? c = some o → h''.get? c = some o := fun c o hb q => by
      have n : c ≠ e ∧ c ≠ it := ⟨fun q => hb (by simp [q]), fun q => hb (by simp [q])⟩
      exact (sb.2 c n.1).trans (w5 c o n.1 n.2 q)
    have I1 : Inv X pins σ (upd H s.heap.objs.size (.tup [.int (i : Nat), x])) { s with heap := h'', toks := tk + 1 } := I.turnedNew off hf (Nat.le_refl _) ob
    refine ⟨.ref s.heap.objs.size, _, I1, rfl, ⟨_, x, rfl, I.hok.fresh (Nat.le_refl _), rfl, fun ys hl => ?_⟩, ⟨⟨_, w1'⟩, ?_⟩, fun c hcm => ?_⟩
    · rw [I.tuple_inj hl sx]
      exact hx
    · exact w2.1.at fun o q => (sb.2 _ ne.symm).trans q
    · have lt : c < s.heap.objs.size := by
        rcases two hcm with rfl | rfl
        · exact le
        · exact li
      rw [upd_ne (Nat.ne_of_lt lt)]
      exact (hf c hcm).1
  done := by
    intro X hP hw hK hc i pins s σ H E I hf st go
    subst hP hw hK
    obtain ⟨⟨x0, q1⟩, q2⟩ := st
    obtain ⟨xs, sx, hi⟩ := go
    obtain ⟨l, r, p, _⟩ := I.tuple sx
    have el := r.length
    have D := Draws.tuple (prog := X.prog) (w := X.w) (A := X.A.in1) (I.ok.hd hc) it a na l.toArray
    have ez : l.toArray.size = i := by
      rw [List.size_toArray, hi]
      exact el.symm
    refine wpAny_pyNext_enum_endD D q1 (by rw [ez]; exact ⟨q2, p⟩) fun h' k => ⟨rfl, ?_⟩
    exact I.turnedL (ch := [e, it]) (fun c o hb q => k c o (fun z => hb (by simp [z])) q) hf
  self := fun A i s Q E st h => wpAny_pyIter_enum st.1.choose_spec h
def iEnumT (K : PySem.W.Frag) (ta : TA) : TI := fun σ H R => ta σ H fun vs H1 => ∃ a xs, vs = [.ref a] ∧ SqT K H1 a xs ∧ R (IteT K a) H1
theorem pi_enumT {X : Cx} {e : Expr} {ta : TA} {p pos tpos : Pos} {elts : List Expr} {kk : Nat} (hg : Gl X "enumerate") (hm : X.mg "enumerate" = none) (ha : PA X [e] ta) (hs : starEach [e] X.env = [(false, eval e X.env)] := by rfl) :
    PI X (.Tuple elts kk tpos) (.Call (.Name "enumerate" p) [e] [] pos) (iEnumT X.K ta) := by
  refine ⟨fun pins s σ H R I h => Call_ (ld_blt I hg hm boot_enumerate (PyProof.Rows.callWith_type1 (thn (ha.run pos pins s σ H _ I h) fun us s1 z => ?_) hs rfl))⟩
  obtain ⟨vs, H1, I1, r1, a, xs, rfl, sx, q⟩ := z
  obtain ⟨u, rfl, ru⟩ := vals1 r1
  cases ru
  obtain ⟨l, rv, p1, _⟩ := I1.tuple sx
  have la : a < s1.heap.objs.size := by
    obtain ⟨o, e, _⟩ := id p1
    exact Heap.lt_size e
  refine enum_call (begins_tuple a l.toArray) p1 fun h' he hi k => wpAny_pyIter_enum he ?_
  have I2 : Inv X pins σ H1 { s1 with heap := h' } := I1.kept (t' := s1.toks) k
  refine ⟨s1.heap.objs.size + 1, [s1.heap.objs.size + 1, s1.heap.objs.size], _, _, H1, rfl, I2, turn_enumT (a := a) (e := s1.heap.objs.size + 1) (it := s1.heap.objs.size) (Nat.succ_ne_self _) (Nat.ne_of_lt la) (Nat.ne_of_gt (Nat.lt_succ_of_lt la)), ⟨⟨_, he⟩, ⟨_, hi, rfl, rfl⟩⟩, fun b hb => ?_, q⟩
  have le : s1.heap.objs.size ≤ b := by
    rcases two hb with rfl | rfl
    · exact Nat.le_add_right _ _
    · exact Nat.le_refl _
  exact I1.fpOk le (I1.hok.fresh le)
/-- enumerate(a list or a tuple) -/
theorem pi_enumX {X : Cx} {e : Expr} {ta : TA} {p pos tpos : Pos} {elts : List Expr} {kk : Nat} (hg : Gl X "enumerate") (hm : X.mg "enumerate" = none) (ha : PA X [e] ta) (hs : starEach [e] X.env = [(false, eval e X.env)] := by rfl) :
    PI X (.Tuple elts kk tpos) (.Call (.Name "enumerate" p) [e] [] pos) (fun σ H R => iEnum X.K ta σ H R ∨ iEnumT X.K ta σ H R) :=
  ⟨fun pins s σ H R I h => h.elim ((pi_enum hg hm ha hs).run pins s σ H R I) ((pi_enumT hg hm ha hs).run pins s σ H R I)⟩
end Ew

set_option Elab.async false
set_option linter.all false
set_option maxRecDepth 100000
set_option maxHeartbeats 4000000
namespace Ew
open PySem PySem.Spec PyProof.Rows L2
/-! ### an attribute as a target among others -/
section
variable {X : Cx} {o : Expr} {f : Str} {ta : TE} {pos : Pos}
def gFld (K : PySem.W.Frag) (ta : TE) (f : Str) : TG := fun v σ H Q => ta σ H fun x H1 => ∃ a C dx fs, x = .ref a ∧ H1 a = some (.ins C dx fs) ∧ Cls K C ∧ NoAttr K C f ∧ fs.length < 1000 ∧ Q σ (upd H1 a (.ins C dx (putF f v fs)))
theorem pg_fld (ha : PE X o ta) : PG X (.Attribute o f pos) (gFld X.K ta f) := by
  refine ⟨fun pins s σ H v u Q I r h => PySem.W.kas_attr (thn (ha.run pins s σ H _ I h) fun ov s2 ⟨x, H2, I2, rx, z⟩ => ?_)⟩
  obtain ⟨a, C, dx, fs, rfl, ea, c, n, l, q⟩ := z
  obtain rfl : ov = Value.ref a := rx
  exact setattr_ok I2 ea c n l r fun s3 I3 => ⟨σ, _, I3, q⟩
end
/-! ### an instance that is called -/
/-- its class has __call__, with a promise -/
structure ClmC (P : Program) (w : World) (K : PySem.W.Frag) (mg : Str → Option Value) (base : Heap) (k : Nat) (C : Addr) (ps : List Str) (sp : Sp) : Prop where
  ex : ∃ f fd, StX.CallO K C f ∧ FnOk P w K mg base (L2.CX P w) k f fd ps sp ∧ Binds K fd ps []
section
variable {X : Cx} {k j : Nat} {C : Addr} {ps : List Str} {sp : Sp} {e fe : Expr} {es : List Expr} {tf : TE} {t : TA} {pos : Pos} {W : WX}
def tCallI (C : Addr) (sp : Sp) (W : WX) (tf : TE) (t : TA) : TE := fun σ H Q => tf σ H fun y H1 => ∃ a, y = .ref a ∧ t σ H1 fun vs H2 => (∃ dx fs, H2 a = some (.ins C dx fs)) ∧ sp (.ref a :: vs) H2 Q (WE W σ)
theorem pe_callI (c : ClmC X.prog X.w X.K X.mg X.base k C ps sp) (tk : Takes X W) (hr : Room j X.A) (hk : k ≤ j) (hf : PE X fe tf) (ha : PA X (e :: es) t)
    (ht : eval (.Call fe (e :: es) [] pos) X.env = (do callWith pos (← eval fe X.env) [] (backTo pos (starEach (e :: es) X.env)) (backToKw pos (keywordEach [] X.env))) := by rfl)
    (he : starEach (e :: es) X.env = (false, eval e X.env) :: starEach es X.env := by rfl) (hpl : (backTo pos (starEach es X.env)).any (·.1) = false := by rfl) : PE X (.Call fe (e :: es) [] pos) (tCallI C sp W tf t) := by
  obtain ⟨f, fd, cc, F, hb⟩ := c.ex
  refine ⟨fun pins s σ H Q I h => Call_ (thn (hf.run pins s σ H _ I h) fun u s1 ⟨y, H1, I1, ry, a, ey, q⟩ => ?_) ht⟩
  subst ey
  obtain rfl : u = Value.ref a := ry
  refine StX.callO_with (thn (ha.run pos pins s1 σ H1 _ I1 q) fun us s2 ⟨vs, H2, I2, r, ⟨dx, fs, ei⟩, q2⟩ => ?_) he hpl
  obtain ⟨ox, od, J, hd⟩ := StX.insC_at I2 (.inr ⟨dx, fs, ei⟩)
  refine ⟨⟨C, ox, od, J, hd⟩, wpAny_call (PySem.W.kco_code I2.kIn J hd cc.at_ cc.fn cc.fi ?_)⟩
  have many : (Value.ref a :: us).length = ps.length := (Paired.length (show Vals (.ref a :: vs) (.ref a :: us) from .cons rfl r)) ▸ F.len _ _ _ _ q2
  have bind := hb s2 (.ref a :: us) I2.kIn (by rw [List.append_nil]; exact many)
  rw [List.append_nil] at bind
  refine codeAny_mono (F.run X.A X.stack s2 H2 ⟨.ref a :: us, []⟩ (.ref a :: us) (.ref a :: vs) Q (WE W σ) (hr.mono hk) I2.env0 bind (.cons rfl r) q2) fun y s' end_ => ?_
  match y, end_ with
  | .error e, end_ => exact passAt tk σ pins H2 s2 e s' I2 end_
  | .ok (.ret u), end_ => exact I2.after end_
end
/-! ### a new instance, some of its __init__'s values its defaults -/
structure MkrD (P : Program) (w : World) (K : PySem.W.Frag) (mg : Str → Option Value) (base : Heap) (k : Nat) (x : Str) (C : Addr) (ps : List Str) (sp : Sp) (dvs : List V) : Prop where
  gC : mg x = some (.ref C)
  ex : ∃ f fd ds, Mk K C f ∧ FnOk P w K mg base (L2.CX P w) k f fd ps sp ∧ Binds K fd ps ds ∧ Vals dvs ds
section
variable {X : Cx} {k j : Nat} {x : Str} {C : Addr} {ps : List Str} {sp : Sp} {dvs : List V} {e : Expr} {es : List Expr} {t : TA} {p pos : Pos}
theorem pe_mkD (c : MkrD X.prog X.w X.K X.mg X.base k x C ps sp dvs) (hr : Room j X.A) (hk : k + 1 ≤ j) (hg : Gl X x) (ha : PA X (e :: es) t) (hdb : (x == ("__debug__" : Str)) = false := by decide)
    (he : starEach (e :: es) X.env = (false, eval e X.env) :: starEach es X.env := by rfl) (hpl : (backTo pos (starEach es X.env)).any (·.1) = false := by rfl) : PE X (.Call (.Name x p) (e :: es) [] pos) (tMake C sp dvs E0 t) := by
  obtain ⟨f, fd, ds, M, F, hb, hd⟩ := c.ex
  exact pe_make M F (hr.mono hk) hg c.gC hb hd passL ha hdb he hpl
theorem pe_mkD0 (c : MkrD X.prog X.w X.K X.mg X.base k x C ps sp dvs) (hr : Room j X.A) (hk : k + 1 ≤ j) (hg : Gl X x) (hdb : (x == ("__debug__" : Str)) = false := by decide) : PE X (.Call (.Name x p) [] [] pos) (tMake C sp dvs E0 tNil) := by
  obtain ⟨f, fd, ds, M, F, hb, hd⟩ := c.ex
  exact pe_make0 M F (hr.mono hk) hg c.gC hb hd passL hdb
end
/-! ### a method without arguments -/
section
variable {X : Cx} {k j : Nat} {C : Addr} {m : Str} {ps : List Str} {sp : Sp} {o : Expr} {ta : TE} {apos pos : Pos}
theorem pe_mf0 {pl : Sem Bool} (c : Mt X.prog X.w X.K X.mg X.base k C m ps sp []) (hr : Room j X.A) (hk : k ≤ j) (he : PE X o ta)
    (ht : eval (.Call (.Attribute o m apos) [] [] pos) X.env = (do
      let v ← eval o X.env
      standAt apos.atName
      let (g, first) ← holding [v] (getMethod v m pl)
      callWith pos g first (backTo pos (starEach [] X.env)) (backToKw pos (keywordEach [] X.env))) := by rfl) : PE X (.Call (.Attribute o m apos) [] [] pos) (tMeth C m sp [] E0 ta tNil) := by
  obtain ⟨f, fd, ds, M, F, hb, hd⟩ := c.ex
  cases hd
  exact pe_meth0 he c.cl M F (hr.mono hk) hb .nil passL ht
end
/-! ### an own sign with something of a built-in kind at its right -/
section
variable {P : Program} {w : World} {A : Around} {E : Value → Shared → Prop} {s : Shared} {K : PySem.W.Frag} {x C L f : Addr} {hp : Heap} {mo : Str → Option Value} {ox : Obj} {od : Option Obj} {T : String} {op : Operator} {b : Value} {fo ro rc : Option Value} {Q : Value → Shared → Prop}
theorem bin_left (fr : Fr hp L s.heap mo) (kin : K.In hp) (J : PySem.W.InstAt s.heap x ox C od) (ty : PySem.W.Looks (model P w) s.heap (typeOf b) (.type T)) (sf : PySem.W.selfFirst K C = true)
    (M : OpM K C (PySem.dunder op.info.2) f) (hr : PySem.W.findIn K (.ref C) (PySem.dunderR op.info.2) = some none)
    (h1 : PySem.W.findIn K (.type T) (PySem.dunder op.info.2) = some fo) (h2 : PySem.W.findIn K (.type T) (PySem.dunderR op.info.2) = some ro) (sub : PySem.W.subIn K (.type T) (.ref C) = some false)
    (run : wpAny (model P w) A (call (.ref f) [.ref x, b]) (PySem.W.CmpBack Q) E s) : wpAny (model P w) A (binaryOp op (.ref x) b) Q E s := by
  have XX := kin.keeps fr.keep
  obtain ⟨at_, fn⟩ := M
  obtain ⟨cd, rest, own, first⟩ := PySem.W.ksp_first sf
  rcases key : op.info with ⟨sign, nm⟩
  rw [key] at at_ hr h1 h2
  dsimp only at at_ hr h1 h2
  have last := PySem.W.ksp_try XX J at_ fn run
  obtain ⟨hh, gg, dd, tt, os⟩ := s
  have y1 : PySem.W.Looks (model P w) hh (typeOf (.ref x)) (.ref C) := J.type
  have y2 : PySem.W.Looks (model P w) hh (typeOf b) (.type T) := ty
  have y3 : PySem.W.Looks (model P w) hh (fillsNumberSlot (.ref C) nm) true := PySem.W.fills_K XX own first at_
  have y4 : PySem.W.Looks (model P w) hh (fillsNumberSlot (.type T) nm) ((fo.isSome && !isSeqSlot fo) || (ro.isSome && !isSeqSlot ro)) := PySem.W.ksp_fillsT XX h1 h2
  have y5 : PySem.W.Looks (model P w) hh (isSubtype (.type T) (.ref C)) false := PySem.W.looks_subIn XX sub
  have y6 : PySem.W.Looks (model P w) hh (numberSlotInPython (.ref C) nm) true := PySem.W.ksp_inPy XX at_ hr (.inl rfl)
  have y7 : PySem.W.Looks (model P w) hh (numberSlotInPython (.type T) nm) false := PySem.W.Looks.of_pure rfl
  have y8 : PySem.W.Looks (model P w) hh (typeLookup (.type T) (PySem.dunderR nm)) ro := PySem.W.looks_findIn XX h2
  generalize ((fo.isSome && !isSeqSlot fo) || (ro.isSome && !isSeqSlot ro)) = side at y4
  have ne : (Value.ref C == Value.type T) = false := Bool.eq_false_iff.mpr fun z => nomatch beq_iff_eq.mp z
  simp only [binaryOp, key]
  refine wpAny_holding (wpAny_bind ?_)
  unfold binaryOp1
  refine wpAny_bind (y1.at (wpAny_bind (y2.at (wpAny_bind (y3.at ?_)))))
  simp only [ne, Bool.false_eq_true, if_false]
  cases side <;>
  · ksp_lk
    refine wpAny_mono last (fun r s' z => ?_) fun _ _ z => z
    obtain ⟨v, rfl, hv⟩ := z
    ksp_lk
    exact hv
end
section
variable {X : Cx} {CX : CXT} {k j : Nat} {C : Addr} {ps : List Str} {sp : Sp} {a b : Expr} {ta tb : TE} {pos : Pos} {W : WX} {op : Operator}
/-- what an own sign with a tuple at its right wants of the class -/
structure TupR (K : PySem.W.Frag) (C : Addr) (nm : String) : Prop where
  rf : PySem.W.findIn K (.ref C) (PySem.dunderR nm) = some none
  t1 : ∃ fo, PySem.W.findIn K (.type "tuple") (PySem.dunder nm) = some fo
  t2 : ∃ ro, PySem.W.findIn K (.type "tuple") (PySem.dunderR nm) = some ro
  sb : PySem.W.subIn K (.type "tuple") (.ref C) = some false
def tBinT (K : PySem.W.Frag) (C : Addr) (sp : Sp) (E : L2.St → XK) (ta tb : TE) : TE := fun σ H Q => ta σ H fun x H1 => tb σ H1 fun y H2 => ∃ p q dx fs ys, x = .ref p ∧ y = .ref q ∧ H2 p = some (.ins C dx fs) ∧ SqT K H2 q ys ∧ sp [x, y] H2 Q (E σ)
theorem pe_binT (c : OpC X.prog X.w X.K X.mg X.base k C (PySem.dunder op.info.2) ps sp) (R : TupR X.K C op.info.2) (tk : Takes X W) (hr : Room j X.A) (hk : k ≤ j) (h1 : PE X a ta) (h2 : PE X b tb) : PE X (.BinOp a op b pos) (tBinT X.K C sp (WE W) ta tb) := by
  obtain ⟨f, fd, M, F, hb⟩ := c.ex
  obtain ⟨rf, ⟨fo, t1⟩, ⟨ro, t2⟩, sb⟩ := R
  refine ⟨fun pins s σ H Q I h => wpAny_BinOp (bin h1 h2 I h fun v u s2 x y H2 I2 rx ry q => ?_)⟩
  obtain ⟨p, q', dx, fs, ys, rfl, rfl, e1, e2, q⟩ := q
  cases rx
  cases ry
  obtain ⟨o1, J1⟩ := ins_at I2 e1
  obtain ⟨m, fr⟩ := I2.fr
  obtain ⟨its, rv, ⟨o, ho, hc, _⟩, _⟩ := I2.tuple e2
  exact bin_left fr I2.ok.mod.kin J1 (fun A' Q' E' s' kp z => wpAny_typeOf_ref (kp _ _ ho) (by rw [hc]; exact z)) c.sf M rf t1 t2 sb
    (thn (run_fnS (vs := [.ref p, .ref q']) F (hr.mono hk) hb (passAt tk σ) I2 (.cons rfl (.cons rfl .nil)) q) fun _ _ z => back_of z)
end
end Ew

set_option Elab.async false
set_option linter.all false
set_option maxRecDepth 100000
set_option maxHeartbeats 4000000
namespace Ew
open PySem PySem.Spec PyProof.Rows L2
section
variable {P : Program} {w : World} {K : PySem.W.Frag} {mg mb : Str → Option Value} {k : Nat} {fa a : Addr} {fd : FuncData} {x : Str} {sp : Sp} {st : Shared} {vs : List Value} {ns : List Int}
/-- what is needed of the heap in which the law is asked -/
structure Seed (P : Program) (w : World) (K : PySem.W.Frag) (h : Heap) (a : Addr) (ns : List Int) (H : Hp) : Prop where
  only : Only H
  sq : SqL K H a (ns.map V.int)
  ok : HOk P w H h
  lone : ∀ b, H b ≠ none → b = a
  apart : H a ≠ none → K.lookup a = none
theorem seed_of (KX : K.In st.heap) (ha : st.heap.get? a = some { cls := .type "list", data := .seq vs.toArray }) (hi : IntsAre vs ns) (hl : ns.length ≤ sizeLine) : ∃ H, Seed P w K st.heap a ns H := by
  have rv := vals_ints hi
  rcases hk : K.lookup a with _ | o
  · have off : ∀ b, ¬ b = a → (fun b => if b = a then some (HO.frz { cls := .type "list", data := .seq vs.toArray } (.lst (ns.map V.int))) else none) b = none := fun b n => if_neg n
    refine ⟨fun b => if b = a then some (.frz { cls := .type "list", data := .seq vs.toArray } (.lst (ns.map V.int))) else none, ⟨fun b => ?_, .inl (.inr ⟨_, if_pos rfl⟩), fun b u z => ?_, fun b z => ?_, fun _ => hk⟩⟩
    · rcases Classical.em (b = a) with e | e
      · exact .inr ⟨_, _, if_pos e⟩
      · exact .inl (off b e)
    · rcases Classical.em (b = a) with e | e
      · cases (if_pos e).symm.trans z
        rw [e]
        exact ⟨ha, by rw [List.length_map]; exact hl, vs, _, rv, ha⟩
      · cases (off b e).symm.trans z
    · exact Classical.byContradiction fun e => z (off b e)
  · have e := KX a o hk
    rw [ha] at e
    cases e
    refine ⟨fun _ => none, ⟨fun _ => .inl rfl, .inr ⟨_, vs.toArray, _, hk, rfl, rfl, rfl, ?_, by simpa using rv⟩, (fun b u z => nomatch z), (fun b z => absurd rfl z), fun z => absurd rfl z⟩⟩
    rw [List.size_toArray, hi.length]
    exact hl
theorem seed_env {H : Hp} (S : Seed P w K st.heap a ns H) (KX : K.In st.heap) (hns : st.heap.Ns mainGlobals mg) (hb : st.heap.Ns builtinsNs mb) (hbb : ∀ x : Str, x ≠ "__name__" → mb x = bootBuiltins x) (hlim : st.heap.NoLimit) (hg : st.gens = #[])
    (ha : st.heap.get? a = some { cls := .type "list", data := .seq vs.toArray }) : Mod K mg (hidT st.heap H) ∧ Env0 P w K mg (hidT st.heap H) callerA [] st H := by
  have free : ∀ {b : Addr}, ¬ b = a → H b = none := fun {b} n => Classical.byContradiction fun z => n (S.lone b z)
  have seen : ∀ {b : Addr} {m : Str → Option Value}, st.heap.Ns b m → (hidT st.heap H).Ns b m := by
    rintro b m ⟨o, es, ep, e, d, r⟩
    refine ⟨o, es, ep, hidT_get e (free fun q => ?_), d, r⟩
    rw [q, ha] at e
    cases e
    cases (show Data.seq vs.toArray _ = Data.dict es ep from d)
  have kin : K.In (hidT st.heap H) := fun b o e => by
    refine hidT_get (KX b o e) (Classical.byContradiction fun z => ?_)
    have q := S.lone b z
    rw [q] at z e
    rw [S.apart z] at e
    cases e
  obtain ⟨mc, l1, l2⟩ := hlim
  have md : Mod K mg (hidT st.heap H) := ⟨kin, seen hns, ⟨mb, seen hb, hbb⟩, mc, seen l1, l2⟩
  exact ⟨md, ⟨rfl, md, fun b o e => of_hidT e, Nat.le_of_eq (hidT_size _ _), trivial, fun b z => (nomatch z), S.ok, .of_eq hg⟩⟩
theorem law_callG (KX : K.In st.heap) (hns : st.heap.Ns mainGlobals mg) (hb : st.heap.Ns builtinsNs mb) (hbb : ∀ x : Str, x ≠ "__name__" → mb x = bootBuiltins x) (hlim : st.heap.NoLimit) (hg : st.gens = #[])
    (ha : st.heap.get? a = some { cls := .type "list", data := .seq vs.toArray }) (hi : IntsAre vs ns) (hl : ns.length ≤ sizeLine) (hr : Room k callerA)
    (F : ∀ base : Heap, K.In base → base.Ns mainGlobals mg → FnG P w K mg base k fa fd [x] sp) (hbind : ∀ (s : Shared) (u : Value), BindsTo s fd ⟨[u], []⟩ [(x, u)])
    (hsp : ∀ H : Hp, Only H → SqL K H a (ns.map V.int) → sp [.ref a] H (fun v _ => v = .bl true) fun _ _ _ => False) :
    codeAny (model P w) callerA (.call (.ref fa) ⟨[.ref a], []⟩) (fun r s' => r = .ok (.ret (.bool true)) ∧ OldK st.heap s'.heap ∧ s'.os = st.os ∧ AllBare s'.gens) st := by
  obtain ⟨H, S⟩ := seed_of (P := P) (w := w) KX ha hi hl
  obtain ⟨md, env⟩ := seed_env S KX hns hb hbb hlim hg ha
  refine codeAny_mono ((F _ md.kin md.glob).go callerA [] st H ⟨[.ref a], []⟩ [.ref a] [.ref a] _ _ rfl hr env (hbind st (.ref a)) (.cons rfl .nil) (hsp H S.only S.sq)) ?_
  intro r s' got
  match r, got with
  | .error e, got =>
    obtain ⟨_, _, _, _, _, _, _, _, _, _, _, _, z⟩ := got
    exact z.elim
  | .ok (.ret u), ⟨v, H', os, bare, un, hok', r', q⟩ =>
    have q : v = .bl true := q
    subst q
    have r' : u = Value.bool true := r'
    subst r'
    refine ⟨rfl, OldK.of_keep fun b o e => ?_, os, bare⟩
    rcases z : H b with _ | u
    · exact un.keep b o e z (fun y => nomatch y) (by simp)
    · rcases S.only b with y | ⟨ob, xs, y⟩
      · rw [z] at y
        cases y
      · obtain ⟨e1, _⟩ := S.ok b _ y
        obtain ⟨e2, _⟩ := hok' b _ (un.frzs b ob _ y)
        rw [e] at e1
        cases e1
        exact e2
end
theorem walk_G {l : PySem.W.OpenLaw} {n k : Nat} {q : Program} {loose : List Str} {XP : (Str → Option Value) → Heap → Prop} {YP : World → Heap → Prop} {d : DefRec} {K : Params → PySem.W.Frag} {sp : World → Sp} {x : Str}
    (hn : l.most = some n) (hn2 : n ≤ sizeLine) (hdf : d.params.defaults = []) (hr : Room k callerA) (hY : ∀ (w : World) (h : Heap), YP w h → (K w.params).In h)
    (F : ∀ (w : World) (mg : Str → Option Value) (fa : Addr) (h : Heap), (K w.params).In h → h.Ns mainGlobals mg → mg d.name = some (.ref fa) →
      ∃ fd : FuncData, (∀ (s : Shared) (u : Value), BindsTo s fd ⟨[u], []⟩ [(x, u)]) ∧ ∀ base : Heap, (K w.params).In base → base.Ns mainGlobals mg → FnG l.prog w (K w.params) mg base k fa fd [x] (sp w))
    (hsp : ∀ (w : World) (H : Hp) (a : Addr) (ns : List Int), ns.length ≤ n → Only H → SqL (K w.params) H a (ns.map V.int) → sp w [.ref a] H (fun v _ => v = .bl true) fun _ _ _ => False) :
    PySem.W.WalkO q loose XP YP l.row.toRowW d [] (fun f vs => PySem.call f vs) := by
  refine Att.attach_call hn hdf ?_
  intro w s₀ s₁ mg mb fa o pm cd doc a vs ns G Y ho hd hcd hmg hobj hints hlen hg
  obtain ⟨fd, bind, go⟩ := F w mg fa _ (hY w _ Y) G.T.g hmg
  exact law_callG (hY w _ Y) G.T.g G.T.b G.T.builtins G.T.nolimit hg hobj hints (Nat.le_trans hlen hn2) hr go bind fun H o s => hsp w H a ns hlen o s
end Ew

set_option Elab.async false
set_option linter.all false
set_option maxRecDepth 100000
set_option maxHeartbeats 4000000
namespace Ew
open PySem PySem.Spec PyProof.Rows L2
open SX (S)
/-! ### lists or tuples -/
section
variable {X : Cx} {tg l : Expr} {tl : TE}
theorem pi_seq (hl : PE X l tl) : PI X tg l (fun σ H R => iList X.K tl σ H R ∨ iTup X.K tl σ H R) :=
  ⟨fun pins s σ H R I h => h.elim ((pi_list hl).run pins s σ H R I) ((pi_tup hl).run pins s σ H R I)⟩
end
/-- a list or a tuple of xs at v -/
def Sq (K : PySem.W.Frag) (F : Hp) (v : V) (xs : List V) : Prop := ∃ p, v = .ref p ∧ (SqL K F p xs ∨ SqT K F p xs)
theorem Sq.up {K : PySem.W.Frag} {F F' : Hp} {v : V} {xs : List V} (h : Sq K F v xs) (e : Same F F') : Sq K F' v xs := by
  obtain ⟨p, h1, h2⟩ := h
  exact ⟨p, h1, h2.imp (upL e) (upT e)⟩
/-! ### a dict comprehension over anything that walks -/
theorem dc_it {J : It} {n : Nat} {G : Hp → Prop} {Y : Nat → Hp → V → Hp → Prop} (w : Walk J n G Y) {g : TG} {tt : TT} {tk tv : TE} {vs : List Nat} {σ : L2.St} {H1 : Hp} {D : Addr} {Qd : Hp → Prop} (Pv : Nat → Hp → Prop) (h0 : Pv 0 (upd H1 D (.dK []))) (hG : ∀ i H, i ≤ n → Pv i H → G H)
    (hs : ∀ i x H H', i < n → Pv i H → Y i H x H' → g x (wipe σ vs) H' fun σ2 H2 => wipe σ2 vs = wipe σ vs ∧ tt σ2 H2 fun b H3 =>
      if b = true then tk σ2 H3 fun y H4 => tv σ2 H4 fun z H5 => ∃ kvs k, y = kV k ∧ H5 D = some (.dK kvs) ∧ kvs.length < sizeLine ∧ Pv (i + 1) (upd H5 D (.dK (putK kvs k z))) else Pv (i + 1) H3) (hd : ∀ H, Pv n H → Qd H) :
    ∃ W : Nat → Nat → Hp → Prop, (∃ m, W 0 m (upd H1 D (.dK []))) ∧ ∀ i m H, W i m H →
      (J.stop i H ∧ Qd H) ∨ (J.go i H ∧ ∃ Nx : Hp → Prop, (∀ H', Nx H' → ∃ m', m' < m ∧ W (i + 1) m' H') ∧ ∀ x H', J.yld i H x H' → g x (wipe σ vs) H' fun σ2 H2 => wipe σ2 vs = wipe σ vs ∧ tt σ2 H2 fun b H3 =>
        if b = true then tk σ2 H3 fun y H4 => tv σ2 H4 fun z H5 => ∃ kvs k, y = kV k ∧ H5 D = some (.dK kvs) ∧ kvs.length < sizeLine ∧ Nx (upd H5 D (.dK (putK kvs k z))) else Nx H3) := by
  refine ⟨fun i m H => m = n - i ∧ i ≤ n ∧ Pv i H, ⟨n, by simp, Nat.zero_le _, h0⟩, ?_⟩
  rintro i m H ⟨rfl, hi, p⟩
  have q := hG i H hi p
  rcases Nat.lt_or_ge i n with lt | ge
  · exact .inr ⟨w.goes i H lt q, Pv (i + 1), fun H' p' => ⟨n - (i + 1), by omega, rfl, lt, p'⟩, fun x H' y => hs i x H H' lt p (w.yields i H x H' lt q y)⟩
  · obtain rfl : i = n := by omega
    exact .inl ⟨w.stops H q, hd H p⟩
/-! ### a text, k times -/
theorem fold_rep (a : Array Nat) : ∀ (m : Nat) (acc : Array Nat), (List.replicate m a).foldl (· ++ ·) acc = acc ++ (List.replicate m a.toList).flatten.toArray
  | 0, acc => by simp
  | m + 1, acc => by
    rw [List.replicate_succ, List.foldl_cons, fold_rep a m, List.replicate_succ]
    apply Array.ext'
    simp
def rep (k : Nat) (l : List Nat) : List Nat := (List.replicate k l).flatten
theorem rep_len (l : List Nat) : ∀ k, (rep k l).length = k * l.length
  | 0 => by simp [rep]
  | k + 1 => by
    have := rep_len l k
    unfold rep at this ⊢
    rw [List.replicate_succ, List.flatten_cons, List.length_append, this, Nat.succ_mul]
    omega
def rRepS : R2 := fun x y H Q => ∃ (l : List Nat) (k : Int), x = .str (S l) ∧ y = .int k ∧ 1 ≤ k ∧ k ≤ 100000 ∧ l ≠ [] ∧ l.length ≤ 100 ∧ Q (.str (S (rep k.toNat l))) H
theorem op_repS {X : Cx} : OpR X (binaryOp .Mult) rRepS := by
  intro pins s σ H x y v u Q I rx ry h
  obtain ⟨l, k, rfl, rfl, h1, h2, h3, h4, q⟩ := h
  obtain ⟨t, rfl⟩ := rx
  obtain ⟨t', rfl⟩ := ry
  have hl : (S l).length = l.length := SX.S_len l
  have l0 : 0 < l.length := List.length_pos_iff.mpr h3
  have kz : ((k.toNat : Nat) : Int) = k := Int.toNat_of_nonneg (by omega)
  have hb : l.length * k.toNat ≤ 100 * 100000 := Nat.mul_le_mul h4 (by omega)
  refine PySem.P.mul_str ?_ (fun _ _ => ?_) (fun _ _ => ?_) ?_
  · rw [decide_eq_false (by omega), decide_eq_false (by omega)]
    rfl
  · rw [hl]
    have : (l.length : Int) ≤ (2 ^ 63 - 1) / k := (Int.le_ediv_iff_mul_le (by omega)).mpr (by
      have : (l.length : Int) * k = ((l.length * k.toNat : Nat) : Int) := by rw [Int.natCast_mul, kz]
      rw [this]
      omega)
    omega
  · rw [hl]
    unfold PySem.Builtin.Str.tooLong
    rw [decide_eq_false_iff_not, sizeLine_eq]
    omega
  · rw [if_neg (by omega)]
    by_cases e : k = 1
    · subst e
      have er : rep (1 : Int).toNat l = l := by simp [rep]
      rw [er] at q
      rw [if_pos (by rfl)]
      exact ⟨.str (S l), H, I, ⟨_, rfl⟩, q⟩
    · have e1 : (k == 1) = false := by rw [beq_eq_false_iff_ne]; exact e
      have e0 : ((S l).length == 0) = false := by rw [hl, beq_eq_false_iff_ne]; omega
      rw [e1, e0, if_neg (by decide), fold_rep]
      have e3 : (#[] ++ (List.replicate k.toNat (S l).cps.toList).flatten.toArray : Array Nat) = (rep k.toNat l).toArray := by simp [rep]
      rw [e3]
      refine ⟨?_, ⟨.str (S (rep k.toNat l)), H, I.tok _, ⟨_, rfl⟩, q⟩⟩
      show (S (rep k.toNat l)).length ≤ sizeLine
      rw [SX.S_len, rep_len, sizeLine_eq, Nat.mul_comm]
      omega
/-! ### str of a tuple, where no repr is under way; of an int -/
def rStrD (K : PySem.W.Frag) : List V → Hp → VK → Prop := fun xs H Q => ∃ (a : Addr) (d : PyData), xs = [.ref a] ∧ Dp K H (.ref a) d ∧ d.showable = true ∧ d.hasDict = false ∧ d.depth ≤ 50 ∧ d.shown.length ≤ sizeLine ∧ Q (.str d.shown) H
theorem call_strD {X : Cx} (hg : X.A.guards = some []) (hu : X.A.units + 64 < cLine) : CallR X (.type "str") (rStrD X.K) := by
  intro pins s σ H xs us Q I r h
  obtain ⟨a, d, rfl, hd, h1, h2, h3, h4, q⟩ := h
  obtain ⟨u, rfl, rx⟩ := vals1 r
  obtain ⟨as, rd⟩ := Dp.reads I d _ _ hd rx
  obtain rfl : u = Value.ref a := rx
  exact str_of_reads rd h1 (PyData.noDict_hsm h2) hg (by omega) (fun _ _ e => e) (fun h' u' tk hk => ⟨.str d.shown, H, I.kept hk, ⟨_, rfl⟩, q⟩) h4
end Ew

set_option Elab.async false
set_option linter.all false
set_option maxRecDepth 100000
set_option maxHeartbeats 4000000
namespace K53
open PySem PySem.Spec PyProof.Rows L2 Ew
def top (i : Nat) : Stmt := PySem.Challenge.pw_ellwarden_k53_parted.main.body.getD i (.Pass ⟨0, 0, 0, 0⟩)
abbrev s__wall : Stmt := (top 1)
abbrev N__wall : List Str := ["k"]
abbrev P__wall : List Str := ["k"]
theorem sc__wall : FnScope N__wall P__wall (defScope s__wall) := ⟨rfl, rfl, rfl, by decide +kernel, rfl, by decide +kernel, by decide +kernel⟩
abbrev s_BadWorldD_initD : Stmt := inClass (top 4) 0
abbrev N_BadWorldD_initD : List Str := ["self", "place"]
abbrev P_BadWorldD_initD : List Str := ["self", "place"]
theorem sc_BadWorldD_initD : FnScope N_BadWorldD_initD P_BadWorldD_initD (defScope s_BadWorldD_initD) := ⟨rfl, rfl, rfl, by decide +kernel, rfl, by decide +kernel, by decide +kernel⟩
abbrev s_BadSpotD_initD : Stmt := inClass (top 5) 0
abbrev N_BadSpotD_initD : List Str := ["self", "place"]
abbrev P_BadSpotD_initD : List Str := ["self", "place"]
theorem sc_BadSpotD_initD : FnScope N_BadSpotD_initD P_BadSpotD_initD (defScope s_BadSpotD_initD) := ⟨rfl, rfl, rfl, by decide +kernel, rfl, by decide +kernel, by decide +kernel⟩
abbrev s_NoSpotD_initD : Stmt := inClass (top 6) 0
abbrev N_NoSpotD_initD : List Str := ["self", "spot"]
abbrev P_NoSpotD_initD : List Str := ["self", "spot"]
theorem sc_NoSpotD_initD : FnScope N_NoSpotD_initD P_NoSpotD_initD (defScope s_NoSpotD_initD) := ⟨rfl, rfl, rfl, by decide +kernel, rfl, by decide +kernel, by decide +kernel⟩
abbrev s_ClashD_initD : Stmt := inClass (top 7) 0
abbrev N_ClashD_initD : List Str := ["self", "ring"]
abbrev P_ClashD_initD : List Str := ["self", "ring"]
theorem sc_ClashD_initD : FnScope N_ClashD_initD P_ClashD_initD (defScope s_ClashD_initD) := ⟨rfl, rfl, rfl, by decide +kernel, rfl, by decide +kernel, by decide +kernel⟩
abbrev s_BadCardD_initD : Stmt := inClass (top 8) 0
abbrev N_BadCardD_initD : List Str := ["self", "place"]
abbrev P_BadCardD_initD : List Str := ["self", "place"]
theorem sc_BadCardD_initD : FnScope N_BadCardD_initD P_BadCardD_initD (defScope s_BadCardD_initD) := ⟨rfl, rfl, rfl, by decide +kernel, rfl, by decide +kernel, by decide +kernel⟩
abbrev s_is_integer : Stmt := (top 10)
abbrev N_is_integer : List Str := ["thing"]
abbrev P_is_integer : List Str := ["thing"]
theorem sc_is_integer : FnScope N_is_integer P_is_integer (defScope s_is_integer) := ⟨rfl, rfl, rfl, by decide +kernel, rfl, by decide +kernel, by decide +kernel⟩
abbrev s_is_row : Stmt := (top 11)
abbrev N_is_row : List Str := ["thing"]
abbrev P_is_row : List Str := ["thing"]
theorem sc_is_row : FnScope N_is_row P_is_row (defScope s_is_row) := ⟨rfl, rfl, rfl, by decide +kernel, rfl, by decide +kernel, by decide +kernel⟩
abbrev s_is_tuple_of : Stmt := (top 12)
abbrev N_is_tuple_of : List Str := ["thing", "many"]
abbrev P_is_tuple_of : List Str := ["thing", "many"]
theorem sc_is_tuple_of : FnScope N_is_tuple_of P_is_tuple_of (defScope s_is_tuple_of) := ⟨rfl, rfl, rfl, by decide +kernel, rfl, by decide +kernel, by decide +kernel⟩
abbrev s_is_ratio : Stmt := (top 14)
abbrev N_is_ratio : List Str := ["thing", "n", "d"]
abbrev P_is_ratio : List Str := ["thing"]
theorem sc_is_ratio : FnScope N_is_ratio P_is_ratio (defScope s_is_ratio) := ⟨rfl, rfl, rfl, by decide +kernel, rfl, by decide +kernel, by decide +kernel⟩
abbrev s_is_spot : Stmt := (top 17)
abbrev N_is_spot : List Str := ["thing", "name", "stretch", "day"]
abbrev P_is_spot : List Str := ["thing"]
theorem sc_is_spot : FnScope N_is_spot P_is_spot (defScope s_is_spot) := ⟨rfl, rfl, rfl, by decide +kernel, rfl, by decide +kernel, by decide +kernel⟩
abbrev s_WorldD_initD : Stmt := inClass (top 18) 0
abbrev N_WorldD_initD : List Str := ["self", "pairs"]
abbrev P_WorldD_initD : List Str := ["self", "pairs"]
theorem sc_WorldD_initD : FnScope N_WorldD_initD P_WorldD_initD (defScope s_WorldD_initD) := ⟨rfl, rfl, rfl, by decide +kernel, rfl, by decide +kernel, by decide +kernel⟩
abbrev s_WorldD_getitemD : Stmt := inClass (top 18) 1
abbrev N_WorldD_getitemD : List Str := ["self", "at"]
abbrev P_WorldD_getitemD : List Str := ["self", "at"]
theorem sc_WorldD_getitemD : FnScope N_WorldD_getitemD P_WorldD_getitemD (defScope s_WorldD_getitemD) := ⟨rfl, rfl, rfl, by decide +kernel, rfl, by decide +kernel, by decide +kernel⟩
abbrev s_WorldD_containsD : Stmt := inClass (top 18) 2
abbrev N_WorldD_containsD : List Str := ["self", "x"]
abbrev P_WorldD_containsD : List Str := ["self", "x"]
theorem sc_WorldD_containsD : FnScope N_WorldD_containsD P_WorldD_containsD (defScope s_WorldD_containsD) := ⟨rfl, rfl, rfl, by decide +kernel, rfl, by decide +kernel, by decide +kernel⟩
abbrev s_WorldD_lenD : Stmt := inClass (top 18) 3
abbrev N_WorldD_lenD : List Str := ["self"]
abbrev P_WorldD_lenD : List Str := ["self"]
theorem sc_WorldD_lenD : FnScope N_WorldD_lenD P_WorldD_lenD (defScope s_WorldD_lenD) := ⟨rfl, rfl, rfl, by decide +kernel, rfl, by decide +kernel, by decide +kernel⟩
abbrev s_WorldD_iterD : Stmt := inClass (top 18) 4
abbrev N_WorldD_iterD : List Str := ["self"]
abbrev P_WorldD_iterD : List Str := ["self"]
theorem sc_WorldD_iterD : FnScope N_WorldD_iterD P_WorldD_iterD (defScope s_WorldD_iterD) := ⟨rfl, rfl, rfl, by decide +kernel, rfl, by decide +kernel, by decide +kernel⟩
abbrev s_WorldD_eqD : Stmt := inClass (top 18) 5
abbrev N_WorldD_eqD : List Str := ["self", "other"]
abbrev P_WorldD_eqD : List Str := ["self", "other"]
theorem sc_WorldD_eqD : FnScope N_WorldD_eqD P_WorldD_eqD (defScope s_WorldD_eqD) := ⟨rfl, rfl, rfl, by decide +kernel, rfl, by decide +kernel, by decide +kernel⟩
abbrev s_World_gap : Stmt := inClass (top 18) 6
abbrev N_World_gap : List Str := ["self", "a", "b"]
abbrev P_World_gap : List Str := ["self", "a", "b"]
theorem sc_World_gap : FnScope N_World_gap P_World_gap (defScope s_World_gap) := ⟨rfl, rfl, rfl, by decide +kernel, rfl, by decide +kernel, by decide +kernel⟩
abbrev s_World_keeps : Stmt := inClass (top 18) 7
abbrev N_World_keeps : List Str := ["self", "link"]
abbrev P_World_keeps : List Str := ["self", "link"]
theorem sc_World_keeps : FnScope N_World_keeps P_World_keeps (defScope s_World_keeps) := ⟨rfl, rfl, rfl, by decide +kernel, rfl, by decide +kernel, by decide +kernel⟩
abbrev s__values_of : Stmt := (top 19)
abbrev N__values_of : List Str := ["pairs", "values", "place", "pair", "spot", "number"]
abbrev P__values_of : List Str := ["pairs"]
theorem sc__values_of : FnScope N__values_of P__values_of (defScope s__values_of) := ⟨rfl, rfl, rfl, by decide +kernel, rfl, by decide +kernel, by decide +kernel⟩
abbrev s_parted : Stmt := (top 21)
abbrev N_parted : List Str := ["card", "other", "a", "row", "beside", "b", "bound", "another"]
abbrev P_parted : List Str := ["card", "other"]
theorem sc_parted : FnScope N_parted P_parted (defScope s_parted) := ⟨rfl, rfl, rfl, by decide +kernel, rfl, by decide +kernel, by decide +kernel⟩
abbrev s__reaching : Stmt := (top 22)
abbrev N__reaching : List Str := ["spots", "row", "spot", "bound"]
abbrev P__reaching : List Str := ["spots", "row"]
theorem sc__reaching : FnScope N__reaching P__reaching (defScope s__reaching) := ⟨rfl, rfl, rfl, by decide +kernel, rfl, by decide +kernel, by decide +kernel⟩
abbrev s_ways_from : Stmt := (top 24)
abbrev N_ways_from : List Str := ["many", "arrows", "ways", "number", "arrow", "_"]
abbrev P_ways_from : List Str := ["many", "arrows"]
theorem sc_ways_from : FnScope N_ways_from P_ways_from (defScope s_ways_from) := ⟨rfl, rfl, rfl, by decide +kernel, rfl, by decide +kernel, by decide +kernel⟩
abbrev s_heights_and_ring : Stmt := (top 25)
abbrev N_heights_and_ring : List Str := ["arrows", "ways", "known", "last", "heights", "active", "lowered", "place", "number", "goal", "height", "ring"]
abbrev P_heights_and_ring : List Str := ["arrows", "ways", "known"]
theorem sc_heights_and_ring : FnScope N_heights_and_ring P_heights_and_ring (defScope s_heights_and_ring) := ⟨rfl, rfl, rfl, by decide +kernel, rfl, by decide +kernel, by decide +kernel⟩
abbrev s__ring_of : Stmt := (top 26)
abbrev N__ring_of : List Str := ["arrows", "last", "walks", "walk", "at"]
abbrev P__ring_of : List Str := ["arrows", "last"]
theorem sc__ring_of : FnScope N__ring_of P__ring_of (defScope s__ring_of) := ⟨rfl, rfl, rfl, by decide +kernel, rfl, by decide +kernel, by decide +kernel⟩
abbrev s__followed_back : Stmt := (top 27)
abbrev N__followed_back : List Str := ["arrows", "last", "start", "goal", "row", "at"]
abbrev P__followed_back : List Str := ["arrows", "last", "start", "goal"]
theorem sc__followed_back : FnScope N__followed_back P__followed_back (defScope s__followed_back) := ⟨rfl, rfl, rfl, by decide +kernel, rfl, by decide +kernel, by decide +kernel⟩
abbrev s_arrows_of : Stmt := (top 29)
abbrev N_arrows_of : List Str := ["links", "places", "a", "b", "bound", "_"]
abbrev P_arrows_of : List Str := ["links", "places"]
theorem sc_arrows_of : FnScope N_arrows_of P_arrows_of (defScope s_arrows_of) := ⟨rfl, rfl, rfl, by decide +kernel, rfl, by decide +kernel, by decide +kernel⟩
abbrev s_places_of : Stmt := (top 30)
abbrev N_places_of : List Str := ["spots", "places", "place", "spot"]
abbrev P_places_of : List Str := ["spots"]
theorem sc_places_of : FnScope N_places_of P_places_of (defScope s_places_of) := ⟨rfl, rfl, rfl, by decide +kernel, rfl, by decide +kernel, by decide +kernel⟩
abbrev s_is_closed : Stmt := (top 32)
abbrev N_is_closed : List Str := ["table", "row", "bound", "further", "far", "near"]
abbrev P_is_closed : List Str := ["table"]
theorem sc_is_closed : FnScope N_is_closed P_is_closed (defScope s_is_closed) := ⟨rfl, rfl, rfl, by decide +kernel, rfl, by decide +kernel, by decide +kernel⟩
abbrev s_joined_tables : Stmt := (top 33)
abbrev N_joined_tables : List Str := ["first", "second", "places", "table", "middle", "further", "row", "place"]
abbrev P_joined_tables : List Str := ["first", "second", "places"]
theorem sc_joined_tables : FnScope N_joined_tables P_joined_tables (defScope s_joined_tables) := ⟨rfl, rfl, rfl, by decide +kernel, rfl, by decide +kernel, by decide +kernel⟩
abbrev s__by_way : Stmt := (top 34)
abbrev N__by_way : List Str := ["row", "step", "further", "bound", "far"]
abbrev P__by_way : List Str := ["row", "step", "further"]
theorem sc__by_way : FnScope N__by_way P__by_way (defScope s__by_way) := ⟨rfl, rfl, rfl, by decide +kernel, rfl, by decide +kernel, by decide +kernel⟩
abbrev s__side_by_side : Stmt := (top 35)
abbrev N__side_by_side : List Str := ["first", "second", "places", "many", "new", "away", "back", "table", "start", "row", "at", "place", "step", "far"]
abbrev P__side_by_side : List Str := ["first", "second", "places"]
theorem sc__side_by_side : FnScope N__side_by_side P__side_by_side (defScope s__side_by_side) := ⟨rfl, rfl, rfl, by decide +kernel, rfl, by decide +kernel, by decide +kernel⟩
abbrev s__with_least : Stmt := (top 36)
abbrev N__with_least : List Str := ["row", "bounds", "places", "found", "place", "bound"]
abbrev P__with_least : List Str := ["row", "bounds", "places"]
theorem sc__with_least : FnScope N__with_least P__with_least (defScope s__with_least) := ⟨rfl, rfl, rfl, by decide +kernel, rfl, by decide +kernel, by decide +kernel⟩
abbrev s__joints : Stmt := (top 37)
abbrev N__joints : List Str := ["first", "second", "places", "both", "ends", "start", "row", "goal", "bound", "place"]
abbrev P__joints : List Str := ["first", "second", "places"]
theorem sc__joints : FnScope N__joints P__joints (defScope s__joints) := ⟨rfl, rfl, rfl, by decide +kernel, rfl, by decide +kernel, by decide +kernel⟩
abbrev s_CardD_initD : Stmt := inClass (top 40) 0
abbrev N_CardD_initD : List Str := ["self", "spots", "rows", "bad", "row"]
abbrev P_CardD_initD : List Str := ["self", "spots", "rows"]
theorem sc_CardD_initD : FnScope N_CardD_initD P_CardD_initD (defScope s_CardD_initD) := ⟨rfl, rfl, rfl, by decide +kernel, rfl, by decide +kernel, by decide +kernel⟩
abbrev s_CardD_getitemD : Stmt := inClass (top 40) 1
abbrev N_CardD_getitemD : List Str := ["self", "at", "a", "b"]
abbrev P_CardD_getitemD : List Str := ["self", "at"]
theorem sc_CardD_getitemD : FnScope N_CardD_getitemD P_CardD_getitemD (defScope s_CardD_getitemD) := ⟨rfl, rfl, rfl, by decide +kernel, rfl, by decide +kernel, by decide +kernel⟩
abbrev s_CardD_lenD : Stmt := inClass (top 40) 2
abbrev N_CardD_lenD : List Str := ["self"]
abbrev P_CardD_lenD : List Str := ["self"]
theorem sc_CardD_lenD : FnScope N_CardD_lenD P_CardD_lenD (defScope s_CardD_lenD) := ⟨rfl, rfl, rfl, by decide +kernel, rfl, by decide +kernel, by decide +kernel⟩
abbrev s_CardD_iterD : Stmt := inClass (top 40) 3
abbrev N_CardD_iterD : List Str := ["self"]
abbrev P_CardD_iterD : List Str := ["self"]
theorem sc_CardD_iterD : FnScope N_CardD_iterD P_CardD_iterD (defScope s_CardD_iterD) := ⟨rfl, rfl, rfl, by decide +kernel, rfl, by decide +kernel, by decide +kernel⟩
abbrev s_CardD_containsD : Stmt := inClass (top 40) 4
abbrev N_CardD_containsD : List Str := ["self", "x"]
abbrev P_CardD_containsD : List Str := ["self", "x"]
theorem sc_CardD_containsD : FnScope N_CardD_containsD P_CardD_containsD (defScope s_CardD_containsD) := ⟨rfl, rfl, rfl, by decide +kernel, rfl, by decide +kernel, by decide +kernel⟩
abbrev s_CardD_eqD : Stmt := inClass (top 40) 5
abbrev N_CardD_eqD : List Str := ["self", "other"]
abbrev P_CardD_eqD : List Str := ["self", "other"]
theorem sc_CardD_eqD : FnScope N_CardD_eqD P_CardD_eqD (defScope s_CardD_eqD) := ⟨rfl, rfl, rfl, by decide +kernel, rfl, by decide +kernel, by decide +kernel⟩
abbrev s_CardD_andD : Stmt := inClass (top 40) 6
abbrev N_CardD_andD : List Str := ["self", "other", "spots", "places", "rows", "spot"]
abbrev P_CardD_andD : List Str := ["self", "other"]
theorem sc_CardD_andD : FnScope N_CardD_andD P_CardD_andD (defScope s_CardD_andD) := ⟨rfl, rfl, rfl, by decide +kernel, rfl, by decide +kernel, by decide +kernel⟩
abbrev s_Card_cut : Stmt := inClass (top 40) 7
abbrev N_Card_cut : List Str := ["self", "spots"]
abbrev P_Card_cut : List Str := ["self", "spots"]
theorem sc_Card_cut : FnScope N_Card_cut P_Card_cut (defScope s_Card_cut) := ⟨rfl, rfl, rfl, by decide +kernel, rfl, by decide +kernel, by decide +kernel⟩
abbrev s_Card_entered : Stmt := inClass (top 40) 8
abbrev N_Card_entered : List Str := ["self", "a", "b", "bound"]
abbrev P_Card_entered : List Str := ["self", "a", "b", "bound"]
theorem sc_Card_entered : FnScope N_Card_entered P_Card_entered (defScope s_Card_entered) := ⟨rfl, rfl, rfl, by decide +kernel, rfl, by decide +kernel, by decide +kernel⟩
abbrev s_Card_as_web : Stmt := inClass (top 40) 9
abbrev N_Card_as_web : List Str := ["self"]
abbrev P_Card_as_web : List Str := ["self"]
theorem sc_Card_as_web : FnScope N_Card_as_web P_Card_as_web (defScope s_Card_as_web) := ⟨rfl, rfl, rfl, by decide +kernel, rfl, by decide +kernel, by decide +kernel⟩
abbrev s_Card__place : Stmt := inClass (top 40) 10
abbrev N_Card__place : List Str := ["self", "spot"]
abbrev P_Card__place : List Str := ["self", "spot"]
theorem sc_Card__place : FnScope N_Card__place P_Card__place (defScope s_Card__place) := ⟨rfl, rfl, rfl, by decide +kernel, rfl, by decide +kernel, by decide +kernel⟩
abbrev s_card_links : Stmt := (top 41)
abbrev N_card_links : List Str := ["card", "why", "links", "a", "row", "b", "bound"]
abbrev P_card_links : List Str := ["card", "why"]
theorem sc_card_links : FnScope N_card_links P_card_links (defScope s_card_links) := ⟨rfl, rfl, rfl, by decide +kernel, rfl, by decide +kernel, by decide +kernel⟩
abbrev s__trusted : Stmt := (top 42)
abbrev N__trusted : List Str := ["spots", "rows", "made", "row"]
abbrev P__trusted : List Str := ["spots", "rows"]
theorem sc__trusted : FnScope N__trusted P__trusted (defScope s__trusted) := ⟨rfl, rfl, rfl, by decide +kernel, rfl, by decide +kernel, by decide +kernel⟩
abbrev s__judge_rows : Stmt := (top 43)
abbrev N__judge_rows : List Str := ["rows", "many", "told", "place", "row", "bound"]
abbrev P__judge_rows : List Str := ["rows", "many"]
theorem sc__judge_rows : FnScope N__judge_rows P__judge_rows (defScope s__judge_rows) := ⟨rfl, rfl, rfl, by decide +kernel, rfl, by decide +kernel, by decide +kernel⟩
abbrev s__clash_ring : Stmt := (top 44)
abbrev N__clash_ring : List Str := ["links", "places", "arrows", "_", "numbers", "number"]
abbrev P__clash_ring : List Str := ["links", "places"]
theorem sc__clash_ring : FnScope N__clash_ring P__clash_ring (defScope s__clash_ring) := ⟨rfl, rfl, rfl, by decide +kernel, rfl, by decide +kernel, by decide +kernel⟩
abbrev s__law_bag_of : Stmt := (top 46)
abbrev N__law_bag_of : List Str := ["_law_script", "_law_mixed", "_law_cell"]
abbrev P__law_bag_of : List Str := ["_law_script"]
theorem sc__law_bag_of : FnScope N__law_bag_of P__law_bag_of (defScope s__law_bag_of) := ⟨rfl, rfl, rfl, by decide +kernel, rfl, by decide +kernel, by decide +kernel⟩
abbrev s__law_pick : Stmt := (top 47)
abbrev N__law_pick : List Str := ["_law_bag", "_law_many", "_law_number", "_law_cell"]
abbrev P__law_pick : List Str := ["_law_bag", "_law_many"]
theorem sc__law_pick : FnScope N__law_pick P__law_pick (defScope s__law_pick) := ⟨rfl, rfl, rfl, by decide +kernel, rfl, by decide +kernel, by decide +kernel⟩
abbrev s__law_choice : Stmt := (top 48)
abbrev N__law_choice : List Str := ["_law_bag", "_law_things"]
abbrev P__law_choice : List Str := ["_law_bag", "_law_things"]
theorem sc__law_choice : FnScope N__law_choice P__law_choice (defScope s__law_choice) := ⟨rfl, rfl, rfl, by decide +kernel, rfl, by decide +kernel, by decide +kernel⟩
abbrev s__law_one_in : Stmt := (top 49)
abbrev N__law_one_in : List Str := ["_law_bag", "_law_many"]
abbrev P__law_one_in : List Str := ["_law_bag", "_law_many"]
theorem sc__law_one_in : FnScope N__law_one_in P__law_one_in (defScope s__law_one_in) := ⟨rfl, rfl, rfl, by decide +kernel, rfl, by decide +kernel, by decide +kernel⟩
abbrev s__law_integer : Stmt := (top 50)
abbrev N__law_integer : List Str := ["_law_thing"]
abbrev P__law_integer : List Str := ["_law_thing"]
theorem sc__law_integer : FnScope N__law_integer P__law_integer (defScope s__law_integer) := ⟨rfl, rfl, rfl, by decide +kernel, rfl, by decide +kernel, by decide +kernel⟩
abbrev s__law_letters_of : Stmt := (top 51)
abbrev N__law_letters_of : List Str := ["_law_bag", "_law_many", "_law_k"]
abbrev P__law_letters_of : List Str := ["_law_bag", "_law_many"]
theorem sc__law_letters_of : FnScope N__law_letters_of P__law_letters_of (defScope s__law_letters_of) := ⟨rfl, rfl, rfl, by decide +kernel, rfl, by decide +kernel, by decide +kernel⟩
abbrev s__law_words : Stmt := (top 52)
abbrev N__law_words : List Str := ["_law_told"]
abbrev P__law_words : List Str := []
theorem sc__law_words : FnScope N__law_words P__law_words (defScope s__law_words) := ⟨rfl, rfl, rfl, by decide +kernel, rfl, by decide +kernel, by decide +kernel⟩
abbrev s__law_names_of : Stmt := (top 53)
abbrev N__law_names_of : List Str := ["_law_bag", "_law_many", "_law_taken", "_law_letters", "_law_k", "_law_drawn", "_law_name", "_law_step"]
abbrev P__law_names_of : List Str := ["_law_bag", "_law_many"]
theorem sc__law_names_of : FnScope N__law_names_of P__law_names_of (defScope s__law_names_of) := ⟨rfl, rfl, rfl, by decide +kernel, rfl, by decide +kernel, by decide +kernel⟩
abbrev s__law_gcd : Stmt := (top 54)
abbrev N__law_gcd : List Str := ["_law_a", "_law_b", "_law_first", "_law_second", "_law_rest"]
abbrev P__law_gcd : List Str := ["_law_a", "_law_b"]
theorem sc__law_gcd : FnScope N__law_gcd P__law_gcd (defScope s__law_gcd) := ⟨rfl, rfl, rfl, by decide +kernel, rfl, by decide +kernel, by decide +kernel⟩
abbrev s__law_ratio : Stmt := (top 55)
abbrev N__law_ratio : List Str := ["_law_n", "_law_d", "_law_common"]
abbrev P__law_ratio : List Str := ["_law_n", "_law_d"]
theorem sc__law_ratio : FnScope N__law_ratio P__law_ratio (defScope s__law_ratio) := ⟨rfl, rfl, rfl, by decide +kernel, rfl, by decide +kernel, by decide +kernel⟩
abbrev s__law_is_ratio : Stmt := (top 56)
abbrev N__law_is_ratio : List Str := ["_law_thing"]
abbrev P__law_is_ratio : List Str := ["_law_thing"]
theorem sc__law_is_ratio : FnScope N__law_is_ratio P__law_is_ratio (defScope s__law_is_ratio) := ⟨rfl, rfl, rfl, by decide +kernel, rfl, by decide +kernel, by decide +kernel⟩
abbrev s__law_minus : Stmt := (top 57)
abbrev N__law_minus : List Str := ["_law_a", "_law_b"]
abbrev P__law_minus : List Str := ["_law_a", "_law_b"]
theorem sc__law_minus : FnScope N__law_minus P__law_minus (defScope s__law_minus) := ⟨rfl, rfl, rfl, by decide +kernel, rfl, by decide +kernel, by decide +kernel⟩
abbrev s__law_ground : Stmt := (top 58)
abbrev N__law_ground : List Str := []
abbrev P__law_ground : List Str := []
theorem sc__law_ground : FnScope N__law_ground P__law_ground (defScope s__law_ground) := ⟨rfl, rfl, rfl, by decide +kernel, rfl, by decide +kernel, by decide +kernel⟩
abbrev s__law_values_of : Stmt := (top 59)
abbrev N__law_values_of : List Str := ["_law_world", "_law_spots", "_law_values", "_law_spot", "_law_value"]
abbrev P__law_values_of : List Str := ["_law_world", "_law_spots"]
theorem sc__law_values_of : FnScope N__law_values_of P__law_values_of (defScope s__law_values_of) := ⟨rfl, rfl, rfl, by decide +kernel, rfl, by decide +kernel, by decide +kernel⟩
abbrev s__law_keeps : Stmt := (top 60)
abbrev N__law_keeps : List Str := ["_law_values", "_law_link", "_law_first", "_law_second"]
abbrev P__law_keeps : List Str := ["_law_values", "_law_link"]
theorem sc__law_keeps : FnScope N__law_keeps P__law_keeps (defScope s__law_keeps) := ⟨rfl, rfl, rfl, by decide +kernel, rfl, by decide +kernel, by decide +kernel⟩
abbrev s__law_allowed : Stmt := (top 61)
abbrev N__law_allowed : List Str := ["_law_values", "_law_links", "_law_link"]
abbrev P__law_allowed : List Str := ["_law_values", "_law_links"]
theorem sc__law_allowed : FnScope N__law_allowed P__law_allowed (defScope s__law_allowed) := ⟨rfl, rfl, rfl, by decide +kernel, rfl, by decide +kernel, by decide +kernel⟩
abbrev s__law_some_spots : Stmt := (top 62)
abbrev N__law_some_spots : List Str := ["_law_bag", "_law_many", "_law_names", "_law_spots", "_law_k", "_law_spot"]
abbrev P__law_some_spots : List Str := ["_law_bag", "_law_many"]
theorem sc__law_some_spots : FnScope N__law_some_spots P__law_some_spots (defScope s__law_some_spots) := ⟨rfl, rfl, rfl, by decide +kernel, rfl, by decide +kernel, by decide +kernel⟩
abbrev s__law_closing : Stmt := (top 63)
abbrev N__law_closing : List Str := ["_law_rows", "_law_table", "_law_middle", "_law_through", "_law_a", "_law_row", "_law_step", "_law_b"]
abbrev P__law_closing : List Str := ["_law_rows"]
theorem sc__law_closing : FnScope N__law_closing P__law_closing (defScope s__law_closing) := ⟨rfl, rfl, rfl, by decide +kernel, rfl, by decide +kernel, by decide +kernel⟩
abbrev s__law_drawn_rows : Stmt := (top 64)
abbrev N__law_drawn_rows : List Str := ["_law_bag", "_law_many", "_law_scale", "_law_spread", "_law_values", "_law_rows", "_law_a", "_law_row", "_law_k", "_law_b"]
abbrev P__law_drawn_rows : List Str := ["_law_bag", "_law_many"]
theorem sc__law_drawn_rows : FnScope N__law_drawn_rows P__law_drawn_rows (defScope s__law_drawn_rows) := ⟨rfl, rfl, rfl, by decide +kernel, rfl, by decide +kernel, by decide +kernel⟩
abbrev s__law_narrowed : Stmt := (top 65)
abbrev N__law_narrowed : List Str := ["_law_bag", "_law_rows", "_law_table", "_law_many", "_law_k", "_law_a", "_law_b", "_law_row"]
abbrev P__law_narrowed : List Str := ["_law_bag", "_law_rows"]
theorem sc__law_narrowed : FnScope N__law_narrowed P__law_narrowed (defScope s__law_narrowed) := ⟨rfl, rfl, rfl, by decide +kernel, rfl, by decide +kernel, by decide +kernel⟩
abbrev s__law_card_links : Stmt := (top 66)
abbrev N__law_card_links : List Str := ["_law_spots", "_law_rows", "_law_links", "_law_a", "_law_b"]
abbrev P__law_card_links : List Str := ["_law_spots", "_law_rows"]
theorem sc__law_card_links : FnScope N__law_card_links P__law_card_links (defScope s__law_card_links) := ⟨rfl, rfl, rfl, by decide +kernel, rfl, by decide +kernel, by decide +kernel⟩
abbrev s__law_first_of : Stmt := (top 67)
abbrev N__law_first_of : List Str := ["_law_rows", "_law_other", "_law_a", "_law_b"]
abbrev P__law_first_of : List Str := ["_law_rows", "_law_other"]
theorem sc__law_first_of : FnScope N__law_first_of P__law_first_of (defScope s__law_first_of) := ⟨rfl, rfl, rfl, by decide +kernel, rfl, by decide +kernel, by decide +kernel⟩
abbrev s__law_parted : Stmt := (top 68)
abbrev N__law_parted : List Str := ["_law_card", "_law_other", "_law_found", "e"]
abbrev P__law_parted : List Str := ["_law_card", "_law_other"]
theorem sc__law_parted : FnScope N__law_parted P__law_parted (defScope s__law_parted) := ⟨rfl, rfl, rfl, by decide +kernel, rfl, by decide +kernel, by decide +kernel⟩
abbrev s__law_right : Stmt := (top 69)
abbrev N__law_right : List Str := ["_law_answer", "_law_spots", "_law_rows", "_law_other", "_law_pair", "_law_found", "_law_a", "_law_b", "_law_wide", "_law_narrow", "_law_values"]
abbrev P__law_right : List Str := ["_law_answer", "_law_spots", "_law_rows", "_law_other"]
theorem sc__law_right : FnScope N__law_right P__law_right (defScope s__law_right) := ⟨rfl, rfl, rfl, by decide +kernel, rfl, by decide +kernel, by decide +kernel⟩
abbrev s__law_unlike : Stmt := (top 70)
abbrev N__law_unlike : List Str := ["_law_bag", "_law_spots", "_law_rows", "_law_spare", "_law_many", "_law_way", "_law_order", "_law_at", "_law_left", "_law_k", "_law_j"]
abbrev P__law_unlike : List Str := ["_law_bag", "_law_spots", "_law_rows", "_law_spare"]
theorem sc__law_unlike : FnScope N__law_unlike P__law_unlike (defScope s__law_unlike) := ⟨rfl, rfl, rfl, by decide +kernel, rfl, by decide +kernel, by decide +kernel⟩
abbrev s_law : Stmt := (top 71)
abbrev N_law : List Str := ["_law_script", "_law_bag", "_law_many", "_law_spots", "_law_spare", "_law_rows", "_law_way", "_law_second", "_law_card", "_law_other", "_law_turn", "_law_same", "_law_unlike_spots", "_law_unlike_rows", "_law_answer", "_law_row"]
abbrev P_law : List Str := ["_law_script"]
theorem sc_law : FnScope N_law P_law (defScope s_law) := ⟨rfl, rfl, rfl, by decide +kernel, rfl, by decide +kernel, by decide +kernel⟩
structure Ad where
  Card : Addr
  BadSpot : Addr
  NoSpot : Addr
  Clash : Addr
  BadCard : Addr
  EllError : Addr
  World : Addr
  BadWorld : Addr
  aG : Addr
  aW : Addr
/-- an error's own __init__ -/
structure IniAt (K : PySem.W.Frag) (C : Addr) (q : Str) (st : Stmt) (ps : List Str) : Prop where
  ex : ∃ f fd, PySem.W.findIn K (.ref C) "__init__" = some (some (.ref f)) ∧ PySem.W.typeIn K (.ref f) = some (.type "function") ∧ Fun K "__init__" q st f fd ∧ Binds K fd ps []
/-- a method that stands for a sign -/
structure OwAt (K : PySem.W.Frag) (C : Addr) (m q : Str) (st : Stmt) (ps : List Str) : Prop where
  ex : ∃ f fd, OpM K C m f ∧ PySem.W.fnIn K f = true ∧ Fun K m q st f fd ∧ Binds K fd ps []
/-- what the top has written -/
structure Txt (K : PySem.W.Frag) (mg : Str → Option Value) (a : Ad) : Prop where
  n_isinstance : mg "isinstance" = none
  n_int : mg "int" = none
  n_bool : mg "bool" = none
  n_tuple : mg "tuple" = none
  n_str : mg "str" = none
  n_list : mg "list" = none
  n_len : mg "len" = none
  n_any : mg "any" = none
  n_all : mg "all" = none
  n_range : mg "range" = none
  n_enumerate : mg "enumerate" = none
  n_zip : mg "zip" = none
  n_min : mg "min" = none
  n_ValueError : mg "ValueError" = none
  n_abs : mg "abs" = none
  n_iter : mg "iter" = none
  gcd : mg "gcd" = some (.builtin "math.gcd")
  k_GROUND : mg "GROUND" = some (.ref a.aG)
  t_GROUND : ∀ H, SqT K H a.aG [.str "ground", .int 0, .int 0]
  k_WHY : mg "WHY" = some (.ref a.aW)
  t_WHY : ∀ H, SqT K H a.aW [.str "card"]
  ox_BadSpot : OexC K a.BadSpot
  g_BadSpot : mg "BadSpot" = some (.ref a.BadSpot)
  no_BadSpot_place : PySem.W.findIn K (.ref a.BadSpot) "place" = some none
  i_BadSpot : IniAt K a.BadSpot "BadSpot.__init__" s_BadSpotD_initD P_BadSpotD_initD
  e_BadSpot : ErrC K a.BadSpot
  xf_BadSpot : XfC K a.BadSpot
  ox_NoSpot : OexC K a.NoSpot
  g_NoSpot : mg "NoSpot" = some (.ref a.NoSpot)
  no_NoSpot_spot : PySem.W.findIn K (.ref a.NoSpot) "spot" = some none
  i_NoSpot : IniAt K a.NoSpot "NoSpot.__init__" s_NoSpotD_initD P_NoSpotD_initD
  e_NoSpot : ErrC K a.NoSpot
  xf_NoSpot : XfC K a.NoSpot
  ox_Clash : OexC K a.Clash
  g_Clash : mg "Clash" = some (.ref a.Clash)
  no_Clash_ring : PySem.W.findIn K (.ref a.Clash) "ring" = some none
  i_Clash : IniAt K a.Clash "Clash.__init__" s_ClashD_initD P_ClashD_initD
  e_Clash : ErrC K a.Clash
  xf_Clash : XfC K a.Clash
  ox_BadCard : OexC K a.BadCard
  g_BadCard : mg "BadCard" = some (.ref a.BadCard)
  no_BadCard_place : PySem.W.findIn K (.ref a.BadCard) "place" = some none
  i_BadCard : IniAt K a.BadCard "BadCard.__init__" s_BadCardD_initD P_BadCardD_initD
  e_BadCard : ErrC K a.BadCard
  xf_BadCard : XfC K a.BadCard
  ox_BadWorld : OexC K a.BadWorld
  g_BadWorld : mg "BadWorld" = some (.ref a.BadWorld)
  no_BadWorld_place : PySem.W.findIn K (.ref a.BadWorld) "place" = some none
  i_BadWorld : IniAt K a.BadWorld "BadWorld.__init__" s_BadWorldD_initD P_BadWorldD_initD
  e_BadWorld : ErrC K a.BadWorld
  xf_BadWorld : XfC K a.BadWorld
  g_World : mg "World" = some (.ref a.World)
  wki : KiC K a.World
  wnV : NoAttr K a.World "_values"
  i_World : MkAt K a.World "World.__init__" s_WorldD_initD P_WorldD_initD
  wo_getitem : OwAt K a.World "__getitem__" "World.__getitem__" s_WorldD_getitemD P_WorldD_getitemD
  wo_len : OwAt K a.World "__len__" "World.__len__" s_WorldD_lenD P_WorldD_lenD
  wo_iter : OwAt K a.World "__iter__" "World.__iter__" s_WorldD_iterD P_WorldD_iterD
  kv_BadCard : PySem.W.kitOne K (.ref a.BadCard) (.type "ValueError") = some true
  ke_BadCard : PySem.W.kitOne K (.ref a.BadCard) (.ref a.EllError) = some true
  kb_BadCard : PySem.W.kitOne K (.ref a.BadCard) (.ref a.BadSpot) = some false
  em_BadCard : PySem.W.exmOne K (.ref a.BadCard) (.ref a.BadCard) = some true
  g_EllError : mg "EllError" = some (.ref a.EllError)
  g_Card : mg "Card" = some (.ref a.Card)
  ki : KiC K a.Card
  nS : NoAttr K a.Card "spots"
  nP : NoAttr K a.Card "_places"
  nR : NoAttr K a.Card "rows"
  sf : PySem.W.selfFirst K a.Card = true
  nf : NoFirst K a.Card
  no : ∀ T ∈ (["NoneType", "bool", "int", "str", "list", "tuple"] : List String), PySem.W.kitOne K (.type T) (.ref a.Card) = some false
  i_Card : MkAt K a.Card "Card.__init__" s_CardD_initD P_CardD_initD
  o_getitem : OwAt K a.Card "__getitem__" "Card.__getitem__" s_CardD_getitemD P_CardD_getitemD
  o_len : OwAt K a.Card "__len__" "Card.__len__" s_CardD_lenD P_CardD_lenD
  o_contains : OwAt K a.Card "__contains__" "Card.__contains__" s_CardD_containsD P_CardD_containsD
  o_eq : OwAt K a.Card "__eq__" "Card.__eq__" s_CardD_eqD P_CardD_eqD
  m__place : MthAt K a.Card "_place" "Card._place" s_Card__place P_Card__place
  d__wall : DefAt K mg "_wall" s__wall P__wall
  d_is_integer : DefAt K mg "is_integer" s_is_integer P_is_integer
  d_is_row : DefAt K mg "is_row" s_is_row P_is_row
  d_is_tuple_of : DefAt K mg "is_tuple_of" s_is_tuple_of P_is_tuple_of
  d_is_ratio : DefAt K mg "is_ratio" s_is_ratio P_is_ratio
  d_is_spot : DefAt K mg "is_spot" s_is_spot P_is_spot
  d__values_of : DefAt K mg "_values_of" s__values_of P__values_of
  d_parted : DefAt K mg "parted" s_parted P_parted
  d__reaching : DefAt K mg "_reaching" s__reaching P__reaching
  d_ways_from : DefAt K mg "ways_from" s_ways_from P_ways_from
  d__ring_of : DefAt K mg "_ring_of" s__ring_of P__ring_of
  d__followed_back : DefAt K mg "_followed_back" s__followed_back P__followed_back
  d_arrows_of : DefAt K mg "arrows_of" s_arrows_of P_arrows_of
  d_places_of : DefAt K mg "places_of" s_places_of P_places_of
  d_is_closed : DefAt K mg "is_closed" s_is_closed P_is_closed
  d_joined_tables : DefAt K mg "joined_tables" s_joined_tables P_joined_tables
  d__by_way : DefAt K mg "_by_way" s__by_way P__by_way
  d__side_by_side : DefAt K mg "_side_by_side" s__side_by_side P__side_by_side
  d__with_least : DefAt K mg "_with_least" s__with_least P__with_least
  d__joints : DefAt K mg "_joints" s__joints P__joints
  d_card_links : DefAt K mg "card_links" s_card_links P_card_links
  d__trusted : DefAt K mg "_trusted" s__trusted P__trusted
  d__judge_rows : DefAt K mg "_judge_rows" s__judge_rows P__judge_rows
  d__clash_ring : DefAt K mg "_clash_ring" s__clash_ring P__clash_ring
  d__law_bag_of : DefAt K mg "_law_bag_of" s__law_bag_of P__law_bag_of
  d__law_pick : DefAt K mg "_law_pick" s__law_pick P__law_pick
  d__law_choice : DefAt K mg "_law_choice" s__law_choice P__law_choice
  d__law_one_in : DefAt K mg "_law_one_in" s__law_one_in P__law_one_in
  d__law_integer : DefAt K mg "_law_integer" s__law_integer P__law_integer
  d__law_letters_of : DefAt K mg "_law_letters_of" s__law_letters_of P__law_letters_of
  d__law_words : DefAt K mg "_law_words" s__law_words P__law_words
  d__law_names_of : DefAt K mg "_law_names_of" s__law_names_of P__law_names_of
  d__law_gcd : DefAt K mg "_law_gcd" s__law_gcd P__law_gcd
  d__law_ratio : DefAt K mg "_law_ratio" s__law_ratio P__law_ratio
  d__law_is_ratio : DefAt K mg "_law_is_ratio" s__law_is_ratio P__law_is_ratio
  d__law_minus : DefAt K mg "_law_minus" s__law_minus P__law_minus
  d__law_ground : DefAt K mg "_law_ground" s__law_ground P__law_ground
  d__law_values_of : DefAt K mg "_law_values_of" s__law_values_of P__law_values_of
  d__law_keeps : DefAt K mg "_law_keeps" s__law_keeps P__law_keeps
  d__law_allowed : DefAt K mg "_law_allowed" s__law_allowed P__law_allowed
  d__law_some_spots : DefAt K mg "_law_some_spots" s__law_some_spots P__law_some_spots
  d__law_closing : DefAt K mg "_law_closing" s__law_closing P__law_closing
  d__law_drawn_rows : DefAt K mg "_law_drawn_rows" s__law_drawn_rows P__law_drawn_rows
  d__law_narrowed : DefAt K mg "_law_narrowed" s__law_narrowed P__law_narrowed
  d__law_card_links : DefAt K mg "_law_card_links" s__law_card_links P__law_card_links
  d__law_first_of : DefAt K mg "_law_first_of" s__law_first_of P__law_first_of
  d__law_parted : DefAt K mg "_law_parted" s__law_parted P__law_parted
  d__law_right : DefAt K mg "_law_right" s__law_right P__law_right
  d__law_unlike : DefAt K mg "_law_unlike" s__law_unlike P__law_unlike
  d_law : DefAt K mg "law" s_law P_law
section
variable {P : Program} {w : World} {K : PySem.W.Frag} {mg : Str → Option Value} {base : Heap} {a : Ad}
/-! ### checks -/
/-- not an integer: a bool, or a thing of a type that is none of int's -/
def NoI (K : PySem.W.Frag) (H : Hp) (v : V) : Prop := (∃ b, v = .bl b) ∨ ∃ t, TyX K H v t ∧ PySem.W.kitOne K t (.type "int") = some false
def sp_is_integer (K : PySem.W.Frag) : Sp := fun vs H Q _ => ∃ v, vs = [v] ∧ ((∃ i, v = .int i ∧ Q (.bl true) H) ∨ (NoI K H v ∧ Q (.bl false) H))
theorem c_is_integer (T : Txt K mg a) : Cl P w K mg base 1 "is_integer" P_is_integer (sp_is_integer K) [] :=
  T.d_is_integer.cl sc_is_integer (fun vs H Q E h => by obtain ⟨i, rfl, _⟩ := h; rfl) fun f cdv A outer s H vs Q E hr h => by
    obtain ⟨v, rfl, h⟩ := h
    refine ⟨_, ((pss_one (ps_ret (pe_and (pe_callB call_isi (by rfl) T.n_isinstance (by decide +kernel) (pa_cons (pv 0) (pa_cons (pe_bltn (v := .ty "int") (by rfl) T.n_int (by decide +kernel) rfl) pa_nil))) (pe_one (pe_not (pe_callB call_isi (by rfl) T.n_isinstance (by decide +kernel) (pa_cons (pv 0) (pa_cons (pe_bltn (v := .ty "bool") (by rfl) T.n_bool (by decide +kernel) rfl) pa_nil))))))))), ?_⟩
    rcases h with ⟨i, rfl, k⟩ | ⟨⟨b, rfl⟩ | ⟨t, ht, hk⟩, k⟩
    · refine ⟨_, rfl, _, _, _, _, true, rfl, .ty _, .base (.int _), kit_ty (by decide +kernel), true, rfl, iteT ?_⟩
      exact ⟨_, rfl, _, _, _, _, false, rfl, .ty _, .base (.int _), kit_ty (by decide +kernel), false, rfl, k⟩
    · refine ⟨_, rfl, _, _, _, _, true, rfl, .ty _, .base (.bl _), kit_ty (by decide +kernel), true, rfl, iteT ?_⟩
      exact ⟨_, rfl, _, _, _, _, true, rfl, .ty _, .base (.bl _), kit_ty (by decide +kernel), true, rfl, k⟩
    · exact ⟨_, rfl, _, _, _, _, false, rfl, .ty _, ht, hk, false, rfl, iteF k⟩
def sp_is_tuple_of (K : PySem.W.Frag) : Sp := fun vs H Q _ => ∃ (v : V) (m : Int), vs = [v, .int m] ∧
  ((∃ p xs, v = .ref p ∧ SqT K H p xs ∧ Q (.bl (decide (V.int xs.length = V.int m))) H) ∨ ∃ t, TyX K H v t ∧ PySem.W.kitOne K t (.type "tuple") = some false ∧ Q (.bl false) H)
theorem c_is_tuple_of (T : Txt K mg a) : Cl P w K mg base 1 "is_tuple_of" P_is_tuple_of (sp_is_tuple_of K) [] :=
  T.d_is_tuple_of.cl sc_is_tuple_of (fun vs H Q E h => by obtain ⟨i, lo, rfl, _⟩ := h; rfl) fun f cdv A outer s H vs Q E hr h => by
    obtain ⟨v, m, rfl, h⟩ := h
    refine ⟨_, ((pss_one (ps_ret (pe_and (pe_callB call_isi (by rfl) T.n_isinstance (by decide +kernel) (pa_cons (pv 0) (pa_cons (pe_bltn (v := .ty "tuple") (by rfl) T.n_tuple (by decide +kernel) rfl) pa_nil))) (pe_one (pe_cmpR op_eq (pe_callB call_len_seq (by rfl) T.n_len (by decide +kernel) (pa_cons (pv 0) pa_nil)) (pv 1) (nomark _))))))), ?_⟩
    rcases h with ⟨p, xs, rfl, hx, k⟩ | ⟨t, ht, hk, k⟩
    · refine ⟨_, rfl, _, _, _, _, true, rfl, .ty _, ty_sqT hx, kit_ty (by decide +kernel), true, rfl, iteT ?_⟩
      exact ⟨_, rfl, _, _, rfl, .inr hx, _, rfl, rfl, k⟩
    · exact ⟨_, rfl, _, _, _, _, false, rfl, .ty _, ht, hk, false, rfl, iteF k⟩
def sp_is_row (K : PySem.W.Frag) : Sp := fun vs H Q _ => ∃ (F : Hp) (p : Addr) (xs : List V), vs = [.ref p] ∧ (SqL K F p xs ∨ SqT K F p xs) ∧ Pu F H Q fun _ v => v = .bl true
theorem c_is_row (T : Txt K mg a) : Cl P w K mg base 1 "is_row" P_is_row (sp_is_row K) [] :=
  T.d_is_row.cl sc_is_row (fun vs H Q E h => by obtain ⟨F, p, xs, rfl, _⟩ := h; rfl) fun f cdv A outer s H vs Q E hr h => by
    obtain ⟨F, p, xs, rfl, hx, hf, k⟩ := h
    refine ⟨_, ((pss_one (ps_ret (pe_callB call_isiT (by rfl) T.n_isinstance (by decide +kernel) (pa_cons (pv 0) (pa_cons (pe_tup (pa_cons (pe_bltn (v := .ty "list") (by rfl) T.n_list (by decide +kernel) rfl) (pa_cons (pe_bltn (v := .ty "tuple") (by rfl) T.n_tuple (by decide +kernel) rfl) pa_nil))) pa_nil)))))), ?_⟩
    refine ⟨_, rfl, by show 2 ≤ sizeLine; decide, fun q hq => ?_⟩
    have fin : ∀ t, TyX K (upd H q (.tup [.ty "list", .ty "tuple"])) (.ref p) t → PySem.W.kitAny K t [.type "list", .type "tuple"] = some true → rIsiT K [.ref p, .ref q] (upd H q (.tup [.ty "list", .ty "tuple"])) Q := fun t ty hk =>
      ⟨_, q, _, t, _, true, rfl, upd_same, .cons (.ty _) (.cons (.ty _) .nil), ty, hk, k _ _ _ (stp_new hf hq) rfl⟩
    rcases hx with hx | hx
    · exact fin _ (ty_sqL (upL (same_new hq) (upL hf hx))) (kitAny_cons (b := true) (kit_ty (by decide +kernel)) (fun z => nomatch z) fun _ => rfl)
    · exact fin _ (ty_sqT (upT (same_new hq) (upT hf hx))) (kitAny_cons (b := false) (kit_ty (by decide +kernel)) (fun _ => kitAny_cons (b := true) (kit_ty (by decide +kernel)) (fun z => nomatch z) fun _ => rfl) fun z => nomatch z)
theorem map_of {α : Type} {xs : List α} {f : α → V} : ∀ {ys : List V}, ys.length = xs.length → (∀ (j : Nat) y, ys[j]? = some y → ∃ x, xs[j]? = some x ∧ y = f x) → ys = xs.map f := by
  induction xs with
  | nil => intro ys h _; simpa using h
  | cons x xs ih =>
    intro ys h q
    cases ys with
    | nil => simp at h
    | cons y ys =>
      obtain ⟨x', hx, hy⟩ := q 0 y rfl
      cases hx
      rw [hy, List.map_cons, ih (by simpa using h) fun j z hz => q (j + 1) z hz]
theorem x_BadSpot (T : Txt K mg a) : Mke P w K mg base 1 "BadSpot" a.BadSpot P_BadSpotD_initD (spI1 a.BadSpot "place") := by
  obtain ⟨f, fd, hi, ht, F, b⟩ := T.i_BadSpot.ex
  refine ⟨T.g_BadSpot, T.ox_BadSpot, f, fd, hi, ht, fun_ok F sc_BadSpotD_initD (fun vs H Q E h => by obtain ⟨x, v, rfl, _⟩ := h; rfl) fun f cdv A outer s H vs Q E hr h => ?_, b⟩
  obtain ⟨x, v, rfl, hx, k⟩ := h
  exact ⟨_, ((pss_one (ps_ost (pv 0) (pv 1)))), _, rfl, _, rfl, x, a.BadSpot, rfl, T.ox_BadSpot, T.no_BadSpot_place, .inl ⟨hx, fun dx n ne => k dx n ne⟩⟩
theorem x_NoSpot (T : Txt K mg a) : Mke P w K mg base 1 "NoSpot" a.NoSpot P_NoSpotD_initD (spI1 a.NoSpot "spot") := by
  obtain ⟨f, fd, hi, ht, F, b⟩ := T.i_NoSpot.ex
  refine ⟨T.g_NoSpot, T.ox_NoSpot, f, fd, hi, ht, fun_ok F sc_NoSpotD_initD (fun vs H Q E h => by obtain ⟨x, v, rfl, _⟩ := h; rfl) fun f cdv A outer s H vs Q E hr h => ?_, b⟩
  obtain ⟨x, v, rfl, hx, k⟩ := h
  exact ⟨_, ((pss_one (ps_ost (pv 0) (pv 1)))), _, rfl, _, rfl, x, a.NoSpot, rfl, T.ox_NoSpot, T.no_NoSpot_spot, .inl ⟨hx, fun dx n ne => k dx n ne⟩⟩
theorem x_Clash (T : Txt K mg a) : Mke P w K mg base 1 "Clash" a.Clash P_ClashD_initD (spI1 a.Clash "ring") := by
  obtain ⟨f, fd, hi, ht, F, b⟩ := T.i_Clash.ex
  refine ⟨T.g_Clash, T.ox_Clash, f, fd, hi, ht, fun_ok F sc_ClashD_initD (fun vs H Q E h => by obtain ⟨x, v, rfl, _⟩ := h; rfl) fun f cdv A outer s H vs Q E hr h => ?_, b⟩
  obtain ⟨x, v, rfl, hx, k⟩ := h
  exact ⟨_, ((pss_one (ps_ost (pv 0) (pv 1)))), _, rfl, _, rfl, x, a.Clash, rfl, T.ox_Clash, T.no_Clash_ring, .inl ⟨hx, fun dx n ne => k dx n ne⟩⟩
theorem x_BadCard (T : Txt K mg a) : Mke P w K mg base 1 "BadCard" a.BadCard P_BadCardD_initD (spI1 a.BadCard "place") := by
  obtain ⟨f, fd, hi, ht, F, b⟩ := T.i_BadCard.ex
  refine ⟨T.g_BadCard, T.ox_BadCard, f, fd, hi, ht, fun_ok F sc_BadCardD_initD (fun vs H Q E h => by obtain ⟨x, v, rfl, _⟩ := h; rfl) fun f cdv A outer s H vs Q E hr h => ?_, b⟩
  obtain ⟨x, v, rfl, hx, k⟩ := h
  exact ⟨_, ((pss_one (ps_ost (pv 0) (pv 1)))), _, rfl, _, rfl, x, a.BadCard, rfl, T.ox_BadCard, T.no_BadCard_place, .inl ⟨hx, fun dx n ne => k dx n ne⟩⟩
theorem x_BadWorld (T : Txt K mg a) : Mke P w K mg base 1 "BadWorld" a.BadWorld P_BadWorldD_initD (spI1 a.BadWorld "place") := by
  obtain ⟨f, fd, hi, ht, F, b⟩ := T.i_BadWorld.ex
  refine ⟨T.g_BadWorld, T.ox_BadWorld, f, fd, hi, ht, fun_ok F sc_BadWorldD_initD (fun vs H Q E h => by obtain ⟨x, v, rfl, _⟩ := h; rfl) fun f cdv A outer s H vs Q E hr h => ?_, b⟩
  obtain ⟨x, v, rfl, hx, k⟩ := h
  exact ⟨_, ((pss_one (ps_ost (pv 0) (pv 1)))), _, rfl, _, rfl, x, a.BadWorld, rfl, T.ox_BadWorld, T.no_BadWorld_place, .inl ⟨hx, fun dx n ne => k dx n ne⟩⟩
end
end K53

set_option Elab.async false
set_option linter.all false
set_option maxRecDepth 100000
set_option maxHeartbeats 4000000
namespace K53
open PySem PySem.Spec PyProof.Rows L2 Ew
/-! ### the law's bag -/
theorem _root_.Ew.Stm.touch {m : Addr → Prop} {F H F' H' : Hp} {p : Addr} {o : HO} (a : Stm m F H F' H') (hm : m p) (hf : F' p = none) : Stm m F H F' (upd H' p o) :=
  ⟨a.ff, fun b u e => by rw [upd_ne (ne_of_none e hf)]; exact a.fh b u e, fun x u n e => by rw [upd_ne (fun z => n (by rw [z]; exact hm))]; exact a.hh x u n e, a.nw⟩
def bk (la : Addr) (at_ rest mixed count : Int) : List (Key × V) := [(.inr "cells", .ref la), (.inr "at", .int at_), (.inr "rest", .int rest), (.inr "mixed", .int mixed), (.inr "count", .int count)]
def Bag (K : PySem.W.Frag) (b : Addr) (F H : Hp) : Prop := F b = none ∧ ∃ (la : Addr) (ns : List Int) (at_ rest mixed count : Int), 0 ≤ at_ ∧ ns.length ≤ 1000 ∧ SqL K F la (ns.map V.int) ∧ H b = some (.dK (bk la at_ rest mixed count))
theorem memB (K : PySem.W.Frag) (b : Addr) : Mem (fun x => x = b) (Bag K b) where
  there := fun ⟨_, _, _, _, _, _, _, _, _, _, h⟩ z => by rw [z, h]; exact fun q => nomatch q
  off := fun ⟨h, _⟩ z => by rw [z]; exact h
  put := fun ⟨h, la, ns, at_, rest, mixed, count, h1, h2, h3, h4⟩ n => ⟨h, la, ns, at_, rest, mixed, count, h1, h2, h3, by rw [upd_ne (fun z => n z.symm)]; exact h4⟩
  grow := fun ⟨h, la, ns, at_, rest, mixed, count, h1, h2, h3, h4⟩ e k => ⟨k _ rfl, la, ns, at_, rest, mixed, count, h1, h2, upL e h3, h4⟩
section
variable {H : Hp} {b la : Addr} {at_ rest mixed count n : Int}
theorem dg_c (h : H b = some (.dK (bk la at_ rest mixed count))) : DGet H b (.str "cells") (some (.ref la)) := .inl ⟨_, .inr "cells", .inl h, rfl, rfl⟩
theorem dg_a (h : H b = some (.dK (bk la at_ rest mixed count))) : DGet H b (.str "at") (some (.int at_)) := .inl ⟨_, .inr "at", .inl h, rfl, rfl⟩
theorem dg_r (h : H b = some (.dK (bk la at_ rest mixed count))) : DGet H b (.str "rest") (some (.int rest)) := .inl ⟨_, .inr "rest", .inl h, rfl, rfl⟩
theorem dg_m (h : H b = some (.dK (bk la at_ rest mixed count))) : DGet H b (.str "mixed") (some (.int mixed)) := .inl ⟨_, .inr "mixed", .inl h, rfl, rfl⟩
theorem dg_n (h : H b = some (.dK (bk la at_ rest mixed count))) : DGet H b (.str "count") (some (.int count)) := .inl ⟨_, .inr "count", .inl h, rfl, rfl⟩
theorem dp_a (h : H b = some (.dK (bk la at_ rest mixed count))) : DPut H b (.str "at") (.int n) (upd H b (.dK (bk la n rest mixed count))) := .inl ⟨_, .inr "at", h, rfl, Nat.lt_of_le_of_lt (by decide : 5 ≤ 1000) (by decide), rfl⟩
theorem dp_r (h : H b = some (.dK (bk la at_ rest mixed count))) : DPut H b (.str "rest") (.int n) (upd H b (.dK (bk la at_ n mixed count))) := .inl ⟨_, .inr "rest", h, rfl, Nat.lt_of_le_of_lt (by decide : 5 ≤ 1000) (by decide), rfl⟩
theorem dp_m (h : H b = some (.dK (bk la at_ rest mixed count))) : DPut H b (.str "mixed") (.int n) (upd H b (.dK (bk la at_ rest n count))) := .inl ⟨_, .inr "mixed", h, rfl, Nat.lt_of_le_of_lt (by decide : 5 ≤ 1000) (by decide), rfl⟩
theorem dp_n (h : H b = some (.dK (bk la at_ rest mixed count))) : DPut H b (.str "count") (.int n) (upd H b (.dK (bk la at_ rest mixed n))) := .inl ⟨_, .inr "count", h, rfl, Nat.lt_of_le_of_lt (by decide : 5 ≤ 1000) (by decide), rfl⟩
end
section
variable {P : Program} {w : World} {K : PySem.W.Frag} {mg : Str → Option Value} {base : Heap} {a : Ad}
theorem log_sz {j : Int} (h : Sz 8000 j) : j.natAbs.log2 < 9000 := h.log (by decide) (by decide)
theorem atI_int {α : Type} {xs : List α} {i : Int} {x : α} (h0 : 0 ≤ i) (h1 : i < xs.length) (h : xs[i.toNat]? = some x) : atI xs i = some x := by
  unfold atI
  unfold ixN
  rw [if_pos h0, if_pos h1]
  exact h
theorem seq_with {t u : TS} {D : Ends} {σ : L2.St} {H : Hp} (Pv : L2.St → Hp → Prop) (h1 : ∀ u', (∀ σ H, Pv σ H → u' D σ H) → tSeq t u' D σ H) (h2 : ∀ σ H, Pv σ H → u D σ H) : tSeq t u D σ H := h1 u h2
def sp__law_pick (K : PySem.W.Frag) : Sp := fun vs H Q _ => ∃ (F : Hp) (b : Addr) (many : Int), vs = [.ref b, .int many] ∧ Bag K b F H ∧ Same F H ∧ 0 < many ∧ Sz 8000 many ∧
  ∀ H' (i : Int), Stm (fun x => x = b) F H F H' → Bag K b F H' → 0 ≤ i → i < many → Q (.int i) H'
theorem c__law_pick (T : Txt K mg a) : Cl P w K mg base 1 "_law_pick" P__law_pick (sp__law_pick K) [] :=
  T.d__law_pick.cl sc__law_pick (fun vs H Q E h => by obtain ⟨F, b, many, rfl, _⟩ := h; rfl) fun f cdv A outer s H vs Q E hr h => by
    obtain ⟨F, b, many, rfl, ⟨fb, la, ns, at_, rest, mixed, count, h0, hn, hl, hb⟩, hf, hm, hz, k⟩ := h
    have hz := log_sz hz
    have ok : ∀ (x : Int), 0 ≤ x % many ∧ x % many < many := fun x => ⟨Int.emod_nonneg _ (by omega), Int.emod_lt_of_pos _ hm⟩
    refine ⟨_, ((pss_cons (ps_dput (hu_of hr) (pv 0) pe_str (pe_op op_add (pe_dget (hu_of hr) (pv 0) pe_str (fun _ _ => rfl)) pe_int) rfl)
 (pss_cons (ps_if (pt_cmpR op_gt (pe_dget (hu_of hr) (pv 0) pe_str (fun _ _ => rfl)) pe_int (nomark _))
 (pss_cons (ps_set (i := 2) sc__law_pick.nd rfl (Or.inl rfl) (pe_dget (hu_of hr) (pv 0) pe_str (fun _ _ => rfl)))
 (pss_cons (ps_dput (hu_of hr) (pv 0) pe_str (pe_op op_fdivW (pv 2) (pv 1)) rfl)
 (pss_one (ps_ret (pe_op op_mod (pe_callTy call_int1 (by rfl) T.n_int (by decide +kernel) (pa_cons (pv 2) pa_nil)) (pv 1))))))
 pss_nil)
 (pss_cons (ps_set (i := 3) sc__law_pick.nd rfl (Or.inl rfl) pe_int)
 (pss_cons (ps_if (pt_cmpR op_lt (pe_dget (hu_of hr) (pv 0) pe_str (fun _ _ => rfl)) (pe_callB call_len_seq (by rfl) T.n_len (by decide +kernel) (pa_cons (pe_dget (hu_of hr) (pv 0) pe_str (fun _ _ => rfl)) pa_nil)) (nomark _))
 (pss_cons (ps_set (i := 3) sc__law_pick.nd rfl (Or.inl rfl) (pe_ix ix_list (pe_dget (hu_of hr) (pv 0) pe_str (fun _ _ => rfl)) (pe_dget (hu_of hr) (pv 0) pe_str (fun _ _ => rfl)) (fun _ _ => rfl)))
 (pss_cons (ps_dput (hu_of hr) (pv 0) pe_str (pe_op op_add (pe_dget (hu_of hr) (pv 0) pe_str (fun _ _ => rfl)) pe_int) rfl)
 (pss_one (ps_if (pt_cmpR op_ge (pv 3) (pe_op op_pow pe_int pe_int) (nomark _))
 (pss_cons (ps_dput (hu_of hr) (pv 0) pe_str (pe_op op_fdivW (pv 3) (pv 1)) rfl)
 (pss_one (ps_ret (pe_op op_mod (pe_callTy call_int1 (by rfl) T.n_int (by decide +kernel) (pa_cons (pv 3) pa_nil)) (pv 1)))))
 pss_nil))))
 pss_nil)
 (pss_cons (ps_set (i := 2) sc__law_pick.nd rfl (Or.inl rfl) (pe_op op_mod (pe_callTy call_int1 (by rfl) T.n_int (by decide +kernel) (pa_cons (pe_op op_add (pe_op op_add (pe_op op_mul (pv 3) pe_int) (pe_op op_mul (pe_dget (hu_of hr) (pv 0) pe_str (fun _ _ => rfl)) pe_int)) (pe_op op_mul (pe_dget (hu_of hr) (pv 0) pe_str (fun _ _ => rfl)) pe_int)) pa_nil)) pe_int))
 (pss_cons (ps_set (i := 2) sc__law_pick.nd rfl (Or.inl rfl) (pe_op op_mod (pe_callTy call_int1 (by rfl) T.n_int (by decide +kernel) (pa_cons (pe_op op_add (pe_op op_mul (pv 2) pe_int) pe_int) pa_nil)) pe_int))
 (pss_cons (ps_dput (hu_of hr) (pv 0) pe_str (pe_op op_mod (pe_callTy call_int1 (by rfl) T.n_int (by decide +kernel) (pa_cons (pv 2) pa_nil)) pe_int) rfl)
 (pss_one (ps_ret (pe_op op_mod (pe_callTy call_int1 (by rfl) T.n_int (by decide +kernel) (pa_cons (pe_op op_fdiv (pv 2) pe_int) pa_nil)) (pv 1)))))))))))), ?_⟩
    refine ⟨_, rfl, b, _, rfl, dg_n hb, _, _, rfl, rfl, _, rfl, b, _, rfl, dp_n hb, ?_⟩
    have s1 : Stm (fun x => x = b) F H F (upd H b (.dK (bk la at_ rest mixed (count + 1)))) := Stm.touch (Stm.refl hf) rfl fb
    generalize hH1 : upd H b (.dK (bk la at_ rest mixed (count + 1))) = H1 at s1
    have hb1 : H1 b = some (.dK (bk la at_ rest mixed (count + 1))) := by rw [← hH1]; exact upd_same
    refine ⟨_, rfl, b, _, rfl, dg_r hb1, _, _, rfl, rfl, _, rfl, ?_⟩
    refine ite2 (fun e => ?_) (fun e => ?_)
    · refine ⟨_, rfl, b, _, rfl, dg_r hb1, ?_⟩
      refine ⟨_, rfl, _, rfl, _, _, rfl, rfl, ⟨hm, hz⟩, _, rfl, b, _, rfl, dp_r hb1, ?_⟩
      refine ⟨_, rfl, .inl ⟨_, rfl, _, rfl, _, _, rfl, rfl, hm, ?_⟩⟩
      exact k _ _ (s1.touch rfl fb) ⟨fb, la, ns, at_, _, mixed, _, h0, hn, hl, upd_same⟩ (ok _).1 (ok _).2
    · refine seq_with (fun σ2 H2 => σ2 = L2.start N__law_pick [.ref b, .int many] ∧ H1 = H2) (fun u hu => hu _ _ ⟨rfl, rfl⟩) ?_
      rintro _ _ ⟨rfl, rfl⟩
      refine seq_with (fun σ2 H2 => σ2 = [some (.ref b), some (.int many), none, some (.int 0)] ∧ H1 = H2) (fun u hu => hu _ _ ⟨rfl, rfl⟩) ?_
      rintro _ _ ⟨rfl, rfl⟩
      refine seq_with (fun σ2 H2 => ∃ cell at2, σ2 = [some (.ref b), some (.int many), none, some (.int cell)] ∧ Stm (fun x => x = b) F H F H2 ∧ 0 ≤ at2 ∧ H2 b = some (.dK (bk la at2 rest mixed (count + 1)))) (fun u hu => ?_) ?_
      · refine ⟨_, rfl, b, _, rfl, dg_a hb1, _, rfl, b, _, rfl, dg_c hb1, la, _, rfl, .inl (upL s1.fh hl), _, _, rfl, rfl, _, rfl, ?_⟩
        refine ite2 (fun e2 => ?_) (fun e2 => ?_)
        · have lt : at_.toNat < ns.length := by
            have := of_decide_eq_true e2
            rw [List.length_map] at this
            omega
          refine ⟨_, rfl, b, _, rfl, dg_c hb1, _, rfl, b, _, rfl, dg_a hb1, la, _, _, .int ns[at_.toNat], rfl, rfl, upL s1.fh hl, ?_, ?_⟩
          · exact atI_int h0 (by rw [List.length_map]; omega) (by rw [List.getElem?_map, List.getElem?_eq_getElem lt]; rfl)
          refine ⟨_, rfl, b, _, rfl, dg_a hb1, _, _, rfl, rfl, _, rfl, b, _, rfl, dp_a hb1, ?_⟩
          have s2 := s1.touch (p := b) (o := .dK (bk la (at_ + 1) rest mixed (count + 1))) rfl fb
          generalize hH2 : upd _ b (.dK (bk la (at_ + 1) rest mixed (count + 1))) = H2 at s2
          have hb2 : H2 b = some (.dK (bk la (at_ + 1) rest mixed (count + 1))) := by rw [← hH2]; exact upd_same
          refine ⟨_, rfl, _, _, rfl, rfl, ⟨by decide, by decide, by decide⟩, _, _, rfl, rfl, _, rfl, ?_⟩
          refine ite2 (fun e => ?_) (fun e => ?_)
          · refine ⟨_, rfl, _, rfl, _, _, rfl, rfl, ⟨hm, hz⟩, _, rfl, b, _, rfl, dp_r hb2, ?_⟩
            refine ⟨_, rfl, .inl ⟨_, rfl, _, rfl, _, _, rfl, rfl, hm, ?_⟩⟩
            exact k _ _ (s2.touch rfl fb) ⟨fb, la, ns, _, _, mixed, _, by omega, hn, hl, upd_same⟩ (ok _).1 (ok _).2
          · exact hu _ _ ⟨_, _, rfl, s2, by omega, hb2⟩
        · exact hu _ _ ⟨_, _, rfl, s1, h0, hb1⟩
      · rintro _ H2 ⟨cell, at2, rfl, s2, h2, hb2⟩
        have cm : ∀ i j : Int, -(2 ^ 64) < j → j < 2 ^ 64 → CMul i j := fun i j h1 h2 => .inr ⟨h1, h2⟩
        refine ⟨_, rfl, _, _, rfl, rfl, cm _ _ (by decide) (by decide), _, rfl, b, _, rfl, dg_m hb2, _, _, rfl, rfl, cm _ _ (by decide) (by decide), _, _, rfl, rfl, _, rfl, b, _, rfl, dg_n hb2, _, _, rfl, rfl, cm _ _ (by decide) (by decide), _, _, rfl, rfl, .inl ⟨_, rfl, _, _, rfl, rfl, (by decide : (0 : Int) < 2147483647), ?_⟩⟩
        refine ⟨_, rfl, _, _, rfl, rfl, cm _ _ (by decide) (by decide), _, _, rfl, rfl, .inl ⟨_, rfl, _, _, rfl, rfl, (by decide : (0 : Int) < 2147483647), ?_⟩⟩
        refine ⟨_, rfl, .inl ⟨_, rfl, _, _, rfl, rfl, (by decide : (0 : Int) < 1000003), _, rfl, b, _, rfl, dp_m hb2, ?_⟩⟩
        refine ⟨_, rfl, _, _, rfl, rfl, ⟨by decide, by decide⟩, .inl ⟨_, rfl, _, rfl, _, _, rfl, rfl, hm, ?_⟩⟩
        exact k _ _ (s2.touch rfl fb) ⟨fb, la, ns, _, _, _, _, h2, hn, hl, upd_same⟩ (ok _).1 (ok _).2
end
end K53

set_option Elab.async false
set_option linter.all false
set_option maxRecDepth 100000
set_option maxHeartbeats 4000000
namespace K53
open PySem PySem.Spec PyProof.Rows L2 Ew
abbrev Sb (b : Addr) := Stm (fun x => x = b)
section
variable {P : Program} {w : World} {K : PySem.W.Frag} {mg : Str → Option Value} {base : Heap} {a : Ad}
/-- what a choice is made of -/
def Things (K : PySem.W.Frag) (F H : Hp) (b : Addr) (u : V) (xs : List V) : Prop := (∃ p, u = .ref p ∧ SqL K F p xs) ∨ (∃ p, u = .ref p ∧ p ≠ b ∧ H p = some (.lst xs)) ∨ (∃ z : Str, u = .str z ∧ z.length ≤ sizeLine ∧ xs = z.cps.toList.map fun c => V.str ⟨#[c]⟩) ∨ ∃ p, u = .ref p ∧ ∀ F' H', Sb b F H F' H' → SqT K H' p xs
theorem sz_len {n : Nat} (h : n ≤ 1000) : Sz 8000 (n : Int) := by
  unfold Sz
  have : (2 : Nat) ^ 10 ≤ 2 ^ 8000 := Nat.pow_le_pow_right (by decide) (by decide)
  have e : (2 : Nat) ^ 10 = 1024 := by decide
  omega
def sp__law_choice (K : PySem.W.Frag) : Sp := fun vs H Q _ => ∃ (F : Hp) (b : Addr) (u : V) (xs : List V), vs = [.ref b, u] ∧ Things K F H b u xs ∧ xs ≠ [] ∧ xs.length ≤ 1000 ∧ Bag K b F H ∧ Same F H ∧
  ∀ H' x (i : Nat), Sb b F H F H' → Bag K b F H' → xs[i]? = some x → Q x H'
theorem c__law_choice (T : Txt K mg a) : Cl P w K mg base 2 "_law_choice" P__law_choice (sp__law_choice K) [] :=
  T.d__law_choice.cl sc__law_choice (fun vs H Q E h => by obtain ⟨F, b, u, xs, rfl, _⟩ := h; rfl) fun f cdv A outer s H vs Q E hr h => by
    obtain ⟨F, b, u, xs, rfl, ht, h0, hl, hB, hf, k⟩ := h
    refine ⟨_, ((pss_one (ps_ret (pe_ix ix_seq (pv 1) (pe_f (c__law_pick T) (takes_of rfl rfl rfl rfl) hr (by decide) rfl (pa_cons (pv 0) (pa_cons (pe_callB (call_len_seq.or call_len_str) (by rfl) T.n_len (by decide +kernel) (pa_cons (pv 1) pa_nil)) pa_nil))) (fun _ _ => rfl))))), ?_⟩
    have l0 : 0 < xs.length := List.length_pos_iff.mpr h0
    have get : ∀ (i : Int) (h1 : 0 ≤ i) (h2 : i < (xs.length : Int)), atI xs i = some (xs[i.toNat]'((Int.toNat_lt h1).mpr h2)) := fun i h1 h2 => atI_int h1 h2 (List.getElem?_eq_getElem _)
    have fin : ∀ H' (i : Int) (h1 : 0 ≤ i) (h2 : i < (xs.length : Int)), Sb b F H F H' → Bag K b F H' → Q (xs[i.toNat]'((Int.toNat_lt h1).mpr h2)) H' := fun H' i h1 h2 s1 B1 => k H' _ i.toNat s1 B1 (List.getElem?_eq_getElem _)
    rcases ht with ⟨p, rfl, hp⟩ | ⟨p, rfl, nb, hp⟩ | ⟨z, rfl, hz, rfl⟩ | ⟨p, rfl, hp⟩
    · refine ⟨_, rfl, _, rfl, _, rfl, .inl ⟨p, xs, rfl, .inl (upL hf hp), F, b, _, rfl, hB, hf, by omega, sz_len hl, fun H' i s1 B1 h1 h2 => ?_⟩⟩
      exact .inl ⟨p, xs, i, _, rfl, rfl, upL s1.fh hp, get i h1 h2, fin H' i h1 h2 s1 B1⟩
    · refine ⟨_, rfl, _, rfl, _, rfl, .inl ⟨p, xs, rfl, .inl (SqL.of hp), F, b, _, rfl, hB, hf, by omega, sz_len hl, fun H' i s1 B1 h1 h2 => ?_⟩⟩
      exact .inl ⟨p, xs, i, _, rfl, rfl, SqL.of (s1.hh p _ nb hp), get i h1 h2, fin H' i h1 h2 s1 B1⟩
    · have zl : z.length = z.cps.size := rfl
      have xl : (z.cps.toList.map fun c => V.str ⟨#[c]⟩).length = z.cps.size := by rw [List.length_map, Array.length_toList]
      rw [xl] at l0 hl
      refine ⟨_, rfl, _, rfl, _, rfl, .inr ⟨z, rfl, hz, F, b, _, rfl, hB, hf, by rw [zl]; omega, sz_len (by rw [zl]; exact hl), fun H' i s1 B1 h1 h2 => ?_⟩⟩
      rw [zl] at h2
      have lt : i.toNat < z.cps.toList.length := by rw [Array.length_toList]; omega
      refine .inr (.inr ⟨z, i, z.cps.toList[i.toNat]'lt, rfl, rfl, hz, atI_int h1 (by rw [Array.length_toList]; exact h2) (List.getElem?_eq_getElem _), ?_⟩)
      have := fin H' i h1 (by rw [xl]; exact h2) s1 B1
      rw [List.getElem_map] at this
      exact this
    · refine ⟨_, rfl, _, rfl, _, rfl, .inl ⟨p, xs, rfl, .inr (hp F H (Stm.refl hf)), F, b, _, rfl, hB, hf, by omega, sz_len hl, fun H' i s1 B1 h1 h2 => ?_⟩⟩
      exact .inr (.inl ⟨p, xs, i, _, rfl, rfl, hp F H' s1, get i h1 h2, fin H' i h1 h2 s1 B1⟩)
theorem c__law_integer (T : Txt K mg a) : Cl P w K mg base 1 "_law_integer" P__law_integer (sp_is_integer K) [] :=
  T.d__law_integer.cl sc__law_integer (fun vs H Q E h => by obtain ⟨i, rfl, _⟩ := h; rfl) fun f cdv A outer s H vs Q E hr h => by
    obtain ⟨v, rfl, h⟩ := h
    refine ⟨_, ((pss_one (ps_ret (pe_and (pe_callB call_isi (by rfl) T.n_isinstance (by decide +kernel) (pa_cons (pv 0) (pa_cons (pe_bltn (v := .ty "int") (by rfl) T.n_int (by decide +kernel) rfl) pa_nil))) (pe_one (pe_not (pe_callB call_isi (by rfl) T.n_isinstance (by decide +kernel) (pa_cons (pv 0) (pa_cons (pe_bltn (v := .ty "bool") (by rfl) T.n_bool (by decide +kernel) rfl) pa_nil))))))))), ?_⟩
    rcases h with ⟨i, rfl, k⟩ | ⟨⟨b, rfl⟩ | ⟨t, ht, hk⟩, k⟩
    · refine ⟨_, rfl, _, _, _, _, true, rfl, .ty _, .base (.int _), kit_ty (by decide +kernel), true, rfl, iteT ?_⟩
      exact ⟨_, rfl, _, _, _, _, false, rfl, .ty _, .base (.int _), kit_ty (by decide +kernel), false, rfl, k⟩
    · refine ⟨_, rfl, _, _, _, _, true, rfl, .ty _, .base (.bl _), kit_ty (by decide +kernel), true, rfl, iteT ?_⟩
      exact ⟨_, rfl, _, _, _, _, true, rfl, .ty _, .base (.bl _), kit_ty (by decide +kernel), true, rfl, k⟩
    · exact ⟨_, rfl, _, _, _, _, false, rfl, .ty _, ht, hk, false, rfl, iteF k⟩
end
section
variable {K : PySem.W.Frag} {b p : Addr} {F H F' H' F2 H2 : Hp} {o : HO}
theorem newB (s : Sb b F H F' H') (B : Bag K b F' H') (hp : H' p = none) : Sb b F H (upd F' p o) (upd H' p o) ∧ Bag K b (upd F' p o) (upd H' p o) := by
  have nb : ¬ p = b := fun z => (memB K b).there B z hp
  have h0 : H p = none := s.fresh (fun x z => (memB K b).there B z) hp
  refine ⟨s.new hp h0, (memB K b).grow ((memB K b).put B nb) (same_new (s.fh.free hp)) fun x z => ?_⟩
  rw [upd_ne (fun q => nb (by rw [← q]; exact z))]
  exact (memB K b).off B z
theorem seqB (s : Sb b F H F' H') (B : Bag K b F' H') (s2 : Sb b F' H' F2 H2) : Sb b F H F2 H2 := s.then (memB K b) B s2
theorem pureB (s : Sb b F H F' H') (B : Bag K b F' H') (s2 : Stp F' H' F2 H2) : Sb b F H F2 H2 ∧ Bag K b F2 H2 := by
  refine ⟨seqB s B s2.any, ?_⟩
  obtain ⟨h, la, ns, at_, rest, mixed, count, h1, h2, h3, h4⟩ := B
  exact ⟨s2.nw b h (by rw [h4]; exact fun q => nomatch q), la, ns, at_, rest, mixed, count, h1, h2, upL s2.ff h3, s2.same b _ h4⟩
end
theorem sz_of {b : Nat} {n : Int} (k : Nat) (h : n.natAbs < 2 ^ k) (hk : k ≤ b) : Sz b n := Nat.lt_of_lt_of_le h (Nat.pow_le_pow_right (by decide) hk)
end K53

set_option Elab.async false
set_option linter.all false
set_option maxRecDepth 100000
set_option maxHeartbeats 4000000
namespace K53
open PySem PySem.Spec PyProof.Rows L2 Ew
/-! ### spots -/
abbrev Spot := Str × Int × Int
def spV (p : Spot) : List V := [.str p.1, .int p.2.1, .int p.2.2]
def spK (p : Spot) : List Key := [.inr p.1, .inl p.2.1, .inl p.2.2]
theorem spKV (p : Spot) : (spK p).map kV = spV p := rfl
theorem spK_inj {p q : Spot} (h : spK p = spK q) : p = q := by
  obtain ⟨a, b, c⟩ := p
  obtain ⟨a', b', c'⟩ := q
  simp only [spK, List.cons.injEq, Sum.inr.injEq, Sum.inl.injEq, and_true] at h
  obtain ⟨h1, h2, h3⟩ := h
  subst h1 h2 h3
  rfl
/-- a spot stands at v, a tuple of the def's or the law's own -/
def Spt (_ : PySem.W.Frag) (F : Hp) (v : V) (p : Spot) : Prop := ∃ q, v = .ref q ∧ F q = some (.tup (spV p))
theorem Spt.up {K : PySem.W.Frag} {F F' : Hp} {v : V} {p : Spot} (h : Spt K F v p) (e : Same F F') : Spt K F' v p := by obtain ⟨q, h1, h2⟩ := h; exact ⟨q, h1, e _ _ h2⟩
def spD (p : Spot) : PyData := .tuple [.str p.1, .int p.2.1, .int p.2.2]
theorem dp_sp {K : PySem.W.Frag} {H : Hp} {q : Addr} {p : Spot} (h : SqT K H q (spV p)) : Dp K H (.ref q) (spD p) := .tup h (.cons (.str _) (.cons (.int _) (.cons (.int _) .nil)))
theorem Spt.dp {K : PySem.W.Frag} {F : Hp} {v : V} {p : Spot} (h : Spt K F v p) : Dp K F v (spD p) := by obtain ⟨q, rfl, h2⟩ := h; exact dp_sp (SqT.of h2)
theorem eqv_sp (p q : Spot) : PyData.eqv (spD p) (spD q) = decide (p = q) := by
  obtain ⟨a, b, c⟩ := p
  obtain ⟨a', b', c'⟩ := q
  simp only [spD, PyData.eqv, PyData.eqvAll]
  by_cases h1 : a = a' <;> by_cases h2 : b = b' <;> by_cases h3 : c = c' <;> simp [h1, h2, h3]
theorem fl_sp {p : Spot} (h : PyData.strOk p.1 = true) : Fl 1 (spD p) := Fl.tup (.cons (.str h) (.cons .int (.cons .int .nil)))
/-- what kind a thing is of, as far as it is looked at -/
inductive Kd (K : PySem.W.Frag) (F : Hp) : V → String → Prop
  | non : Kd K F .non "NoneType"
  | bl (b : Bool) : Kd K F (.bl b) "bool"
  | int (i : Int) : Kd K F (.int i) "int"
  | str (z : Str) : Kd K F (.str z) "str"
  | lst {p : Addr} {xs : List V} (h : SqL K F p xs) : Kd K F (.ref p) "list"
  | tup {p : Addr} {xs : List V} (h : SqT K F p xs) : Kd K F (.ref p) "tuple"
section
variable {K : PySem.W.Frag} {F F' : Hp} {v : V} {T : String}
theorem Kd.up (h : Kd K F v T) (e : Same F F') : Kd K F' v T := by
  cases h with
  | non => exact .non
  | bl b => exact .bl b
  | int i => exact .int i
  | str z => exact .str z
  | lst h => exact .lst (upL e h)
  | tup h => exact .tup (upT e h)
theorem Kd.ty (h : Kd K F v T) : TyX K F v (.type T) := by
  cases h with
  | non => exact .base .non
  | bl b => exact .base (.bl b)
  | int i => exact .base (.int i)
  | str z => exact .base (.str z)
  | lst h => exact ty_sqL h
  | tup h => exact ty_sqT h
theorem Kd.kit {U : String} (h : Kd K F v T) (hU : U = "str" ∨ U = "tuple") (n : T ≠ U) : PySem.W.kitOne K (.type T) (.type U) = some false := by
  rcases hU with rfl | rfl <;> cases h <;> first
    | exact absurd rfl n
    | exact kit_ty (by decide +kernel)
theorem Kd.noI (h : Kd K F v T) (n : T ≠ "int") : NoI K F v := by
  cases h with
  | bl b => exact .inl ⟨b, rfl⟩
  | int i => exact absurd rfl n
  | non => exact .inr ⟨_, .base .non, kit_ty (by decide +kernel)⟩
  | str z => exact .inr ⟨_, .base (.str z), kit_ty (by decide +kernel)⟩
  | lst h => exact .inr ⟨_, ty_sqL h, kit_ty (by decide +kernel)⟩
  | tup h => exact .inr ⟨_, ty_sqT h, kit_ty (by decide +kernel)⟩
end
/-- a thing that is no spot -/
inductive NotSp (K : PySem.W.Frag) (H : Hp) : V → Prop
  | nt {v : V} {T : String} (k : Kd K H v T) (n : T ≠ "tuple") : NotSp K H v
  | len {p : Addr} {xs : List V} (h : SqT K H p xs) (l : xs.length ≠ 3) : NotSp K H (.ref p)
  | name {p : Addr} {x y z : V} {T : String} (h : SqT K H p [x, y, z]) (k : Kd K H x T) (n : T ≠ "str") : NotSp K H (.ref p)
  | st {p : Addr} {n : Str} {y z : V} {T : String} (h : SqT K H p [.str n, y, z]) (k : Kd K H y T) (n : T ≠ "int") : NotSp K H (.ref p)
  | day {p : Addr} {n : Str} {s : Int} {z : V} {T : String} (h : SqT K H p [.str n, .int s, z]) (k : Kd K H z T) (n : T ≠ "int") : NotSp K H (.ref p)
theorem NotSp.up {K : PySem.W.Frag} {F F' : Hp} {v : V} (h : NotSp K F v) (e : Same F F') : NotSp K F' v := by
  cases h with
  | nt k n => exact .nt (k.up e) n
  | len h l => exact .len (upT e h) l
  | name h k n => exact .name (upT e h) (k.up e) n
  | st h k n => exact .st (upT e h) (k.up e) n
  | day h k n => exact .day (upT e h) (k.up e) n
section
variable {P : Program} {w : World} {K : PySem.W.Frag} {mg : Str → Option Value} {base : Heap} {a : Ad}
def sp_is_spot (K : PySem.W.Frag) : Sp := fun vs H Q _ => ∃ v, vs = [v] ∧ ((∃ q p, v = .ref q ∧ SqT K H q (spV p) ∧ Q (.bl true) H) ∨ (NotSp K H v ∧ Q (.bl false) H))
theorem c_is_spot (T : Txt K mg a) : Cl P w K mg base 2 "is_spot" P_is_spot (sp_is_spot K) [] :=
  T.d_is_spot.cl sc_is_spot (fun vs H Q E h => by obtain ⟨v, rfl, _⟩ := h; rfl) fun f cdv A outer s H vs Q E hr h => by
    obtain ⟨v, rfl, h⟩ := h
    refine ⟨_, ((pss_cons (ps_if (pt_not (pt_val (pe_f (c_is_tuple_of T) (takes_of rfl rfl rfl rfl) hr (by decide) rfl (pa_cons (pv 0) (pa_cons pe_int pa_nil)))))
 (pss_one (ps_ret pe_bl))
 pss_nil)
 (pss_cons (ps_asg (pv 0) (pg_tup rfl (pgs_cons (pg_name (i := 1) sc_is_spot.nd rfl (Or.inl rfl)) (pgs_cons (pg_name (i := 2) sc_is_spot.nd rfl (Or.inl rfl)) (pgs_cons (pg_name (i := 3) sc_is_spot.nd rfl (Or.inl rfl)) pgs_nil)))))
 (pss_one (ps_ret (pe_and (pe_callB call_isi (by rfl) T.n_isinstance (by decide +kernel) (pa_cons (pv 1) (pa_cons (pe_bltn (v := .ty "str") (by rfl) T.n_str (by decide +kernel) rfl) pa_nil))) (pe_and (pe_f (c_is_integer T) (takes_of rfl rfl rfl rfl) hr (by decide) rfl (pa_cons (pv 2) pa_nil)) (pe_one (pe_f (c_is_integer T) (takes_of rfl rfl rfl rfl) hr (by decide) rfl (pa_cons (pv 3) pa_nil)))))))))), ?_⟩
    rcases h with ⟨q, p, rfl, hp, k⟩ | ⟨n, k⟩
    · refine ⟨_, rfl, _, _, rfl, .inl ⟨q, _, rfl, hp, true, rfl, iteF ?_⟩⟩
      refine ⟨_, rfl, q, _, rfl, hp, rfl, _, _, rfl, _, _, rfl, _, _, rfl, rfl, ?_⟩
      refine ⟨_, rfl, _, _, _, _, true, rfl, .ty _, .base (.str _), kit_ty (by decide +kernel), true, rfl, iteT ?_⟩
      exact ⟨_, rfl, _, rfl, .inl ⟨_, rfl, _, rfl, iteT ⟨_, rfl, _, rfl, .inl ⟨_, rfl, k⟩⟩⟩⟩
    cases n with
    | nt kd n => exact ⟨_, rfl, _, _, rfl, .inr ⟨_, kd.ty, kd.kit (.inr rfl) n, _, rfl, iteT k⟩⟩
    | @len p xs hp l =>
      refine ⟨_, rfl, _, _, rfl, .inl ⟨p, xs, rfl, hp, _, rfl, ?_⟩⟩
      rw [decide_eq_false (fun z => l (by have := V.int.inj z; omega))]
      exact iteT k
    | @name p x y z T hp kd n =>
      refine ⟨_, rfl, _, _, rfl, .inl ⟨p, _, rfl, hp, true, rfl, iteF ?_⟩⟩
      refine ⟨_, rfl, p, _, rfl, hp, rfl, _, _, rfl, _, _, rfl, _, _, rfl, rfl, ?_⟩
      exact ⟨_, rfl, _, _, _, _, false, rfl, .ty _, kd.ty, kd.kit (.inl rfl) n, false, rfl, iteF k⟩
    | @st p n y z T hp kd ne =>
      refine ⟨_, rfl, _, _, rfl, .inl ⟨p, _, rfl, hp, true, rfl, iteF ?_⟩⟩
      refine ⟨_, rfl, p, _, rfl, hp, rfl, _, _, rfl, _, _, rfl, _, _, rfl, rfl, ?_⟩
      refine ⟨_, rfl, _, _, _, _, true, rfl, .ty _, .base (.str _), kit_ty (by decide +kernel), true, rfl, iteT ?_⟩
      exact ⟨_, rfl, _, rfl, .inr ⟨kd.noI ne, _, rfl, iteF k⟩⟩
    | @day p n s' z T hp kd ne =>
      refine ⟨_, rfl, _, _, rfl, .inl ⟨p, _, rfl, hp, true, rfl, iteF ?_⟩⟩
      refine ⟨_, rfl, p, _, rfl, hp, rfl, _, _, rfl, _, _, rfl, _, _, rfl, rfl, ?_⟩
      refine ⟨_, rfl, _, _, _, _, true, rfl, .ty _, .base (.str _), kit_ty (by decide +kernel), true, rfl, iteT ?_⟩
      exact ⟨_, rfl, _, rfl, .inl ⟨_, rfl, _, rfl, iteT ⟨_, rfl, _, rfl, .inr ⟨kd.noI ne, k⟩⟩⟩⟩
end
end K53

set_option Elab.async false
set_option linter.all false
set_option maxRecDepth 100000
set_option maxHeartbeats 4000000
namespace Ew
open PySem PySem.Spec PyProof.Rows L2
/-! ### zip(a list, a tuple) -/
def ItzM (K : PySem.W.Frag) (a b : Addr) : It where
  go := fun i H => ∃ (xs ys : List V) (x y : V), SqL K H a xs ∧ SqT K H b ys ∧ xs[i]? = some x ∧ ys[i]? = some y
  yld := fun i H v H' => ∃ T x y, v = .ref T ∧ H T = none ∧ H' = upd H T (.tup [x, y]) ∧ (∀ xs, SqL K H a xs → xs[i]? = some x) ∧ ∀ ys, SqT K H b ys → ys[i]? = some y
  stop := fun i H => ∃ xs ys : List V, SqL K H a xs ∧ SqT K H b ys ∧ i ≤ xs.length ∧ i ≤ ys.length ∧ (i = xs.length ∨ i = ys.length)
def TnM (z TI TO i1 i2 a b : Addr) (i : Nat) (h : Heap) : Prop := IsZip h z TI TO .none ∧ IsTupOf2 h TI (.ref i1) (.ref i2) ∧ (∃ x y, IsTupOf2 h TO x y) ∧ h.IsListIter i1 a i ∧ h.IsTupleIter i2 b i
theorem five {c z TI TO i1 i2 : Addr} (h : c ∈ [z, TI, TO, i1, i2]) : c = z ∨ c = TI ∨ c = TO ∨ c = i1 ∨ c = i2 := by
  simp only [List.mem_cons, List.not_mem_nil, or_false] at h
  exact h
theorem turn_zipM {P : Program} {w : World} {K : PySem.W.Frag} {elts : List Expr} {kk : Nat} {tpos : Pos} {a b z TI TO i1 i2 : Addr} (S : ZipSep2 z TI TO i1 i2 [i1, a] [i2, b]) (na : a ≠ i1) (nb : b ≠ i2) :
    Turn P w K (.Tuple elts kk tpos) (ItzM K a b) [z, TI, TO, i1, i2] z (TnM z TI TO i1 i2 a b) where
  mem := List.mem_cons_self
  obj := fun i h st c hc => by
    obtain ⟨q1, q2, ⟨_, _, q3⟩, ⟨o4, q4, _, d4⟩, ⟨o5, q5, _, d5⟩⟩ := st
    rcases five hc with rfl | rfl | rfl | rfl | rfl
    · exact ⟨_, q1, fun v e => nomatch e⟩
    · exact ⟨_, q2, fun v e => nomatch e⟩
    · exact ⟨_, q3, fun v e => nomatch e⟩
    · exact ⟨o4, q4, fun v e => by rw [d4] at e; cases e⟩
    · exact ⟨o5, q5, fun v e => by rw [d5] at e; cases e⟩
  keep := fun i h h' st k => by
    obtain ⟨q1, q2, ⟨x, y, q3⟩, q4, q5⟩ := st
    refine ⟨k _ List.mem_cons_self _ q1, k _ (by simp) _ q2, ⟨x, y, k _ (by simp) _ q3⟩, q4.at fun o e => ?_, q5.at fun o e => ?_⟩
    · exact k _ (by simp) o e
    · exact k _ (by simp) o e
  item := by
    intro X hP hw hK hc i pins s σ H E I hf st go
    subst hP hw hK
    obtain ⟨q1, q2, ⟨x0, y0, q3⟩, q4, q5⟩ := st
    obtain ⟨xs, ys, x, y, sx, sy, hx, hy⟩ := go
    obtain ⟨l1, r1, p1, _⟩ := I.list sx
    obtain ⟨l2, r2, p2, _⟩ := I.tuple sy
    obtain ⟨u1, hu1, ru1⟩ := r1.get hx
    obtain ⟨u2, hu2, ru2⟩ := r2.get hy
    have hh := I.ok.hd hc
    have D1 := Draws.list (prog := X.prog) (w := X.w) (A := X.A.in1) hh i1 a na l1.toArray
    have D2 := Draws.tuple (prog := X.prog) (w := X.w) (A := X.A.in1) hh i2 b nb l2.toArray
    have g1 : i < l1.toArray.size := by
      rw [List.size_toArray]
      exact (List.getElem?_eq_some_iff.mp hu1).1
    have g2 : i < l2.toArray.size := by
      rw [List.size_toArray]
      exact (List.getElem?_eq_some_iff.mp hu2).1
    have zl := Heap.lt_size q1
    refine wpAny_pyNext_zipD2_item S D1 D2 q1 q2 q3 ⟨q4, p1.isList⟩ ⟨q5, p2⟩ g1 g2 fun v1 v2 h' tk e1 e2 w1 w2 w3 w4 w5 w6 w7 => ?_
    rw [List.getElem?_toArray, hu1] at e1
    rw [List.getElem?_toArray, hu2] at e2
    cases e1
    cases e2
    refine ⟨_, rfl, wpAny_letOwnedTupleGo_zip (s := { s with heap := h', toks := tk }) w1 fun h'' w1' sb => ?_⟩
    have nw : h''.get? s.heap.objs.size = some { cls := .type "tuple", data := .seq #[u1, u2] } := (sb.2 _ (Nat.ne_of_gt zl)).trans w5
    have ob : ObjOk X.prog X.w (upd H s.heap.objs.size (.tup [x, y])) h'' s.heap.objs.size (.tup [x, y]) := by
      refine ⟨?_, [u1, u2], .cons ru1 (.cons ru2 .nil), ⟨_, nw, rfl, _, rfl⟩⟩
      show 2 ≤ sizeLine
      decide
    have off : ∀ c o, c ∉ [z, TI, TO, i1, i2] → s.heap.get? c = some o → h''.get? c = some o := fun c o hb e => by
      have n : c ≠ z ∧ c ≠ TO ∧ c ≠ i1 ∧ c ≠ i2 := ⟨fun q => hb (by simp [q]), fun q => hb (by simp [q]), fun q => hb (by simp [q]), fun q => hb (by simp [q])⟩
      exact (sb.2 c n.1).trans (w7 c o n.1 n.2.1 n.2.2.1 n.2.2.2 e)
    have I1 : Inv X pins σ (upd H s.heap.objs.size (.tup [x, y])) { s with heap := h'', toks := tk } := I.turnedNew off hf (Nat.le_refl _) ob
    refine ⟨.ref s.heap.objs.size, _, I1, rfl, ⟨_, x, y, rfl, I.hok.fresh (Nat.le_refl _), rfl, fun l hl => ?_, fun l hl => ?_⟩, ⟨w1', ?_, ⟨u1, u2, ?_⟩, ?_, ?_⟩, fun c hcm => ?_⟩
    · rw [I.list_inj hl sx]; exact hx
    · rw [I.tuple_inj hl sy]; exact hy
    · exact (sb.2 _ S.TIz).trans (w7 _ _ S.TIz S.TITO S.TIi1 S.TIi2 q2)
    · exact (sb.2 _ S.TOz).trans w2
    · exact w3.1.at fun o e => (sb.2 _ S.zi1.symm).trans e
    · exact w4.1.at fun o e => (sb.2 _ S.zi2.symm).trans e
    · have lt : c < s.heap.objs.size := by
        rcases five hcm with rfl | rfl | rfl | rfl | rfl
        · exact zl
        · exact Heap.lt_size q2
        · exact Heap.lt_size q3
        · obtain ⟨_, e, _⟩ := q4; exact Heap.lt_size e
        · obtain ⟨_, e, _⟩ := q5; exact Heap.lt_size e
      rw [upd_ne (Nat.ne_of_lt lt)]
      exact (hf c hcm).1
  done := by
    intro X hP hw hK hc i pins s σ H E I hf st go
    subst hP hw hK
    obtain ⟨q1, q2, ⟨x0, y0, q3⟩, q4, q5⟩ := st
    obtain ⟨xs, ys, sx, sy, h1, h2, h3⟩ := go
    obtain ⟨l1, r1, p1, _⟩ := I.list sx
    obtain ⟨l2, r2, p2, _⟩ := I.tuple sy
    have e1 := r1.length
    have e2 := r2.length
    have hh := I.ok.hd hc
    have D1 := Draws.list (prog := X.prog) (w := X.w) (A := X.A.in1) hh i1 a na l1.toArray
    have D2 := Draws.tuple (prog := X.prog) (w := X.w) (A := X.A.in1) hh i2 b nb l2.toArray
    refine wpAny_pyNext_zipD2_end S D1 D2 q1 q2 q3 ⟨q4, p1.isList⟩ ⟨q5, p2⟩ (by rw [List.size_toArray]; omega) (by rw [List.size_toArray]; omega) (by rw [List.size_toArray, List.size_toArray]; omega) fun h' tk k => ⟨rfl, ?_⟩
    exact I.turnedL (ch := [z, TI, TO, i1, i2]) (fun c o hb e => k c o (fun q => hb (by simp [q])) (fun q => hb (by simp [q])) (fun q => hb (by simp [q])) (fun q => hb (by simp [q])) e) hf
  self := fun A i s Q E st h => wpAny_pyIter_zip st.1 h
/-- zip(a list or a tuple, a tuple) -/
def iZipS (K : PySem.W.Frag) (ta : TA) : TI := fun σ H R => ta σ H fun vs H1 => ∃ a b xs ys, vs = [.ref a, .ref b] ∧ SqL K H1 a xs ∧ SqT K H1 b ys ∧ R (ItzM K a b) H1
theorem pi_zipM {X : Cx} {e e2 : Expr} {ta : TA} {p pos tpos : Pos} {elts : List Expr} {kk : Nat} (hg : Gl X "zip") (hm : X.mg "zip" = none) (ha : PA X [e, e2] ta)
    (hs : starEach [e, e2] X.env = (false, eval e X.env) :: starEach [e2] X.env := by rfl) (hpl : (backTo pos (starEach [e2] X.env)).any (·.1) = false := by rfl) :
    PI X (.Tuple elts kk tpos) (.Call (.Name "zip" p) [e, e2] [] pos) (iZipS X.K ta) := by
  refine ⟨fun pins s σ H R I h => Call_ (ld_blt I hg hm PyProof.Rows.boot_zip (PyProof.Rows.callWith_type1 (thn (ha.run pos pins s σ H _ I h) fun us s1 ⟨vs, H1, I1, r1, q⟩ => ?_) hs hpl))⟩
  obtain ⟨a, b, xs, ys, rfl, sx, sy, q⟩ := q
  obtain ⟨u, v, rfl, ru, rv⟩ := vals2 r1
  cases ru
  cases rv
  obtain ⟨l1, r1, p1, _⟩ := I1.list sx
  obtain ⟨l2, r2, p2, _⟩ := I1.tuple sy
  have la : a < s1.heap.objs.size := p1.lt
  have lb : b < s1.heap.objs.size := by
    obtain ⟨o, e, _⟩ := id p2
    exact Heap.lt_size e
  have S := zip_sep2 (N := s1.heap.objs.size) (fp1 := [a]) (fp2 := [b]) (fun c hc => by simp at hc; rw [hc]; exact la) (fun c hc => by simp at hc; rw [hc]; exact lb)
  refine zip_begins2 (begins_list a l1.toArray) (begins_tuple b l2.toArray) p1.isList p2 fun h' w1 w2 w3 w4 w5 w6 k => wpAny_pyIter_zip w1 ?_
  have I2 : Inv X pins σ H1 { s1 with heap := h' } := I1.kept k
  refine ⟨s1.heap.objs.size + 4, [s1.heap.objs.size + 4, s1.heap.objs.size + 2, s1.heap.objs.size + 3, s1.heap.objs.size, s1.heap.objs.size + 1], _, _, H1, rfl, I2, turn_zipM S (Nat.ne_of_lt la) (Nat.ne_of_lt (Nat.lt_succ_of_lt lb)), ⟨w1, w2, ⟨_, _, w3⟩, ⟨_, w4, rfl, rfl⟩, ⟨_, w5, rfl, rfl⟩⟩, fun c hcm => ?_, q⟩
  have le : s1.heap.objs.size ≤ c := by
    rcases five hcm with rfl | rfl | rfl | rfl | rfl
    · exact Nat.le_add_right _ _
    · exact Nat.le_add_right _ _
    · exact Nat.le_add_right _ _
    · exact Nat.le_refl _
    · exact Nat.le_add_right _ _
  exact I1.fpOk le (I1.hok.fresh le)
theorem pi_zipX {X : Cx} {e e2 : Expr} {ta : TA} {p pos tpos : Pos} {elts : List Expr} {kk : Nat} (hg : Gl X "zip") (hm : X.mg "zip" = none) (ha : PA X [e, e2] ta)
    (hs : starEach [e, e2] X.env = (false, eval e X.env) :: starEach [e2] X.env := by rfl) (hpl : (backTo pos (starEach [e2] X.env)).any (·.1) = false := by rfl) :
    PI X (.Tuple elts kk tpos) (.Call (.Name "zip" p) [e, e2] [] pos) (fun σ H R => iZipS X.K ta σ H R ∨ RZ.iZipA X.K ta σ H R) :=
  ⟨fun pins s σ H R I h => h.elim ((pi_zipM hg hm ha hs hpl).run pins s σ H R I) ((RZ.pi_zipA hg hm ha hs hpl).run pins s σ H R I)⟩
/-- two tuples, in pairs -/
theorem walk_zipTT {K : PySem.W.Frag} {b c : Addr} {xs ys : List V} (h : xs.length = ys.length) : Walk (RZ.ItzT K b c) xs.length (fun H => SqT K H b xs ∧ SqT K H c ys) (YPair (fun i => xs[i]?) (fun i => ys[i]?)) := by
  refine ⟨fun i _ hi q => ⟨xs, ys, xs[i], ys[i]'(h ▸ hi), q.1, q.2, by simp [hi], by simp [h ▸ hi]⟩, fun _ q => ⟨xs, ys, q.1, q.2, .inl (Nat.le_refl _)⟩, fun i H v H' _ q y => ?_⟩
  obtain ⟨t, x, z, h1, h2, h3, h4, h5⟩ := y
  exact ⟨t, x, z, h1, h2, h3, h4 xs q.1, h5 ys q.2⟩
theorem walk_zipM {K : PySem.W.Frag} {a b : Addr} {xs ys : List V} (h : xs.length = ys.length) : Walk (ItzM K a b) xs.length (fun H => SqL K H a xs ∧ SqT K H b ys) (YPair (fun i => xs[i]?) (fun i => ys[i]?)) := by
  refine ⟨fun i _ hi q => ⟨xs, ys, xs[i], ys[i]'(h ▸ hi), q.1, q.2, by simp [hi], by simp [h ▸ hi]⟩, fun _ q => ⟨xs, ys, q.1, q.2, Nat.le_refl _, by omega, .inl rfl⟩, fun i H v H' _ q y => ?_⟩
  obtain ⟨t, x, z, h1, h2, h3, h4, h5⟩ := y
  exact ⟨t, x, z, h1, h2, h3, h4 xs q.1, h5 ys q.2⟩
end Ew

set_option Elab.async false
set_option linter.all false
set_option maxRecDepth 100000
set_option maxHeartbeats 4000000
namespace Ew
open PySem PySem.Spec PyProof.Rows L2
/-! ### zip(a tuple, a list) -/
def ItzN (K : PySem.W.Frag) (a b : Addr) : It where
  go := fun i H => ∃ (xs ys : List V) (x y : V), SqT K H a xs ∧ SqL K H b ys ∧ xs[i]? = some x ∧ ys[i]? = some y
  yld := fun i H v H' => ∃ T x y, v = .ref T ∧ H T = none ∧ H' = upd H T (.tup [x, y]) ∧ (∀ xs, SqT K H a xs → xs[i]? = some x) ∧ ∀ ys, SqL K H b ys → ys[i]? = some y
  stop := fun i H => ∃ xs ys : List V, SqT K H a xs ∧ SqL K H b ys ∧ i ≤ xs.length ∧ i ≤ ys.length ∧ (i = xs.length ∨ i = ys.length)
def TnN (z TI TO i1 i2 a b : Addr) (i : Nat) (h : Heap) : Prop := IsZip h z TI TO .none ∧ IsTupOf2 h TI (.ref i1) (.ref i2) ∧ (∃ x y, IsTupOf2 h TO x y) ∧ h.IsTupleIter i1 a i ∧ h.IsListIter i2 b i
theorem turn_zipN {P : Program} {w : World} {K : PySem.W.Frag} {elts : List Expr} {kk : Nat} {tpos : Pos} {a b z TI TO i1 i2 : Addr} (S : ZipSep2 z TI TO i1 i2 [i1, a] [i2, b]) (na : a ≠ i1) (nb : b ≠ i2) :
    Turn P w K (.Tuple elts kk tpos) (ItzN K a b) [z, TI, TO, i1, i2] z (TnN z TI TO i1 i2 a b) where
  mem := List.mem_cons_self
  obj := fun i h st c hc => by
    obtain ⟨q1, q2, ⟨_, _, q3⟩, ⟨o4, q4, _, d4⟩, ⟨o5, q5, _, d5⟩⟩ := st
    rcases five hc with rfl | rfl | rfl | rfl | rfl
    · exact ⟨_, q1, fun v e => nomatch e⟩
    · exact ⟨_, q2, fun v e => nomatch e⟩
    · exact ⟨_, q3, fun v e => nomatch e⟩
    · exact ⟨o4, q4, fun v e => by rw [d4] at e; cases e⟩
    · exact ⟨o5, q5, fun v e => by rw [d5] at e; cases e⟩
  keep := fun i h h' st k => by
    obtain ⟨q1, q2, ⟨x, y, q3⟩, q4, q5⟩ := st
    refine ⟨k _ List.mem_cons_self _ q1, k _ (by simp) _ q2, ⟨x, y, k _ (by simp) _ q3⟩, q4.at fun o e => ?_, q5.at fun o e => ?_⟩
    · exact k _ (by simp) o e
    · exact k _ (by simp) o e
  item := by
    intro X hP hw hK hc i pins s σ H E I hf st go
    subst hP hw hK
    obtain ⟨q1, q2, ⟨x0, y0, q3⟩, q4, q5⟩ := st
    obtain ⟨xs, ys, x, y, sx, sy, hx, hy⟩ := go
    obtain ⟨l1, r1, p1, _⟩ := I.tuple sx
    obtain ⟨l2, r2, p2, _⟩ := I.list sy
    obtain ⟨u1, hu1, ru1⟩ := r1.get hx
    obtain ⟨u2, hu2, ru2⟩ := r2.get hy
    have hh := I.ok.hd hc
    have D1 := Draws.tuple (prog := X.prog) (w := X.w) (A := X.A.in1) hh i1 a na l1.toArray
    have D2 := Draws.list (prog := X.prog) (w := X.w) (A := X.A.in1) hh i2 b nb l2.toArray
    have g1 : i < l1.toArray.size := by
      rw [List.size_toArray]
      exact (List.getElem?_eq_some_iff.mp hu1).1
    have g2 : i < l2.toArray.size := by
      rw [List.size_toArray]
      exact (List.getElem?_eq_some_iff.mp hu2).1
    have zl := Heap.lt_size q1
    refine wpAny_pyNext_zipD2_item S D1 D2 q1 q2 q3 ⟨q4, p1⟩ ⟨q5, p2.isList⟩ g1 g2 fun v1 v2 h' tk e1 e2 w1 w2 w3 w4 w5 w6 w7 => ?_
    rw [List.getElem?_toArray, hu1] at e1
    rw [List.getElem?_toArray, hu2] at e2
    cases e1
    cases e2
    refine ⟨_, rfl, wpAny_letOwnedTupleGo_zip (s := { s with heap := h', toks := tk }) w1 fun h'' w1' sb => ?_⟩
    have nw : h''.get? s.heap.objs.size = some { cls := .type "tuple", data := .seq #[u1, u2] } := (sb.2 _ (Nat.ne_of_gt zl)).trans w5
    have ob : ObjOk X.prog X.w (upd H s.heap.objs.size (.tup [x, y])) h'' s.heap.objs.size (.tup [x, y]) := by
      refine ⟨?_, [u1, u2], .cons ru1 (.cons ru2 .nil), ⟨_, nw, rfl, _, rfl⟩⟩
      show 2 ≤ sizeLine
      decide
    have off : ∀ c o, c ∉ [z, TI, TO, i1, i2] → s.heap.get? c = some o → h''.get? c = some o := fun c o hb e => by
      have n : c ≠ z ∧ c ≠ TO ∧ c ≠ i1 ∧ c ≠ i2 := ⟨fun q => hb (by simp [q]), fun q => hb (by simp [q]), fun q => hb (by simp [q]), fun q => hb (by simp [q])⟩
      exact (sb.2 c n.1).trans (w7 c o n.1 n.2.1 n.2.2.1 n.2.2.2 e)
    have I1 : Inv X pins σ (upd H s.heap.objs.size (.tup [x, y])) { s with heap := h'', toks := tk } := I.turnedNew off hf (Nat.le_refl _) ob
    refine ⟨.ref s.heap.objs.size, _, I1, rfl, ⟨_, x, y, rfl, I.hok.fresh (Nat.le_refl _), rfl, fun l hl => ?_, fun l hl => ?_⟩, ⟨w1', ?_, ⟨u1, u2, ?_⟩, ?_, ?_⟩, fun c hcm => ?_⟩
    · rw [I.tuple_inj hl sx]; exact hx
    · rw [I.list_inj hl sy]; exact hy
    · exact (sb.2 _ S.TIz).trans (w7 _ _ S.TIz S.TITO S.TIi1 S.TIi2 q2)
    · exact (sb.2 _ S.TOz).trans w2
    · exact w3.1.at fun o e => (sb.2 _ S.zi1.symm).trans e
    · exact w4.1.at fun o e => (sb.2 _ S.zi2.symm).trans e
    · have lt : c < s.heap.objs.size := by
        rcases five hcm with rfl | rfl | rfl | rfl | rfl
        · exact zl
        · exact Heap.lt_size q2
        · exact Heap.lt_size q3
        · obtain ⟨_, e, _⟩ := q4; exact Heap.lt_size e
        · obtain ⟨_, e, _⟩ := q5; exact Heap.lt_size e
      rw [upd_ne (Nat.ne_of_lt lt)]
      exact (hf c hcm).1
  done := by
    intro X hP hw hK hc i pins s σ H E I hf st go
    subst hP hw hK
    obtain ⟨q1, q2, ⟨x0, y0, q3⟩, q4, q5⟩ := st
    obtain ⟨xs, ys, sx, sy, h1, h2, h3⟩ := go
    obtain ⟨l1, r1, p1, _⟩ := I.tuple sx
    obtain ⟨l2, r2, p2, _⟩ := I.list sy
    have e1 := r1.length
    have e2 := r2.length
    have hh := I.ok.hd hc
    have D1 := Draws.tuple (prog := X.prog) (w := X.w) (A := X.A.in1) hh i1 a na l1.toArray
    have D2 := Draws.list (prog := X.prog) (w := X.w) (A := X.A.in1) hh i2 b nb l2.toArray
    refine wpAny_pyNext_zipD2_end S D1 D2 q1 q2 q3 ⟨q4, p1⟩ ⟨q5, p2.isList⟩ (by rw [List.size_toArray]; omega) (by rw [List.size_toArray]; omega) (by rw [List.size_toArray, List.size_toArray]; omega) fun h' tk k => ⟨rfl, ?_⟩
    exact I.turnedL (ch := [z, TI, TO, i1, i2]) (fun c o hb e => k c o (fun q => hb (by simp [q])) (fun q => hb (by simp [q])) (fun q => hb (by simp [q])) (fun q => hb (by simp [q])) e) hf
  self := fun A i s Q E st h => wpAny_pyIter_zip st.1 h
def iZipN (K : PySem.W.Frag) (ta : TA) : TI := fun σ H R => ta σ H fun vs H1 => ∃ a b xs ys, vs = [.ref a, .ref b] ∧ SqT K H1 a xs ∧ SqL K H1 b ys ∧ R (ItzN K a b) H1
theorem pi_zipN {X : Cx} {e e2 : Expr} {ta : TA} {p pos tpos : Pos} {elts : List Expr} {kk : Nat} (hg : Gl X "zip") (hm : X.mg "zip" = none) (ha : PA X [e, e2] ta)
    (hs : starEach [e, e2] X.env = (false, eval e X.env) :: starEach [e2] X.env := by rfl) (hpl : (backTo pos (starEach [e2] X.env)).any (·.1) = false := by rfl) :
    PI X (.Tuple elts kk tpos) (.Call (.Name "zip" p) [e, e2] [] pos) (iZipN X.K ta) := by
  refine ⟨fun pins s σ H R I h => Call_ (ld_blt I hg hm PyProof.Rows.boot_zip (PyProof.Rows.callWith_type1 (thn (ha.run pos pins s σ H _ I h) fun us s1 ⟨vs, H1, I1, r1, q⟩ => ?_) hs hpl))⟩
  obtain ⟨a, b, xs, ys, rfl, sx, sy, q⟩ := q
  obtain ⟨u, v, rfl, ru, rv⟩ := vals2 r1
  cases ru
  cases rv
  obtain ⟨l1, r1, p1, _⟩ := I1.tuple sx
  obtain ⟨l2, r2, p2, _⟩ := I1.list sy
  have lb : b < s1.heap.objs.size := p2.lt
  have la : a < s1.heap.objs.size := by
    obtain ⟨o, e, _⟩ := id p1
    exact Heap.lt_size e
  have S := zip_sep2 (N := s1.heap.objs.size) (fp1 := [a]) (fp2 := [b]) (fun c hc => by simp at hc; rw [hc]; exact la) (fun c hc => by simp at hc; rw [hc]; exact lb)
  refine zip_begins2 (begins_tuple a l1.toArray) (begins_list b l2.toArray) p1 p2.isList fun h' w1 w2 w3 w4 w5 w6 k => wpAny_pyIter_zip w1 ?_
  have I2 : Inv X pins σ H1 { s1 with heap := h' } := I1.kept k
  refine ⟨s1.heap.objs.size + 4, [s1.heap.objs.size + 4, s1.heap.objs.size + 2, s1.heap.objs.size + 3, s1.heap.objs.size, s1.heap.objs.size + 1], _, _, H1, rfl, I2, turn_zipN S (Nat.ne_of_lt la) (Nat.ne_of_lt (Nat.lt_succ_of_lt lb)), ⟨w1, w2, ⟨_, _, w3⟩, ⟨_, w4, rfl, rfl⟩, ⟨_, w5, rfl, rfl⟩⟩, fun c hcm => ?_, q⟩
  have le : s1.heap.objs.size ≤ c := by
    rcases five hcm with rfl | rfl | rfl | rfl | rfl
    · exact Nat.le_add_right _ _
    · exact Nat.le_add_right _ _
    · exact Nat.le_add_right _ _
    · exact Nat.le_refl _
    · exact Nat.le_add_right _ _
  exact I1.fpOk le (I1.hok.fresh le)
theorem pi_zipY {X : Cx} {e e2 : Expr} {ta : TA} {p pos tpos : Pos} {elts : List Expr} {kk : Nat} (hg : Gl X "zip") (hm : X.mg "zip" = none) (ha : PA X [e, e2] ta)
    (hs : starEach [e, e2] X.env = (false, eval e X.env) :: starEach [e2] X.env := by rfl) (hpl : (backTo pos (starEach [e2] X.env)).any (·.1) = false := by rfl) :
    PI X (.Tuple elts kk tpos) (.Call (.Name "zip" p) [e, e2] [] pos) (fun σ H R => iZipN X.K ta σ H R ∨ RZ.iZipA X.K ta σ H R) :=
  ⟨fun pins s σ H R I h => h.elim ((pi_zipN hg hm ha hs hpl).run pins s σ H R I) ((RZ.pi_zipA hg hm ha hs hpl).run pins s σ H R I)⟩
theorem walk_zipN {K : PySem.W.Frag} {a b : Addr} {xs ys : List V} (h : xs.length = ys.length) : Walk (ItzN K a b) xs.length (fun H => SqT K H a xs ∧ SqL K H b ys) (YPair (fun i => xs[i]?) (fun i => ys[i]?)) := by
  refine ⟨fun i _ hi q => ⟨xs, ys, xs[i], ys[i]'(h ▸ hi), q.1, q.2, by simp [hi], by simp [h ▸ hi]⟩, fun _ q => ⟨xs, ys, q.1, q.2, Nat.le_refl _, by omega, .inl rfl⟩, fun i H v H' _ q y => ?_⟩
  obtain ⟨t, x, z, h1, h2, h3, h4, h5⟩ := y
  exact ⟨t, x, z, h1, h2, h3, h4 xs q.1, h5 ys q.2⟩
theorem walk_zipLL {K : PySem.W.Frag} {b c : Addr} {xs ys : List V} (h : xs.length = ys.length) : Walk (Itz K b c) xs.length (fun H => SqL K H b xs ∧ SqL K H c ys) (YPair (fun i => xs[i]?) (fun i => ys[i]?)) := by
  refine ⟨fun i _ hi q => ⟨xs, ys, xs[i], ys[i]'(h ▸ hi), q.1, q.2, by simp [hi], by simp [h ▸ hi]⟩, fun _ q => ⟨xs, ys, q.1, q.2, .inl (Nat.le_refl _)⟩, fun i H v H' _ q y => ?_⟩
  obtain ⟨t, x, z, h1, h2, h3, h4, h5⟩ := y
  exact ⟨t, x, z, h1, h2, h3, h4 xs q.1, h5 ys q.2⟩
end Ew

set_option Elab.async false
set_option linter.all false
set_option maxRecDepth 100000
set_option maxHeartbeats 4000000
namespace Ew
open PySem PySem.Spec PyProof.Rows L2
section
variable {m : Addr → Prop} {I : Hp → Hp → Prop} {F H F' H' F2 H2 : Hp} {J : It} {n : Nat} {G : Hp → Prop} {Y : Nat → Hp → V → Hp → Prop}
/-- a comprehension whose items may have to do with one another: S says what of the row so far -/
theorem lcS (M : Mem m I) (w : Walk J n G Y) {g : TG} {tt : TT} {te : TE} {vs : List Nat} {σ : L2.St} {D : Addr} {Qd : Hp → Prop} (S : List V → Prop) (hf : Same F H) (i0 : I F H) (s0 : S []) (hD : H D = none) (R : Nat → Hp → V → Prop) (hR : ∀ i F F' y, Same F F' → R i F y → R i F' y)
    (hn : n ≤ 1000000) (hG : ∀ F' H', Same F F' → Same F' H' → G H')
    (hs : ∀ i x F' H' H'' acc (Kt : VK) (Kn : Hp → Prop), i < n → Stm m F H F' H' → I F' H' → acc.length = i → S acc → (∀ j y, acc[j]? = some y → R j F' y) → Y i H' x H'' → (∀ y F4 H4, Stm m F' H' F4 H4 → I F4 H4 → R i F4 y → S (acc ++ [y]) → Kt y H4) →
      g x (wipe σ vs) H'' fun σ2 H2 => wipe σ2 vs = wipe σ vs ∧ tt σ2 H2 fun b H3 => if b = true then te σ2 H3 Kt else Kn H3)
    (hd : ∀ F' H' ys, Stm m F H F' H' → I F' H' → H D = none → F' D = some (.lst ys) → ys.length = n → S ys → (∀ j y, ys[j]? = some y → R j F' y) → Qd H') :
    ∃ W : Nat → Nat → Hp → Prop, (∃ k, W 0 k (upd H D (.lst []))) ∧ ∀ i k H, W i k H →
      (J.stop i H ∧ Qd H) ∨ (J.go i H ∧ ∃ Nx : Hp → Prop, (∀ H', Nx H' → ∃ k', k' < k ∧ W (i + 1) k' H') ∧ ∀ x H', J.yld i H x H' → g x (wipe σ vs) H' fun σ2 H2 => wipe σ2 vs = wipe σ vs ∧ tt σ2 H2 fun b H3 =>
        if b = true then te σ2 H3 fun y H4 => ∃ acc, H4 D = some (.lst acc) ∧ acc.length < sizeLine ∧ Nx (upd H4 D (.lst (acc ++ [y]))) else Nx H3) := by
  have nm : ¬ m D := fun z => M.there i0 z hD
  have fD : F D = none := hf.free hD
  refine lc_it w (fun i H' => ∃ F' acc, Stm m F H F' H' ∧ I F' H' ∧ F' D = none ∧ H' D = some (.lst acc) ∧ acc.length = i ∧ S acc ∧ ∀ j y, acc[j]? = some y → R j F' y) ?_ ?_ ?_ ?_
  · exact ⟨F, [], (Stm.refl hf).raw hD hD, M.put i0 nm, fD, upd_same, rfl, s0, fun j y z => by simp at z⟩
  · rintro i H' _ ⟨F', acc, s, _⟩
    exact hG F' H' s.ff s.fh
  · rintro i x H' H'' hi ⟨F', acc, s, iv, f', h', hl, hS, hr⟩ y
    refine hs i x F' H' H'' acc _ _ hi s iv hl hS hr y fun y F4 H4 s4 i4 r4 hS4 => ?_
    have f4 : F4 D = none := s4.nw D f' (by rw [h']; exact fun z => nomatch z)
    have h4 : H4 D = some (.lst acc) := s4.hh D _ nm h'
    refine ⟨acc, h4, by rw [sizeLine_eq]; omega, F4, acc ++ [y], (s.then M iv s4).mut f4 hD, M.put i4 nm, f4, upd_same, by rw [List.length_append, hl]; rfl, hS4, fun j z hz => ?_⟩
    rcases Nat.lt_or_ge j acc.length with hj | hj
    · rw [List.getElem?_append_left hj] at hz
      exact hR j F' F4 z s4.ff (hr j z hz)
    · rw [List.getElem?_append_right hj] at hz
      have e0 : j - acc.length = 0 := by
        rcases Nat.eq_zero_or_pos (j - acc.length) with h0 | h0
        · exact h0
        · rw [List.getElem?_eq_none (by simp; omega)] at hz; cases hz
      rw [e0] at hz
      cases hz
      have ej : j = i := by omega
      rw [ej]
      exact r4
  · rintro H' ⟨F', acc, s, iv, f', h', hl, hS, hr⟩
    refine hd (upd F' D (.lst acc)) H' acc (s.freeze f' hD h') (M.grow iv (same_new f') fun x hx => ?_) hD upd_same hl hS fun j y hy => hR j F' _ y (same_new f') (hr j y hy)
    rw [upd_ne (fun z => nm (by rw [← z]; exact hx))]
    exact M.off iv hx
/-- nothing new needs to be frozen -/
theorem Stm.thaw (hf : Same F H) (s : Stm m F H F' H') : Stm m F H F H' := ⟨.refl F, fun x o e => s.fh x o (s.ff x o e), s.hh, fun _ n _ => n⟩
theorem stp_same (hf : Same F H) (e : Same H H') : Stp F H F H' := ⟨.refl F, hf.trans e, fun x o _ h => e x o h, fun _ n _ => n⟩
/-- all that is new, frozen -/
def fz (F H H' : Hp) : Hp := fun x => if H x = none then H' x else F x
theorem fz_new {x : Addr} (h : H x = none) : fz F H H' x = H' x := if_pos h
theorem fz_old {x : Addr} (h : H x ≠ none) : fz F H H' x = F x := if_neg h
theorem Stm.all (hf : Same F H) (s : Stm m F H F' H') : Stm m F H (fz F H H') H' where
  ff := fun x o e => by rw [fz_old (by rw [hf x o e]; exact fun z => nomatch z)]; exact e
  fh := fun x o e => by
    by_cases h : H x = none
    · rw [fz_new h] at e; exact e
    · rw [fz_old h] at e; exact s.fh x o (s.ff x o e)
  hh := s.hh
  nw := fun x n h => by rw [fz_old h]; exact n
theorem stp_all (hf : Same F H) (e : Same H H') : Stp F H (fz F H H') H' := (stp_same hf e).all hf
end
end Ew

set_option Elab.async false
set_option linter.all false
set_option maxRecDepth 100000
set_option maxHeartbeats 4000000
namespace K53
open PySem PySem.Spec PyProof.Rows L2 Ew
/-! ### tables in the heap -/
def rowV (n : Nat) (g : Nat → Int) : List V := (List.range n).map fun j => V.int (g j)
theorem rowV_len {n : Nat} {g : Nat → Int} : (rowV n g).length = n := by simp [rowV]
theorem rowV_at {n j : Nat} {g : Nat → Int} (h : j < n) : (rowV n g)[j]? = some (.int (g j)) := by
  unfold rowV
  rw [List.getElem?_map, List.getElem?_range h]
  rfl
theorem rowV_get {n j : Nat} {g : Nat → Int} {y : V} (h : (rowV n g)[j]? = some y) : j < n ∧ y = .int (g j) := by
  have hj : j < n := by
    have := (List.getElem?_eq_some_iff.mp h).1
    rwa [rowV_len] at this
  rw [rowV_at hj] at h
  cases h
  exact ⟨hj, rfl⟩
theorem rowV_of {n : Nat} {g : Nat → Int} {ys : List V} (hl : ys.length = n) (h : ∀ j y, ys[j]? = some y → y = V.int (g j)) : ys = rowV n g := by
  refine List.ext_getElem? fun j => ?_
  rcases Nat.lt_or_ge j n with hj | hj
  · rw [rowV_at hj]
    have : j < ys.length := by omega
    rw [List.getElem?_eq_getElem this, h j _ (List.getElem?_eq_getElem this)]
  · rw [List.getElem?_eq_none (by omega), List.getElem?_eq_none (by rw [rowV_len]; omega)]
theorem rowV_congr {n : Nat} {g g' : Nat → Int} (h : ∀ j, j < n → g j = g' j) : rowV n g = rowV n g' :=
  rowV_of rowV_len fun j y e => by obtain ⟨h1, rfl⟩ := rowV_get e; rw [h j h1]
/-- a list, or (t) a tuple -/
def Sq (K : PySem.W.Frag) (t : Bool) (H : Hp) (p : Addr) (xs : List V) : Prop := if t = true then SqT K H p xs else SqL K H p xs
section
variable {K : PySem.W.Frag} {t : Bool} {F H H' : Hp} {p q : Addr} {xs ys : List V} {v : V} {n : Nat} {f g : Tb2}
theorem Sq.up (h : Sq K t H p xs) (e : Same H H') : Sq K t H' p xs := by
  cases t
  · exact upL e h
  · exact upT e h
theorem Sq.row (h : Sq K t H p xs) : SqL K H p xs ∨ SqT K H p xs := by
  cases t
  · exact .inl h
  · exact .inr h
/-- a table of n rows of n numbers -/
def Tb (K : PySem.W.Frag) (t : Bool) (H : Hp) (v : V) (n : Nat) (f : Tb2) : Prop := ∃ p us, v = .ref p ∧ Sq K t H p us ∧ us.length = n ∧ ∀ (i : Nat) u, us[i]? = some u → ∃ q, u = .ref q ∧ Sq K t H q (rowV n (f i))
theorem Tb.up (h : Tb K t H v n f) (e : Same H H') : Tb K t H' v n f := by
  obtain ⟨p, us, h1, h2, h3, h4⟩ := h
  exact ⟨p, us, h1, h2.up e, h3, fun i u hu => by obtain ⟨q, h5, h6⟩ := h4 i u hu; exact ⟨q, h5, h6.up e⟩⟩
theorem Tb.congr (h : Tb K t H v n f) (e : ∀ a b, a < n → b < n → f a b = g a b) : Tb K t H v n g := by
  obtain ⟨p, us, h1, h2, h3, h4⟩ := h
  refine ⟨p, us, h1, h2, h3, fun i u hu => ?_⟩
  obtain ⟨q, h5, h6⟩ := h4 i u hu
  have hi : i < n := by
    have := (List.getElem?_eq_some_iff.mp hu).1
    omega
  exact ⟨q, h5, by rw [← rowV_congr fun j hj => e i j hi hj]; exact h6⟩
theorem sq_pick {σ : L2.St} {R : It → Hp → Prop} {i : Nat} (h0 : σ[i]? = some (some (.ref p))) (hp : Sq K t H p xs)
    (k : ∀ J G, Walk J xs.length G (YAt xs) → (∀ H2, Sq K t H2 p xs → G H2) → R J H) : iList K (tVar i) σ H R ∨ iTup K (tVar i) σ H R := by
  cases t
  · exact .inl ⟨_, h0, p, rfl, ⟨xs, hp⟩, k _ _ walk_list fun H2 e2 => e2⟩
  · exact .inr ⟨_, h0, p, rfl, ⟨xs, hp⟩, k _ _ walk_tup fun H2 e2 => e2⟩
theorem zip_pick {σ : L2.St} {R : It → Hp → Prop} {i j : Nat} (h0 : σ[i]? = some (some (.ref p))) (h1 : σ[j]? = some (some (.ref q))) (hp : Sq K t H p xs) (hq : Sq K t H q ys) (hl : xs.length = ys.length)
    (k : ∀ J G, Walk J xs.length G (YPair (fun i => xs[i]?) (fun i => ys[i]?)) → (∀ H2, Sq K t H2 p xs → Sq K t H2 q ys → G H2) → R J H) : RZ.iZipA K (tCons (tVar i) (tCons (tVar j) tNil)) σ H R := by
  cases t
  · exact ⟨_, h0, _, h1, p, q, xs, ys, rfl, .inl ⟨hp, hq, k _ _ (walk_zipLL hl) fun H2 e2 e3 => ⟨e2, e3⟩⟩⟩
  · exact ⟨_, h0, _, h1, p, q, xs, ys, rfl, .inr ⟨hp, hq, k _ _ (walk_zipTT hl) fun H2 e2 e3 => ⟨e2, e3⟩⟩⟩
theorem for_sq {σ : L2.St} {g : TG} {tb : TS} {D : Ends} {i : Nat} (h0 : σ[i]? = some (some (.ref p))) (hp : Sq K t H p xs) (Pv : Nat → L2.St → Hp → Prop) (a0 : Pv 0 σ H) (hG : ∀ i σ H', Pv i σ H' → Sq K t H' p xs)
    (hs : ∀ i x σ H H', i < xs.length → Pv i σ H → YAt xs i H x H' → g x σ H' fun σ2 H2 => tb { D with nx := Pv (i + 1), ct := Pv (i + 1), bk := D.nx } σ2 H2) (hd : ∀ σ H, Pv xs.length σ H → D.nx σ H) :
    tFor (fun σ H R => iList K (tVar i) σ H R ∨ iTup K (tVar i) σ H R) g tb D σ H :=
  sq_pick h0 hp fun J G wk hG2 => for_it wk Pv a0 (fun i σ H' _ z => hG2 _ (hG i σ H' z)) hs hd
theorem for_zip {σ : L2.St} {g : TG} {tb : TS} {D : Ends} {i j : Nat} (h0 : σ[i]? = some (some (.ref p))) (h1 : σ[j]? = some (some (.ref q))) (hp : Sq K t H p xs) (hq : Sq K t H q ys) (hl : xs.length = ys.length) (Pv : Nat → L2.St → Hp → Prop) (a0 : Pv 0 σ H) (hG : ∀ i σ H', Pv i σ H' → Sq K t H' p xs ∧ Sq K t H' q ys)
    (hs : ∀ i x σ H H', i < xs.length → Pv i σ H → YPair (fun i => xs[i]?) (fun i => ys[i]?) i H x H' → g x σ H' fun σ2 H2 => tb { D with nx := Pv (i + 1), ct := Pv (i + 1), bk := D.nx } σ2 H2) (hd : ∀ σ H, Pv xs.length σ H → D.nx σ H) :
    tFor (RZ.iZipA K (tCons (tVar i) (tCons (tVar j) tNil))) g tb D σ H :=
  zip_pick h0 h1 hp hq hl fun J G wk hG2 => for_it wk Pv a0 (fun i σ H' _ z => hG2 _ (hG i σ H' z).1 (hG i σ H' z).2) hs hd
theorem lc_zip {σ : L2.St} {g : TG} {tt : TT} {te : TE} {vs : List Nat} {Q : VK} {i j : Nat} (h0 : σ[i]? = some (some (.ref p))) (h1 : σ[j]? = some (some (.ref q))) (hp : Sq K t H p xs) (hq : Sq K t H q ys) (hl : xs.length = ys.length) (R : Nat → Hp → V → Prop) (hR : ∀ i F F' y, Same F F' → R i F y → R i F' y) (hn : xs.length ≤ 1000000)
    (hs : ∀ i x F' H' H'' (Kt : VK) (Kn : Hp → Prop), i < xs.length → Stp H H F' H' → YPair (fun i => xs[i]?) (fun i => ys[i]?) i H' x H'' → (∀ y F4 H4, Stp F' H' F4 H4 → R i F4 y → Kt y H4) →
      g x (wipe σ vs) H'' fun σ2 H2 => wipe σ2 vs = wipe σ vs ∧ tt σ2 H2 fun b H3 => if b = true then te σ2 H3 Kt else Kn H3)
    (hd : ∀ F' H' zs D, Stp H H F' H' → H D = none → F' D = some (.lst zs) → zs.length = xs.length → (∀ j y, zs[j]? = some y → R j F' y) → Q (.ref D) H') : tLc (RZ.iZipA K (tCons (tVar i) (tCons (tVar j) tNil))) g tt te vs σ H Q :=
  zip_pick h0 h1 hp hq hl fun J G wk hG D hD => lcM memP wk (.refl H) trivial hD R hR hn (fun F' H' e1 e2 => hG _ (hp.up (e1.trans e2)) (hq.up (e1.trans e2))) (fun i x F' H' H'' Kt Kn hi s1 _ y kk => hs i x F' H' H'' Kt Kn hi s1 y fun y F4 H4 s4 r4 => kk y F4 H4 s4 trivial r4) fun F' H' zs s1 _ hD' hl' hr => hd F' H' zs D s1 hD hD' hl' hr
theorem lc_sq {σ : L2.St} {g : TG} {tt : TT} {te : TE} {vs : List Nat} {Q : VK} {i : Nat} (h0 : σ[i]? = some (some (.ref p))) (hp : Sq K t H p xs) (R : Nat → Hp → V → Prop) (hR : ∀ i F F' y, Same F F' → R i F y → R i F' y) (hn : xs.length ≤ 1000000)
    (hs : ∀ i x F' H' H'' (Kt : VK) (Kn : Hp → Prop), i < xs.length → Stp H H F' H' → YAt xs i H' x H'' → (∀ y F4 H4, Stp F' H' F4 H4 → R i F4 y → Kt y H4) →
      g x (wipe σ vs) H'' fun σ2 H2 => wipe σ2 vs = wipe σ vs ∧ tt σ2 H2 fun b H3 => if b = true then te σ2 H3 Kt else Kn H3)
    (hd : ∀ F' H' zs D, Stp H H F' H' → H D = none → F' D = some (.lst zs) → zs.length = xs.length → (∀ j y, zs[j]? = some y → R j F' y) → Q (.ref D) H') : tLc (fun σ H R => iList K (tVar i) σ H R ∨ iTup K (tVar i) σ H R) g tt te vs σ H Q :=
  sq_pick h0 hp fun J G wk hG D hD => lcM memP wk (.refl H) trivial hD R hR hn (fun F' H' e1 e2 => hG _ (hp.up (e1.trans e2))) (fun i x F' H' H'' Kt Kn hi s1 _ y kk => hs i x F' H' H'' Kt Kn hi s1 y fun y F4 H4 s4 r4 => kk y F4 H4 s4 trivial r4) fun F' H' zs s1 _ hD' hl' hr => hd F' H' zs D s1 hD hD' hl' hr
end
section
variable {P : Program} {w : World} {K : PySem.W.Frag} {mg : Str → Option Value} {base : Heap} {a : Ad}
theorem if_tB {te : TE} {t u : TS} {D : Ends} {σ : L2.St} {H : Hp} (h : te σ H fun v H1 => ∃ b, v = .bl b ∧ if b = true then t D σ H1 else u D σ H1) : tIfS (tB te) t u D σ H := h
theorem cb1 {r : List V → Hp → VK → Prop} {te : TE} {σ : L2.St} {H : Hp} {Q : VK} (h : te σ H fun v H1 => r [v] H1 Q) : tCB r (tCons te tNil) σ H Q := h
def rTupS (K : PySem.W.Frag) : List V → Hp → VK → Prop := fun xs H Q => ∃ p ys, xs = [.ref p] ∧ ((SqL K H p ys ∧ ∀ l, H l = none → Q (.ref l) (upd H l (.tup ys))) ∨ (SqT K H p ys ∧ Q (.ref p) H))
theorem call_tupS {X : Cx} : CallR X (.type "tuple") (rTupS X.K) := call_tuple_of
def rLstS (K : PySem.W.Frag) : List V → Hp → VK → Prop := fun xs H Q => ∃ p ys, xs = [.ref p] ∧ (SqL K H p ys ∨ SqT K H p ys) ∧ ∀ l, H l = none → Q (.ref l) (upd H l (.lst ys))
theorem call_lstS {X : Cx} : CallR X (.type "list") (rLstS X.K) := call_list_of
def sp_is_closed (K : PySem.W.Frag) : Sp := fun vs H Q _ => ∃ (t : Bool) (v : V) (n : Nat) (f : Tb2), vs = [v] ∧ Tb K t H v n f ∧ n ≤ 1000 ∧ Cld n f ∧ ∀ H', Same H H' → Q (.bl true) H'
theorem c_is_closed (T : Txt K mg a) : Cl P w K mg base 1 "is_closed" P_is_closed (sp_is_closed K) [] :=
  T.d_is_closed.cl sc_is_closed (fun vs H Q E h => by obtain ⟨t, v, n, f, rfl, _⟩ := h; rfl) fun f cdv A outer s H vs Q E hr h => by
    obtain ⟨t, _, n, f, rfl, ⟨p, us, rfl, hp, hl, hu⟩, hn, hc, k⟩ := h
    refine ⟨_, ((pss_cons (ps_for (passes_of rfl) rfl (pi_seq (pv 0)) (pg_name (i := 1) sc_is_closed.nd rfl (Or.inl rfl))
 (pss_one (ps_for (passes_of rfl) rfl (RZ.pi_zipA (by rfl) T.n_zip (pa_cons (pv 1) (pa_cons (pv 0) pa_nil))) (pg_tup rfl (pgs_cons (pg_name (i := 2) sc_is_closed.nd rfl (Or.inr rfl)) (pgs_cons (pg_name (i := 3) sc_is_closed.nd rfl (Or.inl rfl)) pgs_nil)))
 (pss_one (ps_if (pt_val (pe_callB (cr_any rfl) (by rfl) T.n_any (by decide +kernel) (pa_cons (pe_lc (own := [("far", 4), ("near", 5)]) (g := (gTup K 2 (gCons (gName 4) (gCons (gName 5) gNil)))) (by rfl) sc_is_closed.nd (RZ.pi_zipA (by rfl) T.n_zip (pa_cons (pv 1) (pa_cons (pv 3) pa_nil))) (blkOk_by (own := [("far", 4), ("near", 5)]) (N := N_is_closed) (sc := defScope s_is_closed) (by decide +kernel)) (fun _ _ _ _ _ => (pg_tup rfl (pgs_cons (pg_name (i := 4) sc_is_closed.nd rfl (Or.inl rfl) (hf := .inr rfl)) (pgs_cons (pg_name (i := 5) sc_is_closed.nd rfl (Or.inl rfl) (hf := .inr rfl)) pgs_nil)))) (fun _ _ _ _ _ => pts_nil) (fun _ _ _ _ _ => (pe_cmpR op_gt (pv 4) (pe_op op_add (pv 2) (pv 5)) (nomark _)))) pa_nil)))
 (pss_one (ps_ret pe_bl))
 pss_nil)))))
 (pss_one (ps_ret pe_bl)))), ?_⟩
    refine for_sq (i := 0) rfl hp (fun j σ' H' => ∃ c1 c2 c3 c4 c5, σ' = [some (.ref p), c1, c2, c3, c4, c5] ∧ Same H H') ?_ ?_ ?_ ?_
    · exact ⟨none, none, none, none, none, rfl, .refl H⟩
    · rintro j σ' H' ⟨c1, c2, c3, c4, c5, _, e1⟩
      exact hp.up e1
    · rintro i x _ _ H1 hi ⟨c1, c2, c3, c4, c5, rfl, e1⟩ ⟨rfl, hx⟩
      obtain ⟨q, rfl, hq⟩ := hu i x hx
      have hin : i < n := by omega
      show tFor _ _ _ _ _ _
      refine for_zip (i := 1) (j := 0) rfl rfl (hq.up e1) (hp.up e1) (by rw [rowV_len, hl]) (fun j σ' H' => ∃ c2 c3 c4 c5, σ' = [some (.ref p), some (.ref q), c2, c3, c4, c5] ∧ Same H1 H') ?_ ?_ ?_ ?_
      · exact ⟨c2, c3, c4, c5, rfl, .refl H1⟩
      · rintro j σ' H' ⟨c2, c3, c4, c5, _, e2⟩
        exact ⟨hq.up (e1.trans e2), hp.up (e1.trans e2)⟩
      · rintro j x _ H2 H3 hj ⟨c2, c3, c4, c5, rfl, e2⟩ ⟨T1, y1, y2, rfl, hT, rfl, hy1, hy2⟩
        rw [rowV_len] at hj
        obtain ⟨_, rfl⟩ := rowV_get hy1
        obtain ⟨q2, rfl, hq2⟩ := hu j y2 hy2
        have e3 : Same H1 (upd H2 T1 (.tup [.int (f i j), .ref q2])) := e2.trans (same_new hT)
        refine ⟨T1, _, rfl, sq_new, rfl, _, _, rfl, _, _, rfl, rfl, ?_⟩
        generalize upd H2 T1 (.tup [.int (f i j), .ref q2]) = H3 at e3
        refine if_tB (cb1 ?_)
        refine lc_zip (i := 1) (j := 3) rfl rfl (hq.up (e1.trans e3)) (hq2.up (e1.trans e3)) (by rw [rowV_len, rowV_len]) (fun i _ y => y = V.bl false) (fun _ _ _ _ _ z => z) (by rw [rowV_len]; omega) ?_ ?_
        · rintro c x F' H4 H'' Kt Kn hcn s4 ⟨T2, z1, z2, rfl, hT2, rfl, g1, g2⟩ kk
          rw [rowV_len] at hcn
          obtain ⟨_, rfl⟩ := rowV_get g1
          obtain ⟨_, rfl⟩ := rowV_get g2
          refine ⟨T2, _, rfl, sq_new, rfl, _, _, rfl, _, _, rfl, rfl, rfl, lc_yes ?_⟩
          have tr := hc.t i j c hin hj hcn
          have : decide (f i c > f i j + f j c) = false := decide_eq_false (by omega)
          refine ⟨_, rfl, _, rfl, _, rfl, _, _, rfl, rfl, _, _, rfl, rfl, ?_⟩
          exact kk _ _ _ ((Stm.refl s4.fh).newP hT2) (congrArg V.bl this)
        · intro F' H4 ys D s4 _ hD' hy hr'
          rw [rowV_len] at hy
          have eb : ys = (List.replicate n false).map V.bl := List.ext_getElem? fun j => by
            rcases Nat.lt_or_ge j n with hj | hj
            · have : j < ys.length := by omega
              rw [List.getElem?_eq_getElem this, hr' j _ (List.getElem?_eq_getElem this), List.map_replicate, List.getElem?_replicate, if_pos hj]
            · rw [List.getElem?_eq_none (by omega), List.getElem?_eq_none (by simp; omega)]
          subst eb
          have s5 := s4.fh _ _ hD'
          refine ⟨D, _, rfl, SqL.of s5, _, rfl, ?_⟩
          have : (List.replicate n false).any id = false := by simp
          rw [this]
          exact iteF ⟨_, _, _, _, rfl, e3.trans (s4.ff.trans s4.fh)⟩
      · rintro _ H2 ⟨c2, c3, c4, c5, rfl, e2⟩
        exact ⟨_, _, _, _, _, rfl, e1.trans e2⟩
    · rintro _ H1 ⟨c1, c2, c3, c4, c5, rfl, e1⟩
      exact k _ e1
end
end K53

set_option Elab.async false
set_option linter.all false
set_option maxRecDepth 100000
set_option maxHeartbeats 4000000
namespace Ew
open PySem PySem.Spec PyProof.Rows L2
/-! ### a dict whose keys are tuples, wherever these stand (a tuple that the top wrote too) -/
abbrev KX (K : PySem.W.Frag) (H : Hp) : List (List Key × V) → List (List Key × Addr × Value) → Prop := Paired fun p q => p.1 = q.1 ∧ SqT K H q.2.1 (p.1.map kV) ∧ RelV p.2 q.2.2
theorem KX.val {K : PySem.W.Frag} {H : Hp} {kvs : List (List Key × V)} {xs : List (List Key × Addr × Value)} (r : KX K H kvs xs) (k : List Key) : RelO (valV kvs k) ((atKey xs k).map (·.2)) := by
  induction r with
  | nil => exact True.intro
  | @cons p q ps qs h t ih =>
    obtain ⟨h1, _, h2⟩ := h
    by_cases e : p.1 = k
    · have e' : q.1 = k := h1.symm.trans e
      have b : atKey (q :: qs) k = some q.2 := by simp [atKey, List.find?_cons, e']
      rw [valV_pos e, b]; exact h2
    · have e' : ¬ q.1 = k := fun z => e (h1.trans z)
      have b : atKey (q :: qs) k = atKey qs k := by simp [atKey, List.find?_cons, e']
      rw [valV_neg e, b]; exact ih
/-- the object of such a dict -/
def dxO (P : Program) (w : World) (d : Addr) (xs : List (List Key × Addr × Value)) : Heap → Prop := fun h => (d == sysModules) = false ∧ ∃ o es ep, h.get? d = some o ∧ o.ExactDict ∧ o.data = .dict es ep ∧ es.toList = xs.map (entryOfKey (tupleKind (mixKind P w))) ∧ (xs.map (·.1)).Nodup
def Dtx (P : Program) (w : World) (K : PySem.W.Frag) (H : Hp) (d : Addr) (kvs : List (List Key × V)) : Prop := kvs.length ≤ sizeLine ∧ ∃ xs, KX K H kvs xs ∧ H d = some (.ext (dxO P w d xs))
section
variable {P : Program} {w : World} {K : PySem.W.Frag} {H H' : Hp} {d : Addr} {kvs : List (List Key × V)}
theorem Dtx.up (h : Dtx P w K H d kvs) (e : Same H H') : Dtx P w K H' d kvs := by
  obtain ⟨h1, xs, h2, h3⟩ := h
  exact ⟨h1, xs, Paired.mapP h2 fun _ _ z => ⟨z.1, upT e z.2.1, z.2.2⟩, e _ _ h3⟩
theorem Dtx.there (h : Dtx P w K H d kvs) : H d ≠ none := by
  obtain ⟨_, xs, _, h3⟩ := h
  rw [h3]
  exact fun z => nomatch z
theorem dxO_ok {h : Heap} {xs : List (List Key × Addr × Value)} (x : dxO P w d xs h) : ObjOk P w H h d (.ext (dxO P w d xs)) := by
  obtain ⟨h1, o, es, ep, h2, h3⟩ := id x
  refine ⟨x, ⟨o, h2⟩, fun a b z k => ?_⟩
  obtain ⟨z1, o', es', ep', z2, z3⟩ := z
  exact ⟨z1, o', es', ep', k _ z2, z3⟩
end
section
variable {X : Cx} {pins : List (Addr × Obj)} {σ : L2.St} {H : Hp} {s : Shared}
theorem key_sq (I : Inv X pins σ H s) {a : Addr} {ks : List Key} (e : SqT X.K H a (ks.map kV)) : (tupleKind (mixKind X.prog X.w)).is s.heap ks a := by
  obtain ⟨its, r, ⟨o, h1, h2, n, h3⟩, _⟩ := I.tuple e
  exact ⟨o, its.toArray, n, h1, h2, h3, by simpa using items_are r⟩
theorem dx_at (I : Inv X pins σ H s) {d : Addr} {kvs : List (List Key × V)} (h : Dtx X.prog X.w X.K H d kvs) : (d == sysModules) = false ∧ ∃ xs, KX X.K H kvs xs ∧ H d = some (.ext (dxO X.prog X.w d xs)) ∧ s.heap.DictOfH (tupleKind (mixKind X.prog X.w)) d xs := by
  obtain ⟨_, xs, r, e⟩ := h
  obtain ⟨⟨y, o, es, ep, h1, h2, h3, h4, h5⟩, _⟩ := (show ObjOk X.prog X.w H s.heap d (.ext (dxO X.prog X.w d xs)) from I.hok d _ e)
  refine ⟨y, xs, r, e, o, es, ep, h1, h2, h3, h4, fun x hx => ?_, h5⟩
  have all : ∀ {l : List (List Key × V)} {m : List (List Key × Addr × Value)}, KX X.K H l m → ∀ x ∈ m, (tupleKind (mixKind X.prog X.w)).is s.heap x.1 x.2.1 := by
    intro l m q
    induction q with
    | nil => intro x hx; exact nomatch hx
    | @cons p q ps qs hq t ih =>
      intro x hx
      rcases List.mem_cons.mp hx with e | hx
      · subst e
        exact key_sq I (by rw [← hq.1]; exact hq.2.1)
      · exact ih x hx
  exact all r x hx
theorem sqT_but {K : PySem.W.Frag} {d q : Addr} {φ : Heap → Prop} {o : HO} {xs : List V} (h : SqT K H q xs) (e : H d = some (.ext φ)) : SqT K (upd H d o) q xs := by
  rcases h with h | h
  · refine .inl ?_
    rcases h with h | ⟨u, h⟩
    · exact .inl (by rw [upd_ne (fun z => by rw [z, e] at h; cases h)]; exact h)
    · exact .inr ⟨u, by rw [upd_ne (fun z => by rw [z, e] at h; cases h)]; exact h⟩
  · exact .inr h
end
section
variable {X : Cx} {o i e value : Expr} {pos pos' tpos : Pos} {td ty tv : TE}
def tDNewX (P : Program) (w : World) (K : PySem.W.Frag) : TE := fun _ H Q => ∀ p u, H p = none → Dtx P w K (upd H p u) p [] → Q (.ref p) (upd H p u)
theorem pe_dnewX : PE X (.Dict [] [] pos) (tDNewX X.prog X.w X.K) := ⟨fun pins s σ H Q I h =>
  wpAny_Dict_empty ⟨.ref s.heap.objs.size, _, I.laid (a := s.heap.objs.size) (o := .ext (dxO X.prog X.w s.heap.objs.size [])) (t' := s.toks) (fun _ _ q => Heap.get?_push_of_some _ q) (Nat.le_refl _)
    (dxO_ok ⟨beq_eq_false_iff_ne.mpr (Ne.symm (Nat.ne_of_lt I.big)), _, #[], 0, Heap.get?_push_size _ rfl, ⟨rfl, rfl, rfl⟩, rfl, rfl, List.nodup_nil⟩), rfl,
    h _ _ (I.hok.fresh (Nat.le_refl _)) ⟨Nat.zero_le _, [], .nil, upd_same⟩⟩⟩
def tDInX (P : Program) (w : World) (K : PySem.W.Frag) (ty td : TE) : TE := fun σ H Q => ty σ H fun y H1 => td σ H1 fun x H2 => ∃ d b kvs k, x = .ref d ∧ y = .ref b ∧ Dtx P w K H2 d kvs ∧ SqT K H2 b (k.map kV) ∧ Q (.bl (valV kvs k).isSome) H2
theorem pc_dinX (hu : X.A.units + 1 < cLine) (hi : PE X i ty) (ho : PE X o td) : PC X .In i o (tDInX X.prog X.w X.K ty td) := by
  refine ⟨fun pins s σ H Q I h => ?_⟩
  refine thn (hi.run pins s σ H _ I h) fun iv s1 ⟨y, H1, I1, ry, q1⟩ => thn (ho.run pins s1 σ H1 _ I1 q1) fun u s2 ⟨x, H2, I2, rx, d, b, kvs, k, ex, ey, hd, hk, q2⟩ => ?_
  subst ex ey
  obtain rfl : u = Value.ref d := rx
  obtain rfl : iv = Value.ref b := ry
  obtain ⟨ns, xs, rel, _, dd⟩ := dx_at I2 hd
  refine wpAny_in_heap (tupleKind_room_in1 hu) (key_sq I2 hk) ns dd ?_
  have q := (rel.val k).isSome_eq
  rw [Option.isSome_map] at q
  rw [← q]
  exact ⟨.bl _, H2, I2.tok _, rfl, q2⟩
def tDGetX (P : Program) (w : World) (K : PySem.W.Frag) (td ty : TE) : TE := fun σ H Q => td σ H fun x H1 => ty σ H1 fun y H2 => ∃ d b kvs k v, x = .ref d ∧ y = .ref b ∧ Dtx P w K H2 d kvs ∧ SqT K H2 b (k.map kV) ∧ valV kvs k = some v ∧ Q v H2
theorem pe_dgetX (hu : X.A.units + 1 < cLine) (ho : PE X o td) (hi : PE X i ty) (hs : NoSl i) : PE X (.Subscript o i pos) (tDGetX X.prog X.w X.K td ty) := by
  refine ⟨fun pins s σ H Q I h => ?_⟩
  refine subD_of PySem.F.slot_dict_getitem.lookup hs (thn (ho.run pins s σ H _ I h) fun u s1 ⟨x, H1, I1, rx, q1⟩ => thn (hi.run pins s1 σ H1 _ I1 q1) fun iv s2 ⟨y, H2, I2, ry, d, b, kvs, k, v, ex, ey, hd, hk, l, q2⟩ => ?_)
  subst ex ey
  obtain rfl : u = Value.ref d := rx
  obtain rfl : iv = Value.ref b := ry
  obtain ⟨ns, xs, rel, _, dd⟩ := dx_at I2 hd
  refine ⟨dd.typeIs, ?_⟩
  obtain ⟨w', hw, rw'⟩ := RelO.some_of (v := v) (o := (atKey xs k).map (·.2)) (by rw [← l]; exact rel.val k)
  obtain ⟨p, hp, hp2⟩ := Option.map_eq_some_iff.mp hw
  refine wpAny_getItem_heap (tupleKind_room_in1 hu) (key_sq I2 hk) dd hp ?_
  rw [hp2]
  exact ⟨v, H2, I2.tok _, rw', q2⟩
def sDPutX (P : Program) (w : World) (K : PySem.W.Frag) (td ty tv : TE) : TS := fun D σ H => tv σ H fun v H1 => td σ H1 fun x H2 => ty σ H2 fun y H3 => ∃ d b kvs k, x = .ref d ∧ y = .ref b ∧ Dtx P w K H3 d kvs ∧ SqT K H3 b (k.map kV) ∧ valV kvs k = none ∧ kvs.length < sizeLine ∧
  ∀ u, Dtx P w K (upd H3 d u) d (kvs ++ [(k, v)]) → D.nx σ (upd H3 d u)
theorem ps_dputX (hu : X.A.units + 1 < cLine) (ho : PE X o td) (hi : PE X i ty) (hv : PE X value tv) (hs : swapsWith value (some (.Subscript o i pos')) pos.line X.env = pure false) :
    PS X (.Assign [.Subscript o i pos'] value pos) (sDPutX X.prog X.w X.K td ty tv) := by
  refine ⟨fun pins s σ H D I h => ?_⟩
  refine wpAny_Assign_Subscript (thn (hv.run pins s σ H _ I h) fun r s1 ⟨v, H1, I1, rv, q1⟩ => thn (ho.run pins s1 σ H1 _ I1 q1) fun u s2 ⟨x, H2, I2, rx, q2⟩ => thn (hi.run pins s2 σ H2 _ I2 q2) fun iv s3 ⟨y, H3, I3, ry, d, b, kvs, k, ex, ey, hd, hk, nk, hl, q3⟩ => ?_) hs
  subst ex ey
  obtain rfl : u = Value.ref d := rx
  obtain rfl : iv = Value.ref b := ry
  obtain ⟨ns, xs, rel, hH, dd⟩ := dx_at I3 hd
  have hz : xs.length ≤ sizeLine := by rw [← Paired.length rel]; omega
  have ak : atKey xs k = none := by
    have := (rel.val k).isSome_eq
    rw [nk, Option.isSome_map] at this
    cases q : atKey xs k with
    | none => rfl
    | some z => rw [q] at this; cases this
  refine wpAny_setItem_heap (hsz := hz) (tupleKind_room_in1 hu) (key_sq I3 hk) dd fun h' dd' hs => ?_
  rw [storedH_new ak] at dd'
  obtain ⟨q, es, ep, hq, h2, h3, h4, _, h5⟩ := dd'
  refine ⟨σ, _, d_write (ob := .ext (dxO X.prog X.w d (xs ++ [(k, b, r)]))) I3 (by rw [hH]; exact True.intro) hs ⟨q, hq⟩ (dxO_ok ⟨ns, q, es, ep, hq, h2, h3, h4, h5⟩), q3 _ ⟨by rw [List.length_append, List.length_singleton]; omega, _, ?_, upd_same⟩⟩
  exact Paired.snoc (Paired.mapP rel fun _ _ z => ⟨z.1, sqT_but z.2.1 hH, z.2.2⟩) ⟨rfl, sqT_but hk hH, rv⟩
end
end Ew

set_option Elab.async false
set_option linter.all false
set_option maxRecDepth 100000
set_option maxHeartbeats 4000000
namespace K53
open PySem PySem.Spec PyProof.Rows L2 Ew
/-! ### where the spots stand -/
def ground : Spot := (⟨#[103, 114, 111, 117, 110, 100]⟩, 0, 0)
def plc : Nat → List Spot → List (List Key × V)
  | _, [] => []
  | n, p :: ps => (spK p, .int (n : Nat)) :: plc (n + 1) ps
theorem plc_len : ∀ (n : Nat) (ps : List Spot), (plc n ps).length = ps.length
  | _, [] => rfl
  | n, p :: ps => by rw [plc, List.length_cons, List.length_cons, plc_len]
theorem plc_snoc : ∀ (n : Nat) (ps : List Spot) (p : Spot), plc n (ps ++ [p]) = plc n ps ++ [(spK p, .int ((n + ps.length : Nat) : Int))]
  | _, [], _ => rfl
  | n, q :: ps, p => by
    rw [List.cons_append, plc, plc_snoc, plc, List.cons_append, List.length_cons]
    congr 5
    omega
theorem plc_none : ∀ {n : Nat} {ps : List Spot} {p : Spot}, p ∉ ps → valV (plc n ps) (spK p) = none
  | _, [], _, _ => rfl
  | n, q :: ps, p, h => by
    rw [plc, valV_neg (fun z => h (by rw [spK_inj z]; exact List.mem_cons_self))]
    exact plc_none fun z => h (List.mem_cons_of_mem _ z)
theorem plc_some : ∀ {n : Nat} {ps : List Spot} {p : Spot} {i : Nat}, ps.Nodup → ps[i]? = some p → valV (plc n ps) (spK p) = some (.int ((n + i : Nat) : Int))
  | _, [], _, _, _, h => by simp at h
  | n, q :: ps, p, 0, _, h => by
    cases h
    rw [plc, valV_pos rfl]
    rfl
  | n, q :: ps, p, i + 1, nd, h => by
    rw [List.nodup_cons] at nd
    have h : ps[i]? = some p := h
    rw [plc, valV_neg (fun z => nd.1 (by rw [spK_inj z]; exact List.mem_of_getElem? h)), plc_some nd.2 h]
    congr 3
    omega
/-- a row of spots: ground first, none twice -/
structure OkS (ps : List Spot) : Prop where
  nd : ps.Nodup
  g : ps[0]? = some ground
  ok : ∀ p ∈ ps, PyData.strOk p.1 = true
  le : ps.length ≤ 1000
theorem OkS.pos {ps : List Spot} (h : OkS ps) : 0 < ps.length := (List.getElem?_eq_some_iff.mp h.g).1
theorem same_mut {H H' : Hp} {d : Addr} {u : HO} (e : Same H H') (h : H d = none) : Same H (upd H' d u) := fun x o z => by
  rw [upd_ne (fun q => by rw [q, h] at z; cases z)]
  exact e x o z
theorem not_taken {ps : List Spot} {j : Nat} {p : Spot} (nd : ps.Nodup) (h : ps[j]? = some p) : p ∉ ps.take j := fun m => by
  obtain ⟨i, hi⟩ := List.mem_iff_getElem?.mp m
  rw [List.getElem?_take] at hi
  have il : i < j := by
    by_cases q : i < j
    · exact q
    · rw [if_neg q] at hi; cases hi
  rw [if_pos il] at hi
  have := (List.getElem?_inj (List.getElem?_eq_some_iff.mp hi).1 nd).mp (hi.trans h.symm)
  omega
theorem walk_enumT {K : PySem.W.Frag} {a : Addr} {xs : List V} : Walk (IteT K a) xs.length (fun H => SqT K H a xs) (YPair (fun i => some (.int (i : Nat))) (fun i => xs[i]?)) := by
  refine ⟨fun i _ hi q => ⟨xs, xs[i], q, by simp [hi]⟩, fun _ q => ⟨xs, q, rfl⟩, fun i H v H' _ q y => ?_⟩
  obtain ⟨T, x, h1, h2, h3, h4⟩ := y
  exact ⟨T, .int (i : Nat), x, h1, h2, h3, rfl, h4 xs q⟩
theorem for_enum {K : PySem.W.Frag} {t : Bool} {H : Hp} {p : Addr} {xs : List V} {σ : L2.St} {g : TG} {tb : TS} {D : Ends} {i : Nat} (h0 : σ[i]? = some (some (.ref p))) (hp : Sq K t H p xs) (Pv : Nat → L2.St → Hp → Prop) (a0 : Pv 0 σ H) (hG : ∀ i σ H', Pv i σ H' → Sq K t H' p xs)
    (hs : ∀ i x σ H H', i < xs.length → Pv i σ H → YPair (fun i => some (.int (i : Nat))) (fun i => xs[i]?) i H x H' → g x σ H' fun σ2 H2 => tb { D with nx := Pv (i + 1), ct := Pv (i + 1), bk := D.nx } σ2 H2) (hd : ∀ σ H, Pv xs.length σ H → D.nx σ H) :
    tFor (fun σ H R => iEnum K (tCons (tVar i) tNil) σ H R ∨ iEnumT K (tCons (tVar i) tNil) σ H R) g tb D σ H := by
  cases t
  · exact .inl ⟨_, h0, p, xs, rfl, hp, for_it walk_enum Pv a0 (fun i σ H' _ z => hG i σ H' z) hs hd⟩
  · exact .inr ⟨_, h0, p, xs, rfl, hp, for_it walk_enumT Pv a0 (fun i σ H' _ z => hG i σ H' z) hs hd⟩
section
variable {P : Program} {w : World} {K : PySem.W.Frag} {mg : Str → Option Value} {base : Heap} {a : Ad}
theorem seq_in {t u : TS} {D : Ends} {σ : L2.St} {H : Hp} (h : t { D with nx := u D } σ H) : tSeq t u D σ H := h
/-- a row of spots at p -/
def Sps (K : PySem.W.Frag) (t : Bool) (H : Hp) (p : Addr) (ps : List Spot) : Prop := ∃ us, Sq K t H p us ∧ Paired (fun v q => Spt K H v q) us ps
theorem Sps.up {t : Bool} {H H' : Hp} {p : Addr} {ps : List Spot} (h : Sps K t H p ps) (e : Same H H') : Sps K t H' p ps := by
  obtain ⟨us, h1, h2⟩ := h
  exact ⟨us, h1.up e, Paired.mapP h2 fun _ _ z => z.up e⟩
def sp_places_of (P : Program) (w : World) (K : PySem.W.Frag) : Sp := fun vs H Q _ => ∃ (p : Addr) (ps : List Spot), vs = [.ref p] ∧ Sps K true H p ps ∧ OkS ps ∧ ∀ H' d, Same H H' → Dtx P w K H' d (plc 0 ps) → H d = none → Q (.ref d) H'
theorem c_places_of (T : Txt K mg a) : Cl P w K mg base 3 "places_of" P_places_of (sp_places_of P w K) [] :=
  T.d_places_of.cl sc_places_of (fun vs H Q E h => by obtain ⟨p, ps, rfl, _⟩ := h; rfl) fun f cdv A outer s H vs Q E hr h => by
    obtain ⟨p, ps, rfl, ⟨us, hp, pr⟩, ok, k⟩ := h
    have hl : us.length = ps.length := Paired.length pr
    have pos := ok.pos
    refine ⟨_, ((pss_cons (ps_if (pt_cmpR op_eq (pe_callB call_len_seq (by rfl) T.n_len (by decide +kernel) (pa_cons (pv 0) pa_nil)) pe_int (nomark _))
 (pss_one (ps_raise1 rfl (takes_of rfl rfl rfl rfl) (x_BadSpot T) hr (by decide) rfl pe_int))
 pss_nil)
 (pss_cons (ps_set (i := 1) sc_places_of.nd rfl (Or.inl rfl) pe_dnewX)
 (pss_cons (ps_for (passes_of rfl) rfl (pi_enumX (by rfl) T.n_enumerate (pa_cons (pv 0) pa_nil)) (pg_tup rfl (pgs_cons (pg_name (i := 2) sc_places_of.nd rfl (Or.inl rfl)) (pgs_cons (pg_name (i := 3) sc_places_of.nd rfl (Or.inl rfl)) pgs_nil)))
 (pss_cons (ps_if (PW.pt (pw_or (pt_not (pt_val (pe_f (c_is_spot T) (takes_of rfl rfl rfl rfl) hr (by decide) rfl (pa_cons (pv 3) pa_nil)))) (pw_or1 (pt_cmp (pc_dinX (hu_of hr) (pv 3) (pv 1)) rfl))))
 (pss_one (ps_raise1 rfl (takes_of rfl rfl rfl rfl) (x_BadSpot T) hr (by decide) rfl (pv 2)))
 pss_nil)
 (pss_cons (ps_if (PW.pt (pw_and (pt_cmpR op_eq (pv 2) pe_int (nomark _)) (pw_and1 (pt_cmpR (op_neD hr.units) (pv 3) (pe_glob (by rfl) T.k_GROUND rfl (v := .ref a.aG)) (nomark _)))))
 (pss_one (ps_raise1 rfl (takes_of rfl rfl rfl rfl) (x_BadSpot T) hr (by decide) rfl (pv 2)))
 pss_nil)
 (pss_one (ps_dputX (hu_of hr) (pv 1) (pv 3) (pv 2) rfl)))))
 (pss_one (ps_ret (pv 1))))))), ?_⟩
    refine ⟨_, rfl, p, us, rfl, .inr hp, rfl, _, rfl, iteN (vint_ne (by omega)) ?_⟩
    refine fun D o0 hD d0 => ?_
    dsimp only [gName]
    refine seq_in ?_
    refine for_enum (t := true) (i := 0) rfl (hp.up (same_new hD)) (fun j σ' H' => ∃ c2 c3, σ' = [some (.ref p), some (.ref D), c2, c3] ∧ Same H H' ∧ Dtx P w K H' D (plc 0 (ps.take j))) ?_ ?_ ?_ ?_
    · exact ⟨none, none, rfl, same_new hD, d0⟩
    · rintro j σ' H' ⟨c2, c3, _, e1, _⟩
      exact hp.up e1
    · rintro j _ _ H2 _ hj ⟨c2, c3, rfl, e1, d1⟩ ⟨U, y, x, rfl, hU, rfl, ey, hx⟩
      cases ey
      obtain ⟨sj, hsj, q, rfl, hq⟩ := paired_get pr hx
      have e3 := e1.trans (same_new (o := .tup [.int (j : Nat), .ref q]) hU)
      have d3 := d1.up (same_new (o := .tup [.int (j : Nat), .ref q]) hU)
      refine ⟨U, _, rfl, sq_new, rfl, _, _, rfl, _, _, rfl, rfl, ?_⟩
      generalize upd H2 U (.tup [.int (j : Nat), .ref q]) = H3 at e3 d3
      have nin := not_taken ok.nd hsj
      have tl : (ps.take j).length = j := by rw [List.length_take]; omega
      refine ⟨_, rfl, _, rfl, .inl ⟨q, sj, rfl, SqT.of (e3 _ _ hq), true, rfl, iteF ?_⟩⟩
      refine ⟨_, rfl, _, rfl, D, q, _, spK sj, rfl, rfl, d3, SqT.of (e3 _ _ hq), _, rfl, ?_⟩
      rw [plc_none nin]
      refine iteF ⟨_, rfl, rfl, _, rfl, ?_⟩
      have fin : ∀ Dn : Ends, (∀ u, Dtx P w K (upd H3 D u) D (plc 0 (ps.take (j + 1))) → Dn.nx [some (.ref p), some (.ref D), some (.int (j : Nat)), some (.ref q)] (upd H3 D u)) →
          sDPutX P w K (tVar 1) (tVar 3) (tVar 2) Dn [some (.ref p), some (.ref D), some (.int (j : Nat)), some (.ref q)] H3 := fun Dn z => by
        refine ⟨_, rfl, _, rfl, _, rfl, D, q, _, spK sj, rfl, rfl, d3, SqT.of (e3 _ _ hq), plc_none nin, by rw [plc_len, tl, sizeLine_eq]; have := ok.le; omega, fun u hu => z u ?_⟩
        have : ps.take (j + 1) = ps.take j ++ [sj] := by
          rw [List.take_add_one, hsj]
          rfl
        rw [this, plc_snoc, tl, Nat.zero_add]
        exact hu
      have last : ∀ u, Dtx P w K (upd H3 D u) D (plc 0 (ps.take (j + 1))) → ∃ c2 c3, ([some (.ref p), some (.ref D), some (.int (j : Nat)), some (.ref q)] : L2.St) = [some (.ref p), some (.ref D), c2, c3] ∧ Same H (upd H3 D u) ∧ Dtx P w K (upd H3 D u) D (plc 0 (ps.take (j + 1))) :=
        fun u hu => ⟨_, _, rfl, same_mut e3 hD, hu⟩
      by_cases h0 : j = 0
      · subst h0
        have : sj = ground := by rw [ok.g] at hsj; cases hsj; rfl
        subst this
        refine iteY (vint_eq rfl) ⟨_, rfl, spD ground, spD ground, dp_sp (SqT.of (e3 _ _ hq)), dp_sp (T.t_GROUND _), (fl_sp (by decide +kernel)).sh (by decide), (fl_sp (by decide +kernel)).sh (by decide), _, rfl, ?_⟩
        rw [eqv_sp, decide_eq_true rfl]
        exact iteF (fin _ last)
      · exact iteN (vint_ne (by omega)) (fin _ last)
    · rintro _ H2 ⟨c2, c3, rfl, e1, d1⟩
      rw [hl, List.take_length] at d1
      exact ⟨_, rfl, k _ _ e1 d1 hD⟩
end
end K53

set_option Elab.async false
set_option linter.all false
set_option maxRecDepth 100000
set_option maxHeartbeats 4000000
namespace K53
open PySem PySem.Spec PyProof.Rows L2 Ew
/-! ### a table with one bound more -/
theorem zipN_pick {K : PySem.W.Frag} {H : Hp} {p q : Addr} {xs ys : List V} {σ : L2.St} {R : It → Hp → Prop} {i j : Nat} (h0 : σ[i]? = some (some (.ref p))) (h1 : σ[j]? = some (some (.ref q))) (hp : SqT K H p xs) (hq : SqL K H q ys) (hl : xs.length = ys.length)
    (k : ∀ J G, Walk J xs.length G (YPair (fun i => xs[i]?) (fun i => ys[i]?)) → (∀ H2, SqT K H2 p xs → SqL K H2 q ys → G H2) → R J H) : iZipN K (tCons (tVar i) (tCons (tVar j) tNil)) σ H R :=
  ⟨_, h0, _, h1, p, q, xs, ys, rfl, hp, hq, k _ _ (walk_zipN hl) fun H2 e2 e3 => ⟨e2, e3⟩⟩
theorem lc_zipN {K : PySem.W.Frag} {H : Hp} {p q : Addr} {xs ys : List V} {σ : L2.St} {g : TG} {tt : TT} {te : TE} {vs : List Nat} {Q : VK} {i j : Nat} (h0 : σ[i]? = some (some (.ref p))) (h1 : σ[j]? = some (some (.ref q))) (hp : SqT K H p xs) (hq : SqL K H q ys) (hl : xs.length = ys.length) (R : Nat → Hp → V → Prop) (hR : ∀ i F F' y, Same F F' → R i F y → R i F' y) (hn : xs.length ≤ 1000000)
    (hs : ∀ i x F' H' H'' (Kt : VK) (Kn : Hp → Prop), i < xs.length → Stp H H F' H' → YPair (fun i => xs[i]?) (fun i => ys[i]?) i H' x H'' → (∀ y F4 H4, Stp F' H' F4 H4 → R i F4 y → Kt y H4) →
      g x (wipe σ vs) H'' fun σ2 H2 => wipe σ2 vs = wipe σ vs ∧ tt σ2 H2 fun b H3 => if b = true then te σ2 H3 Kt else Kn H3)
    (hd : ∀ F' H' zs D, Stp H H F' H' → H D = none → F' D = some (.lst zs) → zs.length = xs.length → (∀ j y, zs[j]? = some y → R j F' y) → Q (.ref D) H') : tLc (iZipN K (tCons (tVar i) (tCons (tVar j) tNil))) g tt te vs σ H Q :=
  zipN_pick h0 h1 hp hq hl fun J G wk hG D hD => lcM memP wk (.refl H) trivial hD R hR hn (fun F' H' e1 e2 => hG _ (upT (e1.trans e2) hp) (upL (e1.trans e2) hq)) (fun i x F' H' H'' Kt Kn hi s1 _ y kk => hs i x F' H' H'' Kt Kn hi s1 y fun y F4 H4 s4 r4 => kk y F4 H4 s4 trivial r4) fun F' H' zs s1 _ hD' hl' hr => hd F' H' zs D s1 hD hD' hl' hr
theorem ret1 {te : TE} {D : Ends} {σ : L2.St} {H : Hp} (h : te σ H fun v H1 => D.rt v H1) : tRet te D σ H := h
section
variable {P : Program} {w : World} {K : PySem.W.Frag} {mg : Str → Option Value} {base : Heap} {a : Ad}
def byWay (g h : Nat → Int) (s : Int) : Nat → Int := fun b => if g b ≤ s + h b then g b else s + h b
def sp__by_way (K : PySem.W.Frag) : Sp := fun vs H Q _ => ∃ (p q : Addr) (n : Nat) (g h : Nat → Int) (s : Int), vs = [.ref p, .int s, .ref q] ∧ SqT K H p (rowV n g) ∧ SqL K H q (rowV n h) ∧ n ≤ 1000 ∧ ∀ H' l, Same H H' → H l = none → H' l = some (.lst (rowV n (byWay g h s))) → Q (.ref l) H'
theorem c__by_way (T : Txt K mg a) : Cl P w K mg base 1 "_by_way" P__by_way (sp__by_way K) [] :=
  T.d__by_way.cl sc__by_way (fun vs H Q E h => by obtain ⟨p, q, n, g, h, s, rfl, _⟩ := h; rfl) fun f cdv A outer s H vs Q E hr h => by
    obtain ⟨p, q, n, g, h, st, rfl, hp, hq, hn, k⟩ := h
    refine ⟨_, ((pss_one (ps_ret (pe_lc (own := [("bound", 3), ("far", 4)]) (g := (gTup K 2 (gCons (gName 3) (gCons (gName 4) gNil)))) (by rfl) sc__by_way.nd (pi_zipN (by rfl) T.n_zip (pa_cons (pv 0) (pa_cons (pv 2) pa_nil))) (blkOk_by (own := [("bound", 3), ("far", 4)]) (N := N__by_way) (sc := defScope s__by_way) (by decide +kernel)) (fun _ _ _ _ _ => (pg_tup rfl (pgs_cons (pg_name (i := 3) sc__by_way.nd rfl (Or.inl rfl) (hf := .inr rfl)) (pgs_cons (pg_name (i := 4) sc__by_way.nd rfl (Or.inl rfl) (hf := .inr rfl)) pgs_nil)))) (fun _ _ _ _ _ => pts_nil) (fun _ _ _ _ _ => (pe_ifExp (pt_cmpR op_le (pv 3) (pe_op op_add (pv 1) (pv 4)) (nomark _)) (pv 3) (pe_op op_add (pv 1) (pv 4)))))))), ?_⟩
    refine ret1 (lc_zipN (i := 0) (j := 2) rfl rfl hp hq (by rw [rowV_len, rowV_len]) (fun i _ y => y = V.int (byWay g h st i)) (fun _ _ _ _ _ z => z) (by rw [rowV_len]; omega) ?_ ?_)
    · rintro c x F' H4 H'' Kt Kn hcn s4 ⟨T2, z1, z2, rfl, hT2, rfl, g1, g2⟩ kk
      rw [rowV_len] at hcn
      obtain ⟨_, rfl⟩ := rowV_get g1
      obtain ⟨_, rfl⟩ := rowV_get g2
      refine ⟨T2, _, rfl, sq_new, rfl, _, _, rfl, _, _, rfl, rfl, rfl, lc_yes ?_⟩
      have fin := kk (.int (byWay g h st c)) _ _ ((Stm.refl s4.fh).newP (o := .tup [.int (g c), .int (h c)]) hT2) rfl
      refine ⟨_, rfl, _, rfl, _, rfl, _, _, rfl, rfl, _, _, rfl, rfl, _, rfl, ?_⟩
      unfold byWay at fin
      by_cases e : g c ≤ st + h c
      · rw [if_pos e] at fin
        rw [decide_eq_true e]
        exact iteT ⟨_, rfl, fin⟩
      · rw [if_neg e] at fin
        rw [decide_eq_false e]
        exact iteF ⟨_, rfl, _, rfl, _, _, rfl, rfl, fin⟩
    · intro F' H4 ys D s4 h0 hD' hy hr'
      rw [rowV_len] at hy
      obtain rfl := rowV_of hy hr'
      exact k H4 D (s4.ff.trans s4.fh) ‹_› (s4.fh _ _ hD')
end
end K53

set_option Elab.async false
set_option linter.all false
set_option maxRecDepth 100000
set_option maxHeartbeats 4000000
namespace Ew
open PySem PySem.Spec PyProof.Rows L2
/-! ### a token is out behind a test -/
section
variable {X : Cx}
structure PTk (X : Cx) (e : Expr) (t : TT) : Prop where
  run : ∀ (pins : List (Addr × Obj)) (s : Shared) (σ : L2.St) (H : Hp) (Q : Bool → Hp → Prop), Inv X pins σ H s → t σ H Q → wpAny (model X.prog X.w) X.A (isTrue e X.env (eval e X.env)) (fun b s' => 1 ≤ s'.toks ∧ TP X pins σ Q b s') X.xe s
theorem ptk_cmp {op : CmpOp} {r : R2} {a : Expr} {ta : TE} {i : Int} {j : Nat} {p pos : Pos} (ho : OpR X (compareOp op) r) (ha : PE X a ta) (hm : behindInMarks op (.Constant (.int i) j p) = false) :
    PTk X (.Compare a [op] [.Constant (.int i) j p] pos) (tTest (tOp r ta (tC (.int i)))) := by
  refine ⟨fun pins s σ H Q I h => wpAny_isTrue_Compare1 (thn (ha.run pins s σ H _ I h) fun v s1 ⟨x, H1, I1, r1, q1⟩ => wpAny_Constant_int ?_) hm⟩
  have I2 : Inv X pins σ H1 { s1 with toks := s1.toks + 1 } := I1.tok _
  have go := ho pins _ σ H1 x (.int i) v (.int i s1.toks) _ I2 r1 ⟨_, rfl⟩ q1
  refine wpAny_mono (PySem.wpAny_toks_of (n := 1) (by show 1 ≤ s1.toks + 1; omega) go) (fun c s3 ⟨hk, z, H3, I3, r3, k, e, q3⟩ => ?_) fun _ _ z => z.2
  subst e
  cases r3
  exact wpAny_truthy_bool ⟨hk, H3, I3, q3⟩
theorem ptk_or {a b : Expr} {rest : List Expr} {pos : Pos} {ta tb : TT} (ha : PTk X a ta) (hb : PW X (.BoolOp .Or (b :: rest) pos) tb) : PTk X (.BoolOp .Or (a :: b :: rest) pos) (tOr ta tb) := by
  refine ⟨fun pins s σ H Q I h => isTrue_or (thn (ha.run pins s σ H _ I h) fun c s1 ⟨hk, H1, I1, q1⟩ => ?_)⟩
  cases c with
  | true => exact ⟨hk, H1, I1, q1⟩
  | false => exact wpAny_mono (PySem.wpAny_toks_of hk (hb.run _ pins s1 σ H1 Q I1 q1)) (fun _ _ z => z) fun _ _ z => z.2
theorem pss_ifK {c : Expr} {a b rest : List Stmt} {pos : Pos} {tc : TT} {t u v : TS} (hc : PTk X c tc) (ha : PSs X a t) (hb : PSs X b u) (hr : PSsT X rest v) : PSs X (.If c a b pos :: rest) (tSeq (tIfS tc t u) v) := by
  refine ⟨fun pins s σ H D I h => ?_⟩
  refine wpAny_execs_cons (wpAny_If (thn (hc.run pins s σ H _ I h) fun d s1 ⟨hk, H1, I1, q1⟩ => ?_))
  have fin : ∀ {w : Sem Flow} {E : Value → Shared → Prop}, wpAny (model X.prog X.w) X.A w (SP X pins { D with nx := v D }) E s1 → wpAny (model X.prog X.w) X.A w (fun f s2 => 1 ≤ s2.toks ∧ SP X pins { D with nx := v D } f s2) E s1 := fun z => wpAny_mono (PySem.wpAny_toks_of hk z) (fun _ _ z => z) fun _ _ z => z.2
  have on : ∀ {f : Flow} {s2 : Shared}, 1 ≤ s2.toks ∧ SP X pins { D with nx := v D } f s2 → _ := fun {f s2} z => z
  cases d with
  | true =>
    refine thn (fin (ha.run pins s1 σ H1 { D with nx := v D } I1 q1)) fun f s2 ⟨k2, q⟩ => ?_
    cases f with
    | next =>
      obtain ⟨σ', H', I', q⟩ := q
      exact hr pins s2 σ' H' D k2 I' q
    | ret v => exact q
    | brk => exact q
    | cont => exact q
  | false =>
    refine thn (fin (hb.run pins s1 σ H1 { D with nx := v D } I1 q1)) fun f s2 ⟨k2, q⟩ => ?_
    cases f with
    | next =>
      obtain ⟨σ', H', I', q⟩ := q
      exact hr pins s2 σ' H' D k2 I' q
    | ret v => exact q
    | brk => exact q
    | cont => exact q
theorem pst_set {i : Nat} {x : Str} {e : Expr} {te : TE} {pos pos' : Pos} (hN : X.N.Nodup) (hi : X.N[i]? = some x) (hx : Loc X.env.scope x) (he : PET X e te) (hs : swapsWith e (some (.Name x pos')) pos.line X.env = pure false := by rfl) (hf : X.fn x = true ∨ X.env.scope.names.lookup x = some .local := by first | exact .inl rfl | exact .inr rfl | assumption) :
    PST X (.Assign [.Name x pos'] e pos) (tAsg te (gName i)) := fun pins s σ H D h0 I h =>
  wpAny_Assign_Name (thn (he pins s σ H _ h0 I h) fun v s1 ⟨y, H1, I1, r1, q1⟩ => store_ok I1 hN hi hx r1 (fun s2 I2 => ⟨_, H1, I2, q1⟩) hf) hs
theorem pet_m1 {nm : String} {name : Str} {o e : Expr} {to te : TE} {apos pos : Pos} {r : V → List V → Hp → VK → Prop} (slot : Slot "str" name nm) (ty : typeOf (.builtin nm) = pure (.type "method_descriptor")) (rule : MtR X nm r) (ho : PET X o to) (he : PE X e te)
    (hs : starEach [e] X.env = [(false, eval e X.env)] := by rfl) (hbase : attributeBase o name X.env (eval o X.env) = eval o X.env := by rfl) (hline : (apos.endLine == pos.line) = true := by rfl) :
    PET X (.Call (.Attribute o name apos) [e] [] pos) (tM1 r to te) := by
  intro pins s σ H Q h0 I h
  refine PySem.Call_method1 hbase hs hline (thn (ho pins s σ H _ h0 I h) fun v s1 ⟨x, H1, I1, r1, ⟨a, ex⟩, q1⟩ => ?_)
  subst ex
  obtain ⟨t, rfl⟩ := id r1
  refine ⟨"str", _, F.plainAttrs_str, slot, ty, typeIs_str _ _ _, (fun _ e => nomatch e), Calls.callWith_builtin rfl (Calls.evalArgs_plain (Calls.spliced_cons ?_))⟩
  exact thn (he.run pins s1 σ H1 _ I1 q1) fun u s2 ⟨y, H2, I2, r2, q2⟩ => Calls.spliced_nil (rule pins s2 σ H2 _ [y] _ [u] Q I2 r1 (.cons r2 .nil) q2)
end
end Ew

set_option Elab.async false
set_option linter.all false
set_option maxRecDepth 100000
set_option maxHeartbeats 4000000
namespace Ew
open PySem PySem.Spec PyProof.Rows L2
/-! ### tuples joined, cut, told many times: whichever object it is that comes out -/
section
variable {X : Cx}
def rCatF (K : PySem.W.Frag) : R2 := fun x y H Q => ∃ (F0 H0 F : Hp) (a b : Addr) (xs ys : List V), Stp F0 H0 F H ∧ x = .ref a ∧ y = .ref b ∧ SqT K F a xs ∧ SqT K F b ys ∧ xs.length + ys.length ≤ sizeLine ∧
  ∀ p F' H', Stp F0 H0 F' H' → Same F F' → SqT K F' p (xs ++ ys) → Q (.ref p) H'
theorem op_catF : OpR X (binaryOp .Add) (rCatF X.K) := by
  intro pins s σ H x y v u Q I rx ry h
  obtain ⟨F0, H0, F, a, b, xs, ys, s1, rfl, rfl, ha, hb, hl, q⟩ := h
  refine op_catA pins s σ H _ _ v u Q I rx ry ⟨a, b, xs, ys, rfl, rfl, upT s1.fh ha, upT s1.fh hb, hl, fun e => ?_, fun n e => ?_, fun n1 n2 p hp => ?_⟩
  · subst e; exact q b F H s1 (Same.refl F) hb
  · subst e; exact q a F H s1 (Same.refl F) (by rw [List.append_nil]; exact ha)
  · exact q p _ _ (s1.newP hp) (same_new (s1.fh.free hp)) sq_new
def rSlF (K : PySem.W.Frag) : V → Option Int → Option Int → Hp → VK → Prop := fun x lo hi H Q => ∃ (F0 H0 F : Hp) (a : Addr) (xs : List V), Stp F0 H0 F H ∧ x = .ref a ∧ SqT K F a xs ∧
  ∀ p F' H', Stp F0 H0 F' H' → Same F F' → SqT K F' p (cutV xs lo hi) → Q (.ref p) H'
theorem sl_tupF : SlR X (rSlF X.K) := by
  intro pins s σ H x v vl vu lo hi sl Q I rx hs pl pu h
  obtain ⟨F0, H0, F, a, xs, s1, rfl, ha, q⟩ := h
  refine sl_tupA pins s σ H _ v vl vu lo hi sl Q I rx hs pl pu ⟨a, xs, rfl, upT s1.fh ha, fun e => ?_, fun n p hp => ?_⟩
  · refine q a F H s1 (Same.refl F) ?_
    have : cutV xs lo hi = xs := by
      unfold cutV
      rw [e.1, e.2]
      simp
    rw [this]
    exact ha
  · exact q p _ _ (s1.newP hp) (same_new (s1.fh.free hp)) sq_new
def rRepF (K : PySem.W.Frag) : R2 := fun x y H Q => ∃ (F0 H0 F : Hp) (a : Addr) (k : Int) (xs : List V), Stp F0 H0 F H ∧ x = .ref a ∧ y = .int k ∧ SqT K F a xs ∧ xs ≠ [] ∧ 1 ≤ k ∧ k ≤ 1000 ∧ xs.length ≤ 1000 ∧
  ∀ p F' H', Stp F0 H0 F' H' → Same F F' → SqT K F' p (List.replicate k.toNat xs).flatten → Q (.ref p) H'
theorem op_repF : OpR X (binaryOp .Mult) (rRepF X.K) := by
  intro pins s σ H x y v u Q I rx ry h
  obtain ⟨F0, H0, F, a, k, xs, s1, rfl, rfl, ha, hn, k1, k2, hl, q⟩ := h
  refine op_repA pins s σ H _ _ v u Q I rx ry ?_
  by_cases e : k = 1
  · subst e
    refine .inr ⟨a, xs, rfl, rfl, upT s1.fh ha, q a F H s1 (Same.refl F) ?_⟩
    have : (List.replicate (1 : Int).toNat xs).flatten = xs := by simp
    rw [this]
    exact ha
  · exact .inl ⟨a, k, xs, rfl, rfl, upT s1.fh ha, hn, by omega, k2, hl, fun p hp => q p _ _ (s1.newP hp) (same_new (s1.fh.free hp)) sq_new⟩
end
/-! ### the text of a tuple of small ints -/
theorem showable_ints : ∀ {ds : List Int}, (∀ d ∈ ds, -9 ≤ d ∧ d ≤ 9) → PyData.showableAll (ds.map PyData.int) = true
  | [], _ => by rw [List.map_nil, PyData.showableAll]
  | d :: ds, h => by
    have := h d List.mem_cons_self
    have e : d.natAbs.log2 < 1920 := by
      have h1 : d.natAbs < 2 ^ 4 := by omega
      have := PySem.Flt.log2_lt_of (by decide : 0 < 4) h1
      omega
    rw [List.map_cons, PyData.showableAll, showable_ints fun x hx => h x (List.mem_cons_of_mem _ hx), PyData.showable, decide_eq_true e]
    rfl
theorem int_text {d : Int} (h : -9 ≤ d ∧ d ≤ 9) : (PyData.int d).shown.length ≤ 2 := by
  have : d = -9 ∨ d = -8 ∨ d = -7 ∨ d = -6 ∨ d = -5 ∨ d = -4 ∨ d = -3 ∨ d = -2 ∨ d = -1 ∨ d = 0 ∨ d = 1 ∨ d = 2 ∨ d = 3 ∨ d = 4 ∨ d = 5 ∨ d = 6 ∨ d = 7 ∨ d = 8 ∨ d = 9 := by omega
  rcases this with rfl | rfl | rfl | rfl | rfl | rfl | rfl | rfl | rfl | rfl | rfl | rfl | rfl | rfl | rfl | rfl | rfl | rfl | rfl <;> rw [PyData.shown] <;> decide +kernel
theorem piled_ints : ∀ {ds : List Int}, (∀ d ∈ ds, -9 ≤ d ∧ d ≤ 9) → piled (PyData.shownAll (ds.map PyData.int)) ≤ 4 * ds.length
  | [], _ => by rw [List.map_nil, PyData.shownAll]; exact Nat.zero_le _
  | d :: ds, h => by
    have h1 := int_text (h d List.mem_cons_self)
    have h2 := piled_ints fun x hx => h x (List.mem_cons_of_mem _ hx)
    rw [List.map_cons, PyData.shownAll, List.length_cons]
    unfold piled at h2 ⊢
    simp only [List.map_cons, List.sum_cons] at h2 ⊢
    omega
theorem shown_ints {ds : List Int} (h : ∀ d ∈ ds, -9 ≤ d ∧ d ≤ 9) (hl : ds.length ≤ 1000) : (intT ds).shown.length ≤ sizeLine := by
  unfold intT
  rw [PyData.shown]
  unfold tupleText
  have h2 := piled_ints h
  have e1 : (("(" : Str)).length = 1 := by decide +kernel
  have e2 : ∀ b : Bool, (Str.ofString (if b = true then ",)" else ")")).length ≤ 2 := by intro b; cases b <;> decide +kernel
  have e3 : (Str.join ", " (PyData.shownAll (ds.map PyData.int))).length ≤ 4 * ds.length := by
    by_cases hn : PyData.shownAll (ds.map PyData.int) = []
    · rw [hn]
      exact Nat.le_trans (by decide +kernel) (Nat.zero_le _)
    · have := join_length_add _ hn
      omega
  have e4 := e2 ((PyData.shownAll (ds.map PyData.int)).length == 1)
  rw [PySem.Str.length_append, PySem.Str.length_append, e1, sizeLine_eq]
  omega
end Ew

set_option Elab.async false
set_option linter.all false
set_option maxRecDepth 100000
set_option maxHeartbeats 4000000
namespace K53
open PySem PySem.Spec PyProof.Rows L2 Ew
/-! ### what a card is made of -/
theorem cut_to (xs : List V) (i : Nat) : cutV xs none (some (i : Int)) = xs.take i := by
  have e1 : HT.sIx xs.length 0 none = 0 := rfl
  have e2 : HT.sIx xs.length xs.length (some (i : Int)) = min i xs.length := by rw [HT.sIx_nat]
  unfold cutV
  rw [e1, e2, List.drop_zero, Nat.sub_zero]
  rcases Nat.le_total i xs.length with h | h
  · rw [Nat.min_eq_left h]
  · rw [Nat.min_eq_right h, List.take_of_length_le (Nat.le_refl _), List.take_of_length_le h]
section
variable {K : PySem.W.Frag} {t : Bool} {H : Hp} {p : Addr} {us : List V}
theorem slice_all {Q : VK} (hp : Sq K t H p us) (k : ∀ H' q, Same H H' → Sq K t H' q us → Q (.ref q) H') : rSlL K (.ref p) none (some ((us.length : Nat) : Int)) H Q ∨ rSlF K (.ref p) none (some ((us.length : Nat) : Int)) H Q := by
  have e : cutV us none (some ((us.length : Nat) : Int)) = us := by rw [cut_to, List.take_length]
  cases t
  · refine .inl ⟨p, us, rfl, hp, fun q hq => ?_⟩
    rw [e]
    exact k _ q (same_new hq) (SqL.of upd_same)
  · refine .inr ⟨H, H, H, p, us, .refl (.refl H), rfl, hp, fun q F' H' s1 e1 z => ?_⟩
    rw [e] at z
    exact k H' q (s1.ff.trans s1.fh) (upT s1.fh z)
theorem ix_sq {xs : List V} {i : Int} {x : V} {Q : VK} (hp : Sq K t H p xs) (h : atI xs i = some x) (k : Q x H) : rIx K (.ref p) (.int i) H Q := by
  cases t
  · exact .inl ⟨p, xs, i, x, rfl, rfl, hp, h, k⟩
  · exact .inr (.inl ⟨p, xs, i, x, rfl, rfl, hp, h, k⟩)
theorem for_enumS {σ : L2.St} {g : TG} {tb : TS} {D : Ends} {i j : Nat} (h0 : σ[i]? = some (some (.ref p))) (h1 : σ[j]? = some (some (.int ((us.length : Nat) : Int)))) (hp : Sq K t H p us) (Pv : Nat → L2.St → Hp → Prop) (a0 : ∀ H1, Same H H1 → Pv 0 σ H1)
    (hs : ∀ i x σ H2 H' (N : L2.St → Hp → Prop), i < us.length → Pv i σ H2 → YPair (fun i => some (.int (i : Nat))) (fun i => us[i]?) i H2 x H' → (∀ σ' H4, Same H2 H4 → Pv (i + 1) σ' H4 → N σ' H4) → g x σ H' fun σ2 H3 => tb { D with nx := N, ct := N, bk := D.nx } σ2 H3)
    (hd : ∀ σ H, Pv us.length σ H → D.nx σ H) :
    tFor (fun σ H R => iEnum K (tCons (tSl (fun x lo hi H Q => rSlL K x lo hi H Q ∨ rSlF K x lo hi H Q) (tVar i) tNoPart (tPart (tVar j))) tNil) σ H R ∨ iEnumT K (tCons (tSl (fun x lo hi H Q => rSlL K x lo hi H Q ∨ rSlF K x lo hi H Q) (tVar i) tNoPart (tPart (tVar j))) tNil) σ H R) g tb D σ H := by
  cases t
  · refine .inl ⟨_, h0, _, h1, _, rfl, slice_all (t := false) hp fun H1 q e1 hq => ⟨q, us, rfl, hq, ?_⟩⟩
    exact for_it walk_enum (fun i σ' H' => Pv i σ' H' ∧ Same H1 H') ⟨a0 H1 e1, .refl _⟩ (fun i σ' H' _ z => upL z.2 hq) (fun i x σ' H2 H' hi z y => hs i x σ' H2 H' _ hi z.1 y fun σ3 H4 e4 z4 => ⟨z4, z.2.trans e4⟩) fun σ' H' z => hd σ' H' z.1
  · refine .inr ⟨_, h0, _, h1, _, rfl, slice_all (t := true) hp fun H1 q e1 hq => ⟨q, us, rfl, hq, ?_⟩⟩
    exact for_it walk_enumT (fun i σ' H' => Pv i σ' H' ∧ Same H1 H') ⟨a0 H1 e1, .refl _⟩ (fun i σ' H' _ z => upT z.2 hq) (fun i x σ' H2 H' hi z y => hs i x σ' H2 H' _ hi z.1 y fun σ3 H4 e4 z4 => ⟨z4, z.2.trans e4⟩) fun σ' H' z => hd σ' H' z.1
end
section
variable {P : Program} {w : World} {K : PySem.W.Frag} {mg : Str → Option Value} {base : Heap} {a : Ad}
theorem is_row {H : Hp} {t : Bool} {p : Addr} {xs : List V} {Q : VK} {E : XK} (h : Sq K t H p xs) (k : ∀ H', Same H H' → Q (.bl true) H') : sp_is_row K [.ref p] H Q E :=
  ⟨H, p, xs, rfl, h.row, .refl H, fun F' H' v s1 e => by subst e; exact k H' (s1.ff.trans s1.fh)⟩
theorem arg1 (sp : Sp) {v : V} {σ : L2.St} {H : Hp} {Q : VK} {E : XK} (h : sp [v] H Q E) : tNil σ H fun xs H2 => sp ((v :: xs) ++ []) H2 Q E := h
theorem arg2 (sp : Sp) {u v : V} {σ : L2.St} {H : Hp} {Q : VK} {E : XK} (h : sp [u, v] H Q E) : tNil σ H fun xs H2 => sp ((u :: v :: xs) ++ []) H2 Q E := h
theorem arg3 (sp : Sp) {u v x : V} {σ : L2.St} {H : Hp} {Q : VK} {E : XK} (h : sp [u, v, x] H Q E) : tNil σ H fun xs H2 => sp ((u :: v :: x :: xs) ++ []) H2 Q E := h
def sp__judge_rows (K : PySem.W.Frag) : Sp := fun vs H Q _ => ∃ (t : Bool) (v : V) (n : Nat) (f : Tb2), vs = [v, .int (n : Nat)] ∧ Tb K t H v n f ∧ n ≤ 1000 ∧ Cld n f ∧ ∀ H', Same H H' → Q .non H'
theorem c__judge_rows (T : Txt K mg a) : Cl P w K mg base 3 "_judge_rows" P__judge_rows (sp__judge_rows K) [] :=
  T.d__judge_rows.cl sc__judge_rows (fun vs H Q E h => by obtain ⟨t, v, n, f, rfl, _⟩ := h; rfl) fun f cdv A outer s H vs Q E hr h => by
    obtain ⟨t, _, n, f, rfl, ⟨p, us, rfl, hp, hl, hu⟩, hn, hc, k⟩ := h
    refine ⟨_, ((pss_cons (ps_set (i := 2) sc__judge_rows.nd rfl (Or.inl rfl) (pe_ifExp (pt_val (pe_f (c_is_row T) (takes_of rfl rfl rfl rfl) hr (by decide) rfl (pa_cons (pv 0) pa_nil))) (pv 0) (pe_tup pa_nil)))
 (pss_cons (ps_for (passes_of rfl) rfl (pi_enumX (by rfl) T.n_enumerate (pa_cons (pe_slice (sl_list.or sl_tupF) (pv 2) po_none (po_some (pv 1))) pa_nil)) (pg_tup rfl (pgs_cons (pg_name (i := 3) sc__judge_rows.nd rfl (Or.inl rfl)) (pgs_cons (pg_name (i := 4) sc__judge_rows.nd rfl (Or.inl rfl)) pgs_nil)))
 (pss_one (ps_if (PW.pt (pw_or (pt_not (pt_val (pe_f (c_is_row T) (takes_of rfl rfl rfl rfl) hr (by decide) rfl (pa_cons (pv 4) pa_nil)))) (pw_or (pt_cmpR op_ne (pe_callB call_len_seq (by rfl) T.n_len (by decide +kernel) (pa_cons (pv 4) pa_nil)) (pv 1) (nomark _)) (pw_or (pt_not (pt_val (pe_callB (cr_all rfl) (by rfl) T.n_all (by decide +kernel) (pa_cons (pe_lc (own := [("bound", 5)]) (g := (gName 5)) (by rfl) sc__judge_rows.nd (pi_seq (pv 4)) (blkOk_by (own := [("bound", 5)]) (N := N__judge_rows) (sc := defScope s__judge_rows) (by decide +kernel)) (fun _ _ _ _ _ => (pg_name (i := 5) sc__judge_rows.nd rfl (Or.inl rfl) (hf := .inr rfl))) (fun _ _ _ _ _ => pts_nil) (fun _ _ _ _ _ => (pe_f (c_is_integer T) takes0 hr (by decide) rfl (pa_cons (pv 5) pa_nil)))) pa_nil)))) (pw_or1 (pt_cmpR op_ne (pe_ix ix_seq (pv 4) (pv 3) (fun _ _ => rfl)) pe_int (nomark _)))))))
 (pss_one (ps_raise1 rfl (takes_of rfl rfl rfl rfl) (x_BadCard T) hr (by decide) rfl (pv 3)))
 pss_nil)))
 (pss_one (ps_if (PW.pt (pw_or (pt_cmpR op_ne (pe_callB call_len_seq (by rfl) T.n_len (by decide +kernel) (pa_cons (pv 2) pa_nil)) (pv 1) (nomark _)) (pw_or1 (pt_not (pt_val (pe_f (c_is_closed T) (takes_of rfl rfl rfl rfl) hr (by decide) rfl (pa_cons (pv 2) pa_nil)))))))
 (pss_one (ps_raise1 rfl (takes_of rfl rfl rfl rfl) (x_BadCard T) hr (by decide) rfl (pe_un un_neg pe_int)))
 pss_nil))))), ?_⟩
    refine ⟨_, rfl, arg1 (sp_is_row K) (is_row hp fun H1 e1 => ⟨true, rfl, iteT ⟨_, rfl, ?_⟩⟩)⟩
    dsimp only [gName]
    subst hl
    refine seq_in (for_enumS (t := t) (i := 2) (j := 1) rfl rfl (hp.up e1) (fun j σ' H' => ∃ c3 c4 c5, σ' = [some (.ref p), some (.int (us.length : Nat)), some (.ref p), c3, c4, c5] ∧ Same H H') (fun H2 e2 => ⟨none, none, none, rfl, e1.trans e2⟩) ?_ ?_)
    · rintro j x _ H2 _ N hj ⟨c3, c4, c5, rfl, e2⟩ ⟨U, y, x, rfl, hU, rfl, ey, hx⟩ hN
      cases ey
      obtain ⟨q, rfl, hq⟩ := hu j x hx
      have e3 := same_new (o := .tup [.int (j : Nat), .ref q]) hU
      refine ⟨U, _, rfl, sq_new, rfl, _, _, rfl, _, _, rfl, rfl, ?_⟩
      generalize upd H2 U (.tup [.int (j : Nat), .ref q]) = H3 at e3
      refine ⟨_, rfl, arg1 (sp_is_row K) (is_row (hq.up (e2.trans e3)) fun H4 e4 => ⟨true, rfl, iteF ?_⟩)⟩
      have hq4 := hq.up (e2.trans (e3.trans e4))
      refine ⟨_, rfl, q, _, rfl, hq4.row, _, rfl, rfl, _, rfl, ?_⟩
      refine iteN (by rw [rowV_len]; simp) ?_
      refine cb1 (lc_sq (t := t) (i := 4) rfl hq4 (fun i _ y => y = V.bl true) (fun _ _ _ _ _ z => z) (by rw [rowV_len]; omega) ?_ ?_)
      · rintro i x F' _ H5 Kt Kn hi s5 ⟨rfl, hx⟩ kk
        obtain ⟨_, rfl⟩ := rowV_get hx
        exact ⟨rfl, lc_yes ⟨_, rfl, _, rfl, .inl ⟨_, rfl, kk _ _ _ (.refl s5.fh) rfl⟩⟩⟩
      · intro F' H5 ys D s5 _ hD' hy hr'
        rw [rowV_len] at hy
        have eb : ys = (List.replicate us.length true).map V.bl := List.ext_getElem? fun j => by
          rcases Nat.lt_or_ge j us.length with hj | hj
          · have : j < ys.length := by omega
            rw [List.getElem?_eq_getElem this, hr' j _ (List.getElem?_eq_getElem this), List.map_replicate, List.getElem?_replicate, if_pos hj]
          · rw [List.getElem?_eq_none (by omega), List.getElem?_eq_none (by simp; omega)]
        subst eb
        have e5 := s5.ff.trans s5.fh
        refine ⟨D, _, rfl, SqL.of (s5.fh _ _ hD'), _, rfl, ?_⟩
        have : (List.replicate us.length true).all id = true := by simp
        rw [this]
        have hj2 : j < us.length := hj
        have row := hq4.up e5
        have at_ : atI (rowV us.length (f j)) ((j : Nat) : Int) = some (.int 0) := atI_int (by omega) (by rw [rowV_len]; omega) (by rw [Int.toNat_natCast, rowV_at hj2, hc.z j hj2])
        refine iteF ⟨_, rfl, _, rfl, ?_⟩
        refine ix_sq row at_ ⟨rfl, _, rfl, iteN (by decide) ?_⟩
        exact hN _ H5 (e3.trans (e4.trans e5)) ⟨_, _, _, rfl, e2.trans (e3.trans (e4.trans e5))⟩
    · rintro _ H2 ⟨c3, c4, c5, rfl, e2⟩
      refine ⟨_, rfl, p, us, rfl, (hp.up e2).row, _, rfl, rfl, _, rfl, iteN (by simp) ?_⟩
      refine ⟨_, rfl, t, _, _, f, rfl, ⟨p, us, rfl, hp.up e2, rfl, fun i u z => by obtain ⟨q, h1, h2⟩ := hu i u z; exact ⟨q, h1, h2.up e2⟩⟩, hn, hc, fun H3 e3 => ⟨true, rfl, iteF ?_⟩⟩
      exact k H3 (e2.trans e3)
end
end K53

set_option Elab.async false
set_option linter.all false
set_option maxRecDepth 100000
set_option maxHeartbeats 4000000
namespace K53
open PySem PySem.Spec PyProof.Rows L2 Ew
/-! ### cards -/
/-- at v a card of the spots ps with the bounds f -/
def Cd (P : Program) (w : World) (K : PySem.W.Frag) (C : Addr) (F : Hp) (v : V) (ps : List Spot) (f : Tb2) : Prop := ∃ x dx sp d rw, v = .ref x ∧ F x = some (.ins C dx [("spots", .ref sp), ("_places", .ref d), ("rows", .ref rw)]) ∧ Sps K true F sp ps ∧ Dtx P w K F d (plc 0 ps) ∧ Tb K true F (.ref rw) ps.length f
theorem Cd.up {P : Program} {w : World} {K : PySem.W.Frag} {C : Addr} {F F' : Hp} {v : V} {ps : List Spot} {f : Tb2} (h : Cd P w K C F v ps f) (e : Same F F') : Cd P w K C F' v ps f := by
  obtain ⟨x, dx, sp, d, rw, h1, h2, h3, h4, h5⟩ := h
  exact ⟨x, dx, sp, d, rw, h1, e x _ h2, h3.up e, h4.up e, h5.up e⟩
section
variable {P : Program} {w : World} {K : PySem.W.Frag} {mg : Str → Option Value} {base : Heap} {a : Ad}
theorem Sps.row {t : Bool} {H : Hp} {p : Addr} {ps : List Spot} (h : Sps K t H p ps) : ∃ us, Sq K t H p us ∧ us.length = ps.length := by
  obtain ⟨us, h1, h2⟩ := h
  exact ⟨us, h1, Paired.length h2⟩
section
variable {H : Hp} {x dx : Addr} {C : Addr} {fs : List (Str × V)} {o : HO}
theorem sqT_ins {q : Addr} {xs : List V} (h : SqT K H q xs) (e : H x = some (.ins C dx fs)) : SqT K (upd H x o) q xs := by
  rcases h with h | h
  · refine .inl ?_
    rcases h with h | ⟨u, h⟩
    · exact .inl (by rw [upd_ne (fun z => by rw [z, e] at h; cases h)]; exact h)
    · exact .inr ⟨u, by rw [upd_ne (fun z => by rw [z, e] at h; cases h)]; exact h⟩
  · exact .inr h
theorem Sps.ins {q : Addr} {ps : List Spot} (h : Sps K true H q ps) (e : H x = some (.ins C dx fs)) : Sps K true (upd H x o) q ps := by
  obtain ⟨us, h1, h2⟩ := h
  exact ⟨us, sqT_ins h1 e, Paired.mapP h2 fun v p z => by obtain ⟨r, z1, z2⟩ := z; exact ⟨r, z1, by rw [upd_ne (fun z => by rw [z, e] at z2; cases z2)]; exact z2⟩⟩
theorem Dtx_ins {d : Addr} {kvs : List (List Key × V)} (h : Dtx P w K H d kvs) (e : H x = some (.ins C dx fs)) : Dtx P w K (upd H x o) d kvs := by
  obtain ⟨h1, ys, h2, h3⟩ := h
  exact ⟨h1, ys, Paired.mapP h2 fun _ _ z => ⟨z.1, sqT_ins z.2.1 e, z.2.2⟩, by rw [upd_ne (fun z => by rw [z, e] at h3; cases h3)]; exact h3⟩
theorem Tb.ins {v : V} {n : Nat} {f : Tb2} (h : Tb K true H v n f) (e : H x = some (.ins C dx fs)) : Tb K true (upd H x o) v n f := by
  obtain ⟨p, us, h1, h2, h3, h4⟩ := h
  exact ⟨p, us, h1, sqT_ins h2 e, h3, fun i u hu => by obtain ⟨q, z1, z2⟩ := h4 i u hu; exact ⟨q, z1, sqT_ins z2 e⟩⟩
end
def sp_Cinit (P : Program) (w : World) (K : PySem.W.Frag) (a : Ad) : Sp := fun vs H Q E => ∃ (t1 t2 : Bool) (x dx p : Addr) (v : V) (ps : List Spot) (f : Tb2) (H0 : Hp), vs = [.ref x, .ref p, v] ∧ H x = some (.ins a.Card dx []) ∧ Same H0 H ∧ H0 x = none ∧ Sps K t1 H0 p ps ∧ OkS ps ∧ Tb K t2 H0 v ps.length f ∧ Cld ps.length f ∧
  ∀ H' sp d rw, Same H0 H' → H' x = some (.ins a.Card dx [("spots", .ref sp), ("_places", .ref d), ("rows", .ref rw)]) → Sps K true H' sp ps → Dtx P w K H' d (plc 0 ps) → Tb K true H' (.ref rw) ps.length f → Q .non H'
/-- tuple(row) -/
theorem tuple_of {H : Hp} {t : Bool} {p : Addr} {xs : List V} {Q : VK} (hp : Sq K t H p xs) (k : ∀ H' q, Same H H' → SqT K H' q xs → Q (.ref q) H') : rTupS K [.ref p] H Q := by
  cases t
  · exact ⟨p, xs, rfl, .inl ⟨hp, fun l hl => k _ l (same_new hl) sq_new⟩⟩
  · exact ⟨p, xs, rfl, .inr ⟨hp, k H p (.refl H) hp⟩⟩
theorem fld_cb {r : List V → Hp → VK → Prop} {te ta : TE} {f : Str} {D : Ends} {σ : L2.St} {H : Hp} (h : te σ H fun v H1 => r [v] H1 fun y H2 => ta σ H2 fun x H3 => ∃ a C dx fs, x = .ref a ∧ H3 a = some (.ins C dx fs) ∧ Cls K C ∧ NoAttr K C f ∧ fs.length < 1000 ∧ D.nx σ (upd H3 a (.ins C dx (putF f y fs)))) :
    sFld K ta (tCB r (tCons te tNil)) f D σ H := h
theorem mk_Card (T : Txt K mg a) : Mkr P w K mg base 5 "Card" a.Card P_CardD_initD (sp_Cinit P w K a) := by
  obtain ⟨f, fd, M, F, b⟩ := T.i_Card.ex
  refine ⟨T.g_Card, f, fd, M, fun_ok F sc_CardD_initD (fun vs H Q E h => by obtain ⟨t1, t2, x, dx, p, v, ps, f, H0, rfl, _⟩ := h; rfl) fun f cdv A outer s H vs Q E hr h => ?_, b⟩
  obtain ⟨t1, t2, x, dx, p, _, ps, f, H0, rfl, hx, e0, x0, ⟨us, hp, pr⟩, ok, ⟨r, rs, rfl, hr0, hrl, hrs⟩, hc, k⟩ := h
  refine ⟨_, ((pss_cons (ps_fld (pv 0) (pe_ifExp (pt_val (pe_f (c_is_row T) (takes_of rfl rfl rfl rfl) hr (by decide) rfl (pa_cons (pv 1) pa_nil))) (pe_callTy call_tupS (by rfl) T.n_tuple (by decide +kernel) (pa_cons (pv 1) pa_nil)) (pe_tup pa_nil)) rfl)
 (pss_cons (ps_tryN rfl rfl sc_CardD_initD.nd (takes_of rfl rfl rfl rfl)
 (fun W pn xe tk tkp => (pss_one (show PS _ _ (sFld K (tVar 0) (tF (sp_places_of P w K) [] W (tCons (tFld K (tVar 0) "spots") tNil)) "_places") from (ps_fld (pv 0) (pe_f (c_places_of T) tk hr (by decide) rfl (pa_cons (pe_fld (pv 0) rfl) pa_nil)) rfl))))
 (.nm (i := 3) rfl rfl ⟨rfl, by decide, .inl T.g_BadSpot⟩ (fun xa oe cls d pn hz hf => (pss_one ps_never)) .nil))
 (pss_cons (ps_expr (pe_f (c__judge_rows T) (takes_of rfl rfl rfl rfl) hr (by decide) rfl (pa_cons (pv 2) (pa_cons (pe_callB call_len_seq (by rfl) T.n_len (by decide +kernel) (pa_cons (pe_fld (pv 0) rfl) pa_nil)) pa_nil))))
 (pss_one (ps_fld (pv 0) (pe_callTy call_tupS (by rfl) T.n_tuple (by decide +kernel) (pa_cons (pe_lc (own := [("row", 4)]) (g := (gName 4)) (by rfl) sc_CardD_initD.nd (pi_seq (pv 2)) (blkOk_by (own := [("row", 4)]) (N := N_CardD_initD) (sc := defScope s_CardD_initD) (by decide +kernel)) (fun _ _ _ _ _ => (pg_name (i := 4) sc_CardD_initD.nd rfl (Or.inl rfl) (hf := .inr rfl))) (fun _ _ _ _ _ => pts_nil) (fun _ _ _ _ _ => (pe_callTy (T := "tuple") (r := rTupS K) call_tupS (by rfl) T.n_tuple (by decide +kernel) (pa_cons (pv 4) pa_nil)))) pa_nil)) rfl)))))), ?_⟩
  refine ⟨_, rfl, arg1 (sp_is_row K) (is_row (hp.up e0) fun H1 e1 => ⟨true, rfl, iteT ⟨_, rfl, ?_⟩⟩)⟩
  dsimp only [tNil]
  refine tuple_of (hp.up (e0.trans e1)) fun H2 sp e2 hsp => ?_
  refine ⟨_, rfl, x, a.Card, dx, [], rfl, (e1.trans e2) _ _ hx, T.ki.cl, T.nS, Nat.le_of_ble_eq_true rfl, ?_⟩
  have e02 := e0.trans (e1.trans e2)
  have x2 := (e1.trans e2) _ _ hx
  have sp3 : Sps K true (upd H2 x (.ins a.Card dx (putF "spots" (.ref sp) []))) sp ps := Sps.ins ⟨us, hsp, Paired.mapP pr fun _ _ z => z.up e02⟩ x2
  have e03 : Same H0 (upd H2 x (.ins a.Card dx (putF "spots" (.ref sp) []))) := same_mut e02 x0
  have x3 : (upd H2 x (.ins a.Card dx (putF "spots" (.ref sp) []))) x = some (.ins a.Card dx [("spots", .ref sp)]) := upd_same
  generalize upd H2 x (.ins a.Card dx (putF "spots" (.ref sp) [])) = H3 at sp3 e03 x3
  refine ⟨_, rfl, x, a.Card, dx, _, _, rfl, x3, T.ki.cl, T.nS, rfl, ?_⟩
  refine ⟨sp, ps, rfl, sp3, ok, fun H4 d e4 d4 _ => ?_⟩
  have x4 := e4 _ _ x3
  refine ⟨_, rfl, x, a.Card, dx, _, rfl, x4, T.ki.cl, T.nP, Nat.le_of_ble_eq_true rfl, ?_⟩
  have e04 := e03.trans e4
  have sp5 : Sps K true (upd H4 x (.ins a.Card dx (putF "_places" (.ref d) [("spots", .ref sp)]))) sp ps := Sps.ins (sp3.up e4) x4
  have d5 : Dtx P w K (upd H4 x (.ins a.Card dx (putF "_places" (.ref d) [("spots", .ref sp)]))) d (plc 0 ps) := Dtx_ins d4 x4
  have e05 : Same H0 (upd H4 x (.ins a.Card dx (putF "_places" (.ref d) [("spots", .ref sp)]))) := same_mut e04 x0
  have x5 : (upd H4 x (.ins a.Card dx (putF "_places" (.ref d) [("spots", .ref sp)]))) x = some (.ins a.Card dx [("spots", .ref sp), ("_places", .ref d)]) := upd_same
  generalize upd H4 x (.ins a.Card dx (putF "_places" (.ref d) [("spots", .ref sp)])) = H5 at sp5 d5 e05 x5
  obtain ⟨us5, s5, l5⟩ := sp5.row
  refine ⟨_, rfl, _, rfl, x, a.Card, dx, _, _, rfl, x5, T.ki.cl, T.nS, rfl, sp, us5, rfl, .inr s5, ?_⟩
  have tb : Tb K t2 H0 (.ref r) ps.length f := ⟨r, rs, rfl, hr0, hrl, hrs⟩
  refine ⟨t2, _, ps.length, f, by rw [l5]; rfl, tb.up e05, ok.le, hc, fun H6 e6 => ?_⟩
  have e06 := e05.trans e6
  have hr6 := hr0.up e06
  refine fld_cb (lc_sq (t := t2) (i := 2) rfl hr6 (fun i F y => ∃ q, y = V.ref q ∧ SqT K F q (rowV ps.length (f i))) (fun _ _ _ _ e z => by obtain ⟨q, z1, z2⟩ := z; exact ⟨q, z1, upT e z2⟩) (by have := ok.le; omega) ?_ ?_)
  · rintro i x F' _ H7 Kt Kn hi s7 ⟨rfl, hx⟩ kk
    obtain ⟨q, rfl, hq⟩ := hrs i x hx
    refine ⟨rfl, lc_yes ⟨_, rfl, ?_⟩⟩
    dsimp only [tNil]
    have hq7 := hq.up (e06.trans (s7.ff.trans s7.fh))
    cases t2
    · exact ⟨q, _, rfl, .inl ⟨hq7, fun l hl => kk _ _ _ ((Stm.refl s7.fh).newP hl) ⟨l, rfl, sq_new⟩⟩⟩
    · exact ⟨q, _, rfl, .inr ⟨hq7, kk _ _ _ (.refl s7.fh) ⟨q, rfl, upT ((e06.trans s7.ff)) hq⟩⟩⟩
  · intro F7 H7 ys D s7 _ hD hy hr7
    have hD7 := s7.fh _ _ hD
    have e7 : Same H6 H7 := s7.ff.trans s7.fh
    refine ⟨D, ys, rfl, .inl ⟨SqL.of hD7, fun l hl => ?_⟩⟩
    have e8 := e7.trans (same_new (o := .tup ys) hl)
    have x8 := e8 _ _ (e6 _ _ x5)
    refine ⟨_, rfl, x, a.Card, dx, _, rfl, x8, T.ki.cl, T.nR, Nat.le_of_ble_eq_true rfl, ?_⟩
    have sp8 := (sp5.up e6).up e8
    have d8 := (d5.up e6).up e8
    have t8 : Tb K true (upd H7 l (.tup ys)) (.ref l) ps.length f := ⟨l, ys, rfl, sq_new, hy.trans hrl, fun i u hu => by
      obtain ⟨q, z1, z2⟩ := hr7 i u hu
      exact ⟨q, z1, upT (same_new hl) (upT s7.fh z2)⟩⟩
    exact k _ sp d l (same_mut (e06.trans e8) x0) upd_same (Sps.ins sp8 x8) (Dtx_ins d8 x8) (t8.ins x8)
end
end K53

set_option Elab.async false
set_option linter.all false
set_option maxRecDepth 100000
set_option maxHeartbeats 4000000
namespace K53
open PySem PySem.Spec PyProof.Rows L2 Ew
section
variable {P : Program} {w : World} {K : PySem.W.Frag} {mg : Str → Option Value} {base : Heap} {a : Ad}
/-- Card(spots, rows), what stands before the call -/
theorem mk_cd {H : Hp} {t1 t2 : Bool} {p : Addr} {v : V} {ps : List Spot} {f : Tb2} {Q : Addr → Hp → Prop} {E : XK} (hp : Sps K t1 H p ps) (ok : OkS ps) (tb : Tb K t2 H v ps.length f) (hc : Cld ps.length f)
    (k : ∀ H' x, Same H H' → H x = none → Cd P w K a.Card H' (.ref x) ps f → Q x H') :
    ∀ o d, H o = none → H d = none → d ≠ o → sp_Cinit P w K a (.ref o :: [.ref p, v]) (upd (upd H d (.own o)) o (.ins a.Card d [])) (fun v H2 => v = .non ∧ Q o H2) E := by
  intro o d ho hd ne
  have ho' : (upd H d (.own o)) o = none := by rw [upd_ne (Ne.symm ne)]; exact ho
  refine ⟨t1, t2, o, d, p, v, ps, f, H, rfl, upd_same, (same_new hd).trans (same_new ho'), ho, hp, ok, tb, hc, fun H' sp dd rw e x1 h1 h2 h3 => ⟨rfl, ?_⟩⟩
  exact k H' o e ho ⟨o, d, sp, dd, rw, rfl, x1, h1, h2, h3⟩
/-- what is told when an error leaves -/
def RaH (H : Hp) (E : XK) (C : Addr) (post : Hp → Addr → Prop) : Prop := ∀ H' d, Same H H' → post H' d → E (.ref C) (some d) H'
/-! ### len, in, [ ], == -/
def sp_len (P : Program) (w : World) (K : PySem.W.Frag) (a : Ad) : Sp := fun vs H Q _ => ∃ (x : V) (ps : List Spot) (f : Tb2), vs = [x] ∧ Cd P w K a.Card H x ps f ∧ Q (.int (ps.length : Nat)) H
theorem o_Card_len (T : Txt K mg a) : OwC P w K mg base 1 a.Card "__len__" P_CardD_lenD (sp_len P w K a) := by
  obtain ⟨f, fd, M, hfn, F, b⟩ := T.o_len.ex
  refine ⟨f, fd, M, hfn, fun_ok F sc_CardD_lenD (fun vs H Q E h => by obtain ⟨x, ps, f, rfl, _⟩ := h; rfl) fun f cdv A outer s H vs Q E hr h => ?_, b⟩
  obtain ⟨_, ps, f, rfl, ⟨x, dx, sp, d, rw, rfl, hx, ⟨us, h1, h2⟩, _⟩, k⟩ := h
  refine ⟨_, ((pss_one (ps_ret (pe_callB call_len_seq (by rfl) T.n_len (by decide +kernel) (pa_cons (pe_fld (pv 0) rfl) pa_nil))))), ?_⟩
  refine ⟨_, rfl, x, a.Card, dx, _, _, rfl, hx, T.ki.cl, T.nS, rfl, sp, us, rfl, .inr h1, ?_⟩
  rw [Paired.length h2]
  exact k
def sp_has (P : Program) (w : World) (K : PySem.W.Frag) (a : Ad) : Sp := fun vs H Q _ => ∃ (x v : V) (ps : List Spot) (f : Tb2) (s : Spot), vs = [x, v] ∧ Cd P w K a.Card H x ps f ∧ ps.Nodup ∧ Spt K H v s ∧ Q (.bl (decide (s ∈ ps))) H
theorem plc_is {ps : List Spot} (nd : ps.Nodup) (s : Spot) : (valV (plc 0 ps) (spK s)).isSome = decide (s ∈ ps) := by
  by_cases h : s ∈ ps
  · obtain ⟨i, hi⟩ := List.mem_iff_getElem?.mp h
    rw [plc_some nd hi, decide_eq_true h]
    rfl
  · rw [plc_none h, decide_eq_false h]
    rfl
theorem o_Card_contains (T : Txt K mg a) : OwC P w K mg base 3 a.Card "__contains__" P_CardD_containsD (sp_has P w K a) := by
  obtain ⟨f, fd, M, hfn, F, b⟩ := T.o_contains.ex
  refine ⟨f, fd, M, hfn, fun_ok F sc_CardD_containsD (fun vs H Q E h => by obtain ⟨x, v, ps, f, s, rfl, _⟩ := h; rfl) fun f cdv A outer s H vs Q E hr h => ?_, b⟩
  obtain ⟨_, _, ps, f, sp, rfl, ⟨x, dx, spa, d, rw, rfl, hx, _, hd, _⟩, nd, ⟨q, rfl, hq⟩, k⟩ := h
  refine ⟨_, ((pss_one (ps_ret (pe_and (pe_f (c_is_spot T) (takes_of rfl rfl rfl rfl) hr (by decide) rfl (pa_cons (pv 1) pa_nil)) (pe_one (pe_cmp (pc_dinX (hu_of hr) (pv 1) (pe_fld (pv 0) rfl)) rfl)))))), ?_⟩
  refine ⟨_, rfl, _, rfl, .inl ⟨q, sp, rfl, SqT.of hq, true, rfl, iteT ?_⟩⟩
  refine ⟨_, rfl, _, rfl, x, a.Card, dx, _, _, rfl, hx, T.ki.cl, T.nP, rfl, d, q, _, spK sp, rfl, rfl, hd, SqT.of hq, ?_⟩
  rw [plc_is nd]
  exact k
def sp_place (P : Program) (w : World) (K : PySem.W.Frag) (a : Ad) : Sp := fun vs H Q E => ∃ (x v : V) (ps : List Spot) (f : Tb2) (s : Spot), vs = [x, v] ∧ Cd P w K a.Card H x ps f ∧ ps.Nodup ∧ Spt K H v s ∧ (∀ i : Nat, ps[i]? = some s → Q (.int i) H) ∧ (s ∉ ps → RaH H E a.NoSpot fun F' d => F' d = some (.xd [("spot", v)]))
theorem m_Card__place (T : Txt K mg a) : Mt P w K mg base 4 a.Card "_place" P_Card__place (sp_place P w K a) [] := by
  obtain ⟨f, fd, M, F, b⟩ := T.m__place.ex
  refine ⟨T.ki.cl, f, fd, [], M, fun_ok F sc_Card__place (fun vs H Q E h => by obtain ⟨x, v, ps, f, s, rfl, _⟩ := h; rfl) fun f cdv A outer s H vs Q E hr h => ?_, b, .nil⟩
  obtain ⟨x, _, ps, f, sp, rfl, cd, nd, ⟨q, rfl, hq⟩, k1, k2⟩ := h
  obtain ⟨x, dx, spa, d, rw, rfl, hx, h1, hd, h2⟩ := id cd
  refine ⟨_, ((pss_cons (ps_if (pt_cmp (pc_ninC (o_Card_contains T) (takes_of rfl rfl rfl rfl) hr (by decide) (pv 1) (pv 0)) rfl)
 (pss_one (ps_raise1 rfl (takes_of rfl rfl rfl rfl) (x_NoSpot T) hr (by decide) rfl (pv 1)))
 pss_nil)
 (pss_one (ps_ret (pe_dgetX (hu_of hr) (pe_fld (pv 0) rfl) (pv 1) (fun _ _ => rfl)))))), ?_⟩
  refine ⟨_, rfl, _, rfl, x, dx, _, rfl, hx, _, _, ps, f, sp, rfl, cd, nd, ⟨q, rfl, hq⟩, _, rfl, ?_⟩
  by_cases h : sp ∈ ps
  · rw [decide_eq_true h]
    obtain ⟨i, hi⟩ := List.mem_iff_getElem?.mp h
    refine ⟨_, rfl, iteF ⟨_, rfl, x, a.Card, dx, _, _, rfl, hx, T.ki.cl, T.nP, rfl, _, rfl, d, q, _, spK sp, _, rfl, rfl, hd, SqT.of hq, plc_some nd hi, ?_⟩⟩
    rw [Nat.zero_add]
    exact k1 i hi
  · rw [decide_eq_false h]
    exact ⟨_, rfl, iteT ⟨_, rfl, fun d hd => k2 h _ d (same_new hd) upd_same⟩⟩
def sp_at (P : Program) (w : World) (K : PySem.W.Frag) (a : Ad) : Sp := fun vs H Q _ => ∃ (x u v : V) (q : Addr) (ps : List Spot) (f : Tb2) (s1 s2 : Spot) (i j : Nat), vs = [x, .ref q] ∧ Cd P w K a.Card H x ps f ∧ ps.Nodup ∧ SqT K H q [u, v] ∧ Spt K H u s1 ∧ Spt K H v s2 ∧ ps[i]? = some s1 ∧ ps[j]? = some s2 ∧ Q (.int (f i j)) H
theorem o_Card_getitem (T : Txt K mg a) : OwC P w K mg base 5 a.Card "__getitem__" P_CardD_getitemD (sp_at P w K a) := by
  obtain ⟨f, fd, M, hfn, F, b⟩ := T.o_getitem.ex
  refine ⟨f, fd, M, hfn, fun_ok F sc_CardD_getitemD (fun vs H Q E h => by obtain ⟨x, u, v, q, ps, f, s1, s2, i, j, rfl, _⟩ := h; rfl) fun f cdv A outer s H vs Q E hr h => ?_, b⟩
  obtain ⟨x, u, v, q, ps, f, s1, s2, i, j, rfl, cd, nd, hq, hu, hv, hi, hj, k⟩ := h
  obtain ⟨x, dx, spa, d, rw, rfl, hx, h1, hd, ⟨_, us, er, hrw, hl, hus⟩⟩ := id cd
  cases er
  have il := (List.getElem?_eq_some_iff.mp hi).1
  have jl := (List.getElem?_eq_some_iff.mp hj).1
  have same : ∀ {i j : Nat} {s : Spot}, ps[i]? = some s → ps[j]? = some s → i = j := fun {i j s} e1 e2 => (List.getElem?_inj (List.getElem?_eq_some_iff.mp e1).1 nd).mp (e1.trans e2.symm)
  obtain ⟨xi, hxi⟩ : ∃ y, us[i]? = some y := ⟨_, List.getElem?_eq_getElem (by omega)⟩
  obtain ⟨qi, rfl, hqi⟩ := hus i xi hxi
  refine ⟨_, ((pss_cons (ps_asg (pv 1) (pg_tup rfl (pgs_cons (pg_name (i := 2) sc_CardD_getitemD.nd rfl (Or.inl rfl)) (pgs_cons (pg_name (i := 3) sc_CardD_getitemD.nd rfl (Or.inl rfl)) pgs_nil))))
 (pss_one (ps_ret (pe_ix ix_tup (pe_ix ix_tup (pe_fld (pv 0) rfl) (pe_mf (m_Card__place T) (takes_of rfl rfl rfl rfl) hr (by decide) (pv 0) (pa_cons (pv 2) pa_nil)) (fun _ _ => rfl)) (pe_mf (m_Card__place T) (takes_of rfl rfl rfl rfl) hr (by decide) (pv 0) (pa_cons (pv 3) pa_nil)) (fun _ _ => rfl)))))), ?_⟩
  refine ⟨_, rfl, q, _, rfl, hq, rfl, _, _, rfl, _, _, rfl, rfl, ?_⟩
  refine ⟨_, rfl, x, a.Card, dx, _, _, rfl, hx, T.ki.cl, T.nR, rfl, _, rfl, x, dx, _, rfl, hx, rfl, _, rfl, ?_⟩
  refine ⟨_, u, ps, f, s1, rfl, cd, nd, hu, fun i' hi' => ?_, fun z => absurd (List.mem_of_getElem? hi) z⟩
  obtain rfl := same hi hi'
  refine ⟨rw, us, _, _, rfl, rfl, hrw, atI_int (by omega) (by omega) (by rw [Int.toNat_natCast]; exact hxi), ?_⟩
  refine ⟨_, rfl, x, dx, _, rfl, hx, rfl, _, rfl, ?_⟩
  refine ⟨_, v, ps, f, s2, rfl, cd, nd, hv, fun j' hj' => ?_, fun z => absurd (List.mem_of_getElem? hj) z⟩
  obtain rfl := same hj hj'
  exact ⟨qi, _, _, _, rfl, rfl, hqi, atI_int (by omega) (by rw [rowV_len]; omega) (by rw [Int.toNat_natCast]; exact rowV_at jl), k⟩
/-! ### == -/
theorem dp_row {K : PySem.W.Frag} {H : Hp} {q : Addr} {n : Nat} {g : Nat → Int} (h : SqT K H q (rowV n g)) : Dp K H (.ref q) (intT ((List.range n).map g)) := by
  refine dp_ints ?_
  rw [List.map_map]
  exact h
def tabD (n : Nat) (f : Tb2) : PyData := .tuple ((List.range n).map fun i => intT ((List.range n).map (f i)))
theorem dp_of {K : PySem.W.Frag} {H : Hp} : ∀ {us : List V} {ds : List PyData}, us.length = ds.length → (∀ (i : Nat) u d, us[i]? = some u → ds[i]? = some d → Dp K H u d) → DpAll K H us ds
  | [], [], _, _ => .nil
  | [], _ :: _, h, _ => by simp at h
  | _ :: _, [], h, _ => by simp at h
  | u :: us, d :: ds, h, k => .cons (k 0 u d rfl rfl) (dp_of (by simpa using h) fun i u d h1 h2 => k (i + 1) u d h1 h2)
theorem Tb.dp {K : PySem.W.Frag} {H : Hp} {v : V} {n : Nat} {f : Tb2} (h : Tb K true H v n f) : Dp K H v (tabD n f) := by
  obtain ⟨p, us, rfl, h2, h3, h4⟩ := h
  refine .tup h2 (dp_of (by rw [List.length_map, List.length_range, h3]) fun i u d e1 e2 => ?_)
  obtain ⟨q, rfl, hq⟩ := h4 i u e1
  have hi : i < n := by have := (List.getElem?_eq_some_iff.mp e1).1; omega
  rw [List.getElem?_map, List.getElem?_range hi] at e2
  cases e2
  exact dp_row hq
def spsD (ps : List Spot) : PyData := .tuple (ps.map spD)
theorem Sps.dp {K : PySem.W.Frag} {H : Hp} {p : Addr} {ps : List Spot} (h : Sps K true H p ps) : Dp K H (.ref p) (spsD ps) := by
  obtain ⟨us, h1, h2⟩ := h
  refine .tup h1 (dp_of (by rw [List.length_map, Paired.length h2]) fun i u d e1 e2 => ?_)
  obtain ⟨s, hs, hq⟩ := paired_get h2 e1
  rw [List.getElem?_map, hs] at e2
  cases e2
  exact hq.dp
theorem fl_ints (ds : List Int) : Fl 1 (intT ds) := Fl.tup (FlA.all fun d hd => by
  obtain ⟨i, _, rfl⟩ := List.mem_map.mp hd
  exact Fl.int)
theorem fl_tab {n : Nat} {f : Tb2} : Fl 2 (tabD n f) := Fl.tup (FlA.all fun d hd => by
  obtain ⟨i, _, rfl⟩ := List.mem_map.mp hd
  exact fl_ints _)
theorem fl_sps {ps : List Spot} (h : ∀ p ∈ ps, PyData.strOk p.1 = true) : Fl 2 (spsD ps) := Fl.tup (FlA.all fun d hd => by
  obtain ⟨p, hp, rfl⟩ := List.mem_map.mp hd
  exact fl_sp (h p hp))
theorem eqvAll_map {α : Type} [DecidableEq α] {g : α → PyData} (hg : ∀ x y, PyData.eqv (g x) (g y) = decide (x = y)) : ∀ xs ys : List α, PyData.eqvAll (xs.map g) (ys.map g) = decide (xs = ys)
  | [], [] => by simp [PyData.eqvAll]
  | [], _ :: _ => by simp [PyData.eqvAll]
  | _ :: _, [] => by simp [PyData.eqvAll]
  | x :: xs, y :: ys => by
    rw [List.map_cons, List.map_cons, PyData.eqvAll, hg, eqvAll_map hg]
    by_cases h1 : x = y <;> by_cases h2 : xs = ys <;> simp [h1, h2]
theorem eqv_sps (ps qs : List Spot) : PyData.eqv (spsD ps) (spsD qs) = decide (ps = qs) := by
  unfold spsD
  rw [PyData.eqv, eqvAll_map eqv_sp]
theorem eqv_tab {n : Nat} {f g : Tb2} : PyData.eqv (tabD n f) (tabD n g) = true ↔ ∀ i j, i < n → j < n → f i j = g i j := by
  unfold tabD
  have e : ∀ h : Tb2, ((List.range n).map fun i => intT ((List.range n).map (h i))) = ((List.range n).map fun i => (List.range n).map (h i)).map intT := fun h => by rw [List.map_map]; rfl
  rw [PyData.eqv, e f, e g, eqvAll_map eqv_ints, decide_eq_true_iff]
  constructor
  · intro z i j hi hj
    have z1 := congrArg (fun l => l[i]?) z
    simp only [List.getElem?_map, List.getElem?_range hi, Option.map_some, Option.some.injEq] at z1
    have z2 := congrArg (fun l => l[j]?) z1
    simpa only [List.getElem?_map, List.getElem?_range hj, Option.map_some, Option.some.injEq] using z2
  · intro z
    refine List.map_congr_left fun i hi => List.map_congr_left fun j hj => z i j (List.mem_range.mp hi) (List.mem_range.mp hj)
theorem ty_card (T : Txt K mg a) {H : Hp} {x dx : Addr} {fs : List (Str × V)} (h : H x = some (.ins a.Card dx fs)) : TyX K H (.ref x) (.ref a.Card) := T.ki.ty h
def sp_eq (P : Program) (w : World) (K : PySem.W.Frag) (a : Ad) : Sp := fun vs H Q _ => ∃ (x y : V) (ps : List Spot) (f g : Tb2), vs = [x, y] ∧ Cd P w K a.Card H x ps f ∧ Cd P w K a.Card H y ps g ∧ OkS ps ∧ Q (.bl (PyData.eqv (tabD ps.length f) (tabD ps.length g))) H
theorem o_Card_eq (T : Txt K mg a) : OwC P w K mg base 1 a.Card "__eq__" P_CardD_eqD (sp_eq P w K a) := by
  obtain ⟨f, fd, M, hfn, F, b⟩ := T.o_eq.ex
  refine ⟨f, fd, M, hfn, fun_ok F sc_CardD_eqD (fun vs H Q E h => by obtain ⟨x, y, ps, f, g, rfl, _⟩ := h; rfl) fun f cdv A outer s H vs Q E hr h => ?_, b⟩
  obtain ⟨_, _, ps, f, g, rfl, ⟨x, dx, sx, d, rx, rfl, hx, h1, h2, h3⟩, ⟨y, dy, sy, d', ry, rfl, hy, h4, h5, h6⟩, ok, k⟩ := h
  refine ⟨_, ((pss_one (ps_ret (pe_and (pe_callB call_isi (by rfl) T.n_isinstance (by decide +kernel) (pa_cons (pv 1) (pa_cons (pe_glob (v := .ref a.Card) rfl T.g_Card rfl) pa_nil))) (pe_and (pe_cmpR (op_eqD hr.units) (pe_fld (pv 0) rfl) (pe_fld (pv 1) rfl) (nomark _)) (pe_one (pe_cmpR (op_eqD hr.units) (pe_fld (pv 0) rfl) (pe_fld (pv 1) rfl) (nomark _)))))))), ?_⟩
  refine ⟨_, rfl, _, _, _, _, true, rfl, .own _, ty_card T hy, kit_same, true, rfl, iteT ?_⟩
  refine ⟨_, rfl, x, a.Card, dx, _, _, rfl, hx, T.ki.cl, T.nS, rfl, _, rfl, y, a.Card, dy, _, _, rfl, hy, T.ki.cl, T.nS, rfl, spsD ps, spsD ps, h1.dp, h4.dp, (fl_sps ok.ok).sh (by decide), (fl_sps ok.ok).sh (by decide), ?_⟩
  rw [eqv_sps, decide_eq_true rfl]
  refine ⟨true, rfl, iteT ?_⟩
  exact ⟨_, rfl, x, a.Card, dx, _, _, rfl, hx, T.ki.cl, T.nR, rfl, _, rfl, y, a.Card, dy, _, _, rfl, hy, T.ki.cl, T.nR, rfl, tabD ps.length f, tabD ps.length g, h3.dp, h6.dp, fl_tab.sh (by decide), fl_tab.sh (by decide), k⟩
end
end K53

set_option Elab.async false
set_option linter.all false
set_option maxRecDepth 100000
set_option maxHeartbeats 4000000
namespace K53
open PySem PySem.Spec PyProof.Rows L2 Ew
/-! ### the law's own tables, that it writes -/
structure Raw (H0 H : Hp) (p : Addr) (qs : List Addr) (n : Nat) (f : Tb2) : Prop where
  at_ : H p = some (.lst (qs.map V.ref))
  len : qs.length = n
  nd : qs.Nodup
  np : p ∉ qs
  p0 : H0 p = none
  q0 : ∀ q ∈ qs, H0 q = none
  row : ∀ i q, qs[i]? = some q → H q = some (.lst (rowV n (f i)))
section
variable {K : PySem.W.Frag} {H0 H H' : Hp} {p q : Addr} {qs : List Addr} {n i j : Nat} {f g : Tb2} {x : Int}
theorem Raw.tb (h : Raw H0 H p qs n f) : Tb K false H (.ref p) n f :=
  ⟨p, _, rfl, SqL.of h.at_, by rw [List.length_map, h.len], fun i u hu => by
    rw [List.getElem?_map] at hu
    obtain ⟨q, h1, rfl⟩ := Option.map_eq_some_iff.mp hu
    exact ⟨q, rfl, SqL.of (h.row i q h1)⟩⟩
theorem Raw.up (h : Raw H0 H p qs n f) (e : Same H H') : Raw H0 H' p qs n f := ⟨e _ _ h.at_, h.len, h.nd, h.np, h.p0, h.q0, fun i q z => e _ _ (h.row i q z)⟩
theorem Raw.congr (h : Raw H0 H p qs n f) (e : ∀ a b, a < n → b < n → f a b = g a b) : Raw H0 H p qs n g := ⟨h.at_, h.len, h.nd, h.np, h.p0, h.q0, fun i q z => by
  have hi : i < n := by rw [← h.len]; exact (List.getElem?_eq_some_iff.mp z).1
  rw [h.row i q z, rowV_congr fun j hj => e i j hi hj]⟩
theorem rowV_set {r : Nat → Int} : (rowV n r).set j (.int x) = rowV n fun b => if b = j then x else r b := by
  refine rowV_of (by rw [List.length_set, rowV_len]) fun k y e => ?_
  rw [List.getElem?_set] at e
  by_cases h : j = k
  · subst h
    rw [if_pos rfl] at e
    split at e
    · cases e
      rw [if_pos rfl]
    · cases e
  · rw [if_neg h] at e
    obtain ⟨_, rfl⟩ := rowV_get e
    rw [if_neg (Ne.symm h)]
theorem Raw.put (h : Raw H0 H p qs n f) (hq : qs[i]? = some q) : Raw H0 (upd H q (.lst ((rowV n (f i)).set j (.int x)))) p qs n (fun a b => if a = i ∧ b = j then x else f a b) where
  at_ := by rw [upd_ne (fun z => h.np (by rw [z]; exact List.mem_of_getElem? hq))]; exact h.at_
  len := h.len
  nd := h.nd
  np := h.np
  p0 := h.p0
  q0 := h.q0
  row := fun k r hr => by
    by_cases e : k = i
    · subst e
      rw [hq] at hr
      cases hr
      rw [upd_same, rowV_set]
      congr 3
      funext b
      by_cases z : b = j <;> simp [z]
    · have ne : r ≠ q := fun z => e (by
        subst z
        exact (List.getElem?_inj (List.getElem?_eq_some_iff.mp hr).1 h.nd).mp (hr.trans hq.symm))
      rw [upd_ne ne, h.row k r hr]
      congr 3
      funext b
      rw [if_neg fun z => e z.1]
theorem Raw.same (h : Raw H0 H p qs n f) (hq : qs[i]? = some q) (e : Same H0 H) {o : HO} : Same H0 (upd H q o) := same_mut e (h.q0 q (List.mem_of_getElem? hq))
theorem refs_of {P : Nat → Addr → Prop} : ∀ {ys : List V}, (∀ (j : Nat) y, ys[j]? = some y → ∃ q, y = V.ref q ∧ P j q) → ∃ qs : List Addr, ys = qs.map V.ref ∧ ∀ (j : Nat) q, qs[j]? = some q → P j q := by
  intro ys
  induction ys generalizing P with
  | nil => exact fun _ => ⟨[], rfl, fun j q z => by simp at z⟩
  | cons y ys ih =>
    intro h
    obtain ⟨q, rfl, hq⟩ := h 0 y rfl
    obtain ⟨qs, rfl, hqs⟩ := ih (P := fun j q => P (j + 1) q) fun j y z => h (j + 1) y z
    exact ⟨q :: qs, rfl, fun j r z => by
      cases j with
      | zero => cases z; exact hq
      | succ j => exact hqs j r z⟩
/-- [list(row) for row in rows] -/
theorem copy_tab {v : V} {σ : L2.St} {vs : List Nat} {Q : VK} {i j : Nat} (h0 : σ[i]? = some (some v)) (hv : ∀ x, ((wipe σ vs).set j (some x))[j]? = some (some x)) (hw : ∀ x, wipe ((wipe σ vs).set j (some x)) vs = wipe σ vs) (tb : Tb K false H v n f) (hn : n ≤ 1000)
    (k : ∀ H' p qs, Same H H' → Raw H H' p qs n f → Q (.ref p) H') : tLc (iList K (tVar i)) (gName j) tYes (tCB (rLstS K) (tCons (tVar j) tNil)) vs σ H Q := by
  obtain ⟨p, us, rfl, hp, hl, hu⟩ := tb
  refine ⟨_, h0, p, rfl, ⟨us, hp⟩, fun D hD => ?_⟩
  refine lcS memP walk_list (fun acc => acc.Nodup) (.refl H) trivial .nil hD (fun i F y => ∃ q, y = V.ref q ∧ H q = none ∧ F q = some (.lst (rowV n (f i)))) (fun _ _ _ _ e z => by obtain ⟨q, z1, z2, z3⟩ := z; exact ⟨q, z1, z2, e _ _ z3⟩) (by omega) (fun F' H' e1 e2 => upL (e1.trans e2) hp) ?_ ?_
  · rintro i x F' _ H1 acc Kt Kn hi s1 _ hacc nd hr ⟨rfl, hx⟩ kk
    obtain ⟨q, rfl, hq⟩ := hu i x hx
    refine ⟨hw _, lc_yes ⟨_, hv _, ?_⟩⟩
    dsimp only [tNil]
    refine ⟨q, _, rfl, .inl (upL (s1.ff.trans s1.fh) hq), fun l hl => ?_⟩
    have l0 : H l = none := s1.freshP hl
    refine kk (.ref l) _ _ ((Stm.refl s1.fh).newP hl) trivial ⟨l, rfl, l0, upd_same⟩ ?_
    rw [List.nodup_append]
    refine ⟨nd, by simp, fun a ha b hb => ?_⟩
    rw [List.mem_singleton] at hb
    subst hb
    rintro rfl
    obtain ⟨j, hj⟩ := List.mem_iff_getElem?.mp ha
    obtain ⟨q', e, _, z⟩ := hr j _ hj
    cases e
    rw [s1.fh _ _ z] at hl
    cases hl
  · intro F1 H1 ys s1 _ _ hD' hy nd hr
    obtain ⟨qs, rfl, hqs⟩ := refs_of (P := fun i q => H q = none ∧ F1 q = some (.lst (rowV n (f i)))) fun j y z => by obtain ⟨q, z1, z2, z3⟩ := hr j y z; exact ⟨q, z1, z2, z3⟩
    rw [List.length_map] at hy
    have ql : qs.length = n := hy.trans hl
    refine k H1 D qs (s1.ff.trans s1.fh) ⟨s1.fh _ _ hD', ql, (List.pairwise_map.mp nd).imp fun z e => z (congrArg _ e), fun m => ?_, hD, fun q m => ?_, fun i q z => s1.fh _ _ (hqs i q z).2⟩
    · obtain ⟨j, hj⟩ := List.mem_iff_getElem?.mp m
      have z := (hqs j D hj).2
      rw [hD'] at z
      injection z with z
      injection z with z
      have jn : j < n := by rw [← ql]; exact (List.getElem?_eq_some_iff.mp hj).1
      have := congrArg (fun l => l[j]?) z
      simp only [List.getElem?_map, hj, Option.map_some] at this
      rw [rowV_at jn] at this
      cases this
    · obtain ⟨j, hj⟩ := List.mem_iff_getElem?.mp m
      exact (hqs j q hj).1
end
end K53

set_option Elab.async false
set_option linter.all false
set_option maxRecDepth 100000
set_option maxHeartbeats 4000000
namespace K53
open PySem PySem.Spec PyProof.Rows L2 Ew
/-! ### the law's closing -/
/-- row a is done as far as column b, by way of m -/
def mid (m : Nat) (g : Tb2) (a b : Nat) : Tb2 := fun i j => if i < a ∨ (i = a ∧ j < b) then via m g i j else g i j
section
variable {P : Program} {w : World} {K : PySem.W.Frag} {mg : Str → Option Value} {base : Heap} {a : Ad}
theorem Raw.get {H0 H : Hp} {p : Addr} {qs : List Addr} {n i : Nat} {f : Tb2} (h : Raw H0 H p qs n f) (hi : i < n) : ∃ q, qs[i]? = some q ∧ atI (qs.map V.ref) ((0 : Int) + (i : Nat)) = some (.ref q) := by
  obtain ⟨q, hq⟩ : ∃ q, qs[i]? = some q := ⟨_, List.getElem?_eq_getElem (by rw [h.len]; exact hi)⟩
  refine ⟨q, hq, atI_int (by omega) (by rw [List.length_map, h.len]; omega) ?_⟩
  have : ((0 : Int) + (i : Nat)).toNat = i := by omega
  rw [this, List.getElem?_map, hq]
  rfl
theorem row_at {n j : Nat} {g : Nat → Int} (h : j < n) : atI (rowV n g) ((0 : Int) + (j : Nat)) = some (.int (g j)) := by
  refine atI_int (by omega) (by rw [rowV_len]; omega) ?_
  have : ((0 : Int) + (j : Nat)).toNat = j := by omega
  rw [this, rowV_at h]
theorem row_ix {n j : Nat} {g : Nat → Int} (h : j < n) : ixN (rowV n g).length ((0 : Int) + (j : Nat)) = some j := by
  unfold ixN
  rw [if_pos (by omega), if_pos (by rw [rowV_len]; omega)]
  congr 1
  omega
theorem seq_asg {te : TE} {g : TG} {u : TS} {D : Ends} {σ : L2.St} {H : Hp} (h : te σ H fun v H1 => g v σ H1 fun σ2 H2 => u D σ2 H2) : tSeq (tAsg te g) u D σ H := h
def sp__law_closing (K : PySem.W.Frag) : Sp := fun vs H Q _ => ∃ (v : V) (n : Nat) (f : Tb2), vs = [v] ∧ Tb K false H v n f ∧ n ≤ 1000 ∧ ∀ H' p qs, Same H H' → Raw H H' p qs n (fw n f) → Q (.ref p) H'
theorem c__law_closing (T : Txt K mg a) : Cl P w K mg base 1 "_law_closing" P__law_closing (sp__law_closing K) [] :=
  T.d__law_closing.cl sc__law_closing (fun vs H Q E h => by obtain ⟨v, n, f, rfl, _⟩ := h; rfl) fun f cdv A outer s H vs Q E hr h => by
    obtain ⟨v, n, f, rfl, tb, hn, k⟩ := h
    refine ⟨_, ((pss_cons (ps_setLc (i := 1) (own := [("_law_row", 5)]) (g := (gName 5)) (by rfl) sc__law_closing.nd rfl rfl (sw_true rfl rfl rfl (by decide +kernel)) (pi_list (pv 0)) (blkOk_by (own := [("_law_row", 5)]) (N := N__law_closing) (sc := defScope s__law_closing) (by decide +kernel)) (fun _ _ _ _ _ => (pg_name (i := 5) sc__law_closing.nd rfl (Or.inl rfl) (hf := .inr rfl))) (fun _ _ _ _ _ => pts_nil) (fun _ _ _ _ _ => (pe_callTy (T := "list") (r := rLstS K) call_lstS (by rfl) T.n_list (by decide +kernel) (pa_cons (pv 5) pa_nil))))
 (pss_cons (ps_for (passes_of rfl) rfl (pi_range1 (by rfl) T.n_range (pa_cons (pe_callB call_len_seq (by rfl) T.n_len (by decide +kernel) (pa_cons (pv 1) pa_nil)) pa_nil)) (pg_name (i := 2) sc__law_closing.nd rfl (Or.inl rfl))
 (pss_cons (ps_set (i := 3) sc__law_closing.nd rfl (Or.inl rfl) (pe_callTy call_list_of (by rfl) T.n_list (by decide +kernel) (pa_cons (pe_ix ix_list (pv 1) (pv 2) (fun _ _ => rfl)) pa_nil)))
 (pss_one (ps_for (passes_of rfl) rfl (pi_range1 (by rfl) T.n_range (pa_cons (pe_callB call_len_seq (by rfl) T.n_len (by decide +kernel) (pa_cons (pv 1) pa_nil)) pa_nil)) (pg_name (i := 4) sc__law_closing.nd rfl (Or.inl rfl))
 (pss_cons (ps_set (i := 5) sc__law_closing.nd rfl (Or.inl rfl) (pe_ix ix_list (pv 1) (pv 4) (fun _ _ => rfl)))
 (pss_cons (ps_set (i := 6) sc__law_closing.nd rfl (Or.inl rfl) (pe_ix ix_list (pv 5) (pv 2) (fun _ _ => rfl)))
 (pss_one (ps_for (passes_of rfl) rfl (pi_range1 (by rfl) T.n_range (pa_cons (pe_callB call_len_seq (by rfl) T.n_len (by decide +kernel) (pa_cons (pv 1) pa_nil)) pa_nil)) (pg_name (i := 7) sc__law_closing.nd rfl (Or.inl rfl))
 (pss_one (ps_if (pt_cmpR op_lt (pe_op op_add (pv 6) (pe_ix ix_list (pv 3) (pv 7) (fun _ _ => rfl))) (pe_ix ix_list (pv 5) (pv 7) (fun _ _ => rfl)) (nomark _))
 (pss_one (ps_asg (pe_op op_add (pv 6) (pe_ix ix_list (pv 3) (pv 7) (fun _ _ => rfl))) (pg_sub (pv 5) (pv 7) set_list)))
 pss_nil))))))))))
 (pss_one (ps_ret (pv 1)))))), ?_⟩
    refine seq_asg (copy_tab (i := 0) (j := 5) rfl (by intro _; rfl) (by intro _; rfl) tb hn fun H1 p qs e1 r1 => ?_)
    dsimp only [gName]
    refine ⟨_, rfl, p, _, rfl, .inl (SqL.of r1.at_), _, rfl, by omega, by rw [List.length_map, r1.len]; omega, ?_⟩
    rw [show ((((qs.map V.ref).length : Nat) : Int)).toNat = n by rw [List.length_map, r1.len]; omega]
    refine for_it walk_range (fun m σ' H' => ∃ c2 c3 c4 c5 c6 c7, σ' = [some v, some (.ref p), c2, c3, c4, c5, c6, c7] ∧ Same H H' ∧ Raw H H' p qs n (fw m f)) ?_ (fun _ _ _ _ _ => trivial) ?_ ?_
    · exact ⟨none, none, none, none, none, none, rfl, e1, r1⟩
    · rintro m _ _ _ H2 hm ⟨c2, c3, c4, c5, c6, c7, rfl, e2, r2⟩ ⟨rfl, rfl⟩
      obtain ⟨qm, hqm, am⟩ := r2.get hm
      refine ⟨_, rfl, _, rfl, p, _, _, _, rfl, rfl, SqL.of r2.at_, am, qm, _, rfl, .inl (SqL.of (r2.row m qm hqm)), fun th nth => ?_⟩
      dsimp only [gName]
      have e3 := e2.trans (same_new (o := .lst (rowV n (fw m f m))) nth)
      have r3 := r2.up (same_new (o := .lst (rowV n (fw m f m))) nth)
      have h3 : (upd H2 th (.lst (rowV n (fw m f m)))) th = some (.lst (rowV n (fw m f m))) := upd_same
      have nt : ∀ q ∈ p :: qs, th ≠ q := fun q hq z => by
        subst z
        rcases List.mem_cons.mp hq with e | hq
        · have := r2.at_
          rw [← e, nth] at this
          cases this
        · obtain ⟨i, hi⟩ := List.mem_iff_getElem?.mp hq
          have := r2.row i th hi
          rw [nth] at this
          cases this
      generalize hg : fw m f = g at e3 r3 h3 ⊢
      generalize upd H2 th (.lst (rowV n (g m))) = H3 at e3 r3 h3 ⊢
      refine ⟨_, rfl, p, _, rfl, .inl (SqL.of r3.at_), _, rfl, by omega, by rw [List.length_map, r3.len]; omega, ?_⟩
      rw [show ((((qs.map V.ref).length : Nat) : Int)).toNat = n by rw [List.length_map, r3.len]; omega]
      refine for_it walk_range (fun i σ' H' => ∃ c4 c5 c6 c7, σ' = [some v, some (.ref p), some (.int (0 + (m : Nat))), some (.ref th), c4, c5, c6, c7] ∧ Same H H' ∧ Raw H H' p qs n (mid m g i 0) ∧ H' th = some (.lst (rowV n (g m)))) ?_ (fun _ _ _ _ _ => trivial) ?_ ?_
      · exact ⟨_, _, _, _, rfl, e3, r3.congr fun i j _ _ => by unfold mid; rw [if_neg (by omega)], h3⟩
      · rintro i _ _ _ H4 hi ⟨c4, c5, c6, c7, rfl, e4, r4, h4⟩ ⟨rfl, rfl⟩
        obtain ⟨qi, hqi, ai⟩ := r4.get hi
        refine ⟨_, rfl, _, rfl, p, _, _, _, rfl, rfl, SqL.of r4.at_, ai, ?_⟩
        have ri := r4.row i qi hqi
        refine ⟨_, rfl, _, rfl, qi, _, _, _, rfl, rfl, SqL.of ri, row_at hm, ?_⟩
        refine ⟨_, rfl, p, _, rfl, .inl (SqL.of r4.at_), _, rfl, by omega, by rw [List.length_map, r4.len]; omega, ?_⟩
        rw [show ((((qs.map V.ref).length : Nat) : Int)).toNat = n by rw [List.length_map, r4.len]; omega]
        have em : mid m g i 0 i m = g i m := by unfold mid; rw [if_neg (by omega)]
        rw [em]
        refine for_it walk_range (fun j σ' H' => ∃ c7, σ' = [some v, some (.ref p), some (.int (0 + (m : Nat))), some (.ref th), some (.int (0 + (i : Nat))), some (.ref qi), some (.int (g i m)), c7] ∧ Same H H' ∧ Raw H H' p qs n (mid m g i j) ∧ H' th = some (.lst (rowV n (g m)))) ?_ (fun _ _ _ _ _ => trivial) ?_ ?_
        · exact ⟨_, rfl, e4, r4, h4⟩
        · rintro j _ _ _ H5 hj ⟨c7, rfl, e5, r5, h5⟩ ⟨rfl, rfl⟩
          have rj := r5.row i qi hqi
          have ej : mid m g i j i j = g i j := by unfold mid; rw [if_neg (by omega)]
          refine ⟨_, rfl, _, rfl, _, rfl, th, _, _, _, rfl, rfl, SqL.of h5, row_at hj, _, _, rfl, rfl, ?_⟩
          refine ⟨_, rfl, _, rfl, qi, _, _, _, rfl, rfl, SqL.of rj, row_at hj, _, _, rfl, rfl, _, rfl, ?_⟩
          rw [ej]
          by_cases lt : g i m + g m j < g i j
          · rw [decide_eq_true lt]
            refine iteT ⟨_, rfl, _, rfl, _, rfl, th, _, _, _, rfl, rfl, SqL.of h5, row_at hj, _, _, rfl, rfl, ?_⟩
            refine ⟨_, rfl, _, rfl, qi, _, _, _, rfl, rfl, rj, row_ix hj, ?_⟩
            refine ⟨_, rfl, r5.same hqi e5, (r5.put hqi).congr fun x y hx hy => ?_, by rw [upd_ne (nt qi (List.mem_cons_of_mem _ (List.mem_of_getElem? hqi)))]; exact h5⟩
            unfold mid
            by_cases z : x = i ∧ y = j
            · obtain ⟨rfl, rfl⟩ := z
              rw [if_pos ⟨rfl, rfl⟩, if_pos (by omega)]
              unfold via
              rw [if_pos lt]
            · rw [if_neg z]
              by_cases z1 : x < i ∨ (x = i ∧ y < j)
              · rw [if_pos z1, if_pos (by omega)]
              · rw [if_neg z1, if_neg (by omega)]
          · rw [decide_eq_false lt]
            refine iteF ⟨_, rfl, e5, r5.congr fun x y hx hy => ?_, h5⟩
            unfold mid
            by_cases z : x = i ∧ y = j
            · obtain ⟨rfl, rfl⟩ := z
              rw [if_neg (by omega), if_pos (by omega)]
              unfold via
              rw [if_neg lt]
            · by_cases z1 : x < i ∨ (x = i ∧ y < j)
              · rw [if_pos z1, if_pos (by omega)]
              · rw [if_neg z1, if_neg (by omega)]
        · rintro _ H5 ⟨c7, rfl, e5, r5, h5⟩
          refine ⟨_, _, _, _, rfl, e5, r5.congr fun x y hx hy => ?_, h5⟩
          unfold mid
          by_cases z1 : x < i ∨ (x = i ∧ y < n)
          · rw [if_pos z1, if_pos (by omega)]
          · rw [if_neg z1, if_neg (by omega)]
      · rintro _ H4 ⟨c4, c5, c6, c7, rfl, e4, r4, h4⟩
        refine ⟨_, _, _, _, _, _, rfl, e4, ?_⟩
        refine r4.congr fun i j hi hj => ?_
        unfold mid
        rw [if_pos (.inl hi), ← hg]
        rfl
    · rintro _ H2 ⟨c2, c3, c4, c5, c6, c7, rfl, e2, r2⟩
      exact ⟨_, rfl, k H2 p qs e2 r2⟩
end
end K53

set_option Elab.async false
set_option linter.all false
set_option maxRecDepth 100000
set_option maxHeartbeats 4000000
namespace Ew
open PySem PySem.Spec PyProof.Rows L2
open PySem.W (EachIs AllAlike Sortable dataLe dataKind SortsAt)
/-! ### sorted of keys that are tuples -/
def keyD : Key → PyData
  | .inl n => .int n
  | .inr s => .str s
def keyP (k : List Key) : PyData := .tuple (k.map keyD)
/-- keys, and where each stands -/
abbrev KAs := List (List Key × Addr)
def srt (ps : KAs) : KAs := ps.mergeSort (dataLe false fun q => keyP q.1)
def refsOf (ps : KAs) : List V := ps.map fun q => V.ref q.2
theorem dp_keys {K : PySem.W.Frag} {H : Hp} : ∀ k : List Key, DpAll K H (k.map kV) (k.map keyD)
  | [] => .nil
  | .inl n :: k => .cons (.int n) (dp_keys k)
  | .inr s :: k => .cons (.str s) (dp_keys k)
theorem dp_key {K : PySem.W.Frag} {H : Hp} {b : Addr} {k : List Key} (h : SqT K H b (k.map kV)) : Dp K H (.ref b) (keyP k) := .tup h (dp_keys k)
theorem depth_keys : ∀ k : List Key, PyData.depthAll (k.map keyD) = 0
  | [] => by rw [List.map_nil, PyData.depthAll]
  | .inl n :: k => by rw [List.map_cons, PyData.depthAll, depth_keys k]; rfl
  | .inr s :: k => by rw [List.map_cons, PyData.depthAll, depth_keys k]; rfl
theorem depth_key (k : List Key) : (keyP k).depth ≤ 1 := by
  unfold keyP
  rw [PyData.depth, depth_keys]
  exact Nat.le_refl _
theorem each_refs {R : Value → List Key × Addr → Prop} : ∀ {vs : List Value} {ps : KAs}, vs = ps.map (fun q => Value.ref q.2) → (∀ q ∈ ps, R (.ref q.2) q) → EachIs R vs ps
  | _, [], rfl, _ => .nil
  | _, q :: ps, rfl, h => .cons (h q List.mem_cons_self) (each_refs rfl fun x hx => h x (List.mem_cons_of_mem _ hx))
theorem refs_each : ∀ {vs : List Value} {ps : KAs}, EachIs (fun v q => v = Value.ref q.2) vs ps → Vals (refsOf ps) vs
  | _, _, .nil => .nil
  | _, _, .cons rfl h => .cons rfl (refs_each h)
theorem refs_vals : ∀ {ps : KAs} {us : List Value}, Vals (refsOf ps) us → us = ps.map fun q => Value.ref q.2
  | [], _, .nil => rfl
  | q :: ps, _, .cons rfl h => by rw [refs_vals h]; rfl
section
variable {X : Cx}
/-- sorted(xs), xs a list of such tuples -/
def rSortL (K : PySem.W.Frag) : List V → Hp → VK → Prop := fun vs H Q => ∃ (a : Addr) (ps : KAs), vs = [V.ref a] ∧ SqL K H a (refsOf ps) ∧ (∀ q ∈ ps, SqT K H q.2 (q.1.map kV)) ∧ AllAlike (ps.map fun q => keyP q.1) ∧ Sortable (ps.map fun q => keyP q.1) ∧
  ∀ p, H p = none → Q (.ref p) (upd H p (.lst (refsOf (srt ps))))
theorem call_sortL (hu : X.A.units + 64 < cLine) : CallR X (.builtin "sorted") (rSortL X.K) := by
  intro pins s σ H vs us Q I r h
  obtain ⟨a, ps, rfl, hs, hx, hal, hk, q⟩ := h
  obtain ⟨its, rv, hl, hz⟩ := I.list hs
  obtain ⟨u, rfl, ru⟩ := vals1 r
  obtain rfl : u = Value.ref a := ru
  have ei := refs_vals rv
  have lz : ps.length ≤ sizeLine := by unfold refsOf at hz; rwa [List.length_map] at hz
  have rd : ∀ q ∈ ps, ∃ as, Reads s.heap (.ref q.2) (keyP q.1) as := fun q hq => Dp.reads I _ _ _ (dp_key (hx q hq)) rfl
  refine PySem.W.sorted_data (R := fun v q => v = Value.ref q.2) (enc := fun q : List Key × Addr => keyP q.1) hl.isList (each_refs ei fun _ _ => rfl) (each_refs ei fun q hq => rd q hq) hal hk lz (fun b _ => ?_) fun out ho hR => ?_
  · have := depth_key b.1
    show X.A.units + 2 + (keyP b.1).depth < cLine
    omega
  · obtain ⟨n, hn⟩ := sortedAll_at s.heap its out.toArray
    refine ⟨.ref _, upd H (s.heap.objs.size + 1) (.lst (refsOf (srt ps))), I.laid (t' := s.toks) (fun b o e => sortedAll_old e) (Nat.le_succ _) ⟨?_, out, n, refs_each hR, hn⟩, rfl, q _ (I.hok.fresh (Nat.le_succ _))⟩
    unfold refsOf srt
    rw [List.length_map, List.length_mergeSort]
    exact lz
end
/-! ### the keys of a dict, collected -/
section
variable {P : Program} {w : World} {A : Around} {E : Value → Shared → Prop} {s : Shared} {d : Addr} {o : Obj} {es : Array DictEntry} {ep : Nat}
theorem collect_keys {R : List Value → Shared → Prop} (hh : A.handled = none) (lo : (d == sysModules) = false) (hx : o.ExactDict) (hd : o.data = .dict es ep) (ho : s.heap.get? d = some o) (hn : es.size ≤ sizeLine)
    (h : ∀ (h' : Heap) (tk : Nat) (vs : List Value), (∀ b u, s.heap.get? b = some u → h'.get? b = some u) → s.heap.objs.size ≤ h'.objs.size → vs.length = es.size → (∀ (i : Nat) v, vs[i]? = some v → ∃ en : DictEntry, es[i]? = some en ∧ v = en.key) → R vs { s with heap := h', toks := tk }) :
    wpAny (model P w) A (collect (.ref d)) R E s := by
  have below : d < s.heap.objs.size := Heap.lt_size ho
  unfold collect
  refine wpAny_bind
    (wpAny_runValue (codeAny_builtin PySem.F.entry_proto_collect ?_))
  rw [Around.under_plainId
    PySem.F.plain_proto_collect _]
  show wpAny _ A.in1 (newList [] >>= fun l => again (.builtin "list.__iadd__" ⟨[l, .ref d], []⟩)) _ _ s
  refine wpAny_bind
    (wpAny_newObj_type (wpAny_pure ⟨plainId_quiet PySem.F.plain_list_iadd _, codeAny_builtin PySem.F.entry_list_iadd ?_⟩))
  rw [Around.under_plainId
    PySem.F.plain_list_iadd _]
  have at0 : (s.heap.push { cls := .type "list", data := .seq ([] : List Value).toArray }).get? s.heap.objs.size = some { cls := .type "list", data := .seq #[] } := Heap.get?_push_size _ rfl
  show wpAny _ A.in1 (Builtin.List.listExtendWith (.ref s.heap.objs.size) (.ref d) (.ref s.heap.objs.size)) _ _ _
  have run := PySem.W.kdl_extend (prog := P) (w := w) (A := A) (s := { s with heap := s.heap.push { cls := .type "list", data := .seq ([] : List Value).toArray } })
    (R := fun (q : Result) (s' : Shared) => ∃ (h' : Heap) (tk : Nat) (acc : Array Value) (c : Nat), q = .ok (.ret (.ref s.heap.objs.size)) ∧ s' = { s with heap := h', toks := tk } ∧
      (∀ b u, s.heap.get? b = some u → h'.get? b = some u) ∧ h'.get? s.heap.objs.size = some { cls := .type "list", dict := none, data := .seq acc c, slots := #[] } ∧ ItemsOf (fun i v => ∃ en : DictEntry, es[i]? = some en ∧ v = en.key) acc es.size)
    (kdl_raw (prog := P) (w := w) lo hx hd) hh (Heap.get?_push_of_some _ ho) s.heap.objs.size (Nat.ne_of_gt below) (Nat.ne_of_gt below) (.ref s.heap.objs.size) 0 at0
    (fun h' tk acc c k e it => ⟨h', tk, acc, c, rfl, rfl, fun b u z => k b u (Nat.ne_of_lt (Heap.lt_size z)) (Heap.get?_push_of_some _ z), e, it⟩) hn
  have fin : ∀ (q : Result) (s' : Shared), (∃ (h' : Heap) (tk : Nat) (acc : Array Value) (c : Nat), q = .ok (.ret (.ref s.heap.objs.size)) ∧ s' = { s with heap := h', toks := tk } ∧
      (∀ b u, s.heap.get? b = some u → h'.get? b = some u) ∧ h'.get? s.heap.objs.size = some { cls := .type "list", dict := none, data := .seq acc c, slots := #[] } ∧ ItemsOf (fun i v => ∃ en : DictEntry, es[i]? = some en ∧ v = en.key) acc es.size) →
      q = .ok (.ret (.ref s.heap.objs.size)) ∧ wpAny (model P w) A (do let o ← load s.heap.objs.size; match o.data with | .seq xs _ => pure xs.toList | _ => unsupported "internal:collect") R E s' := by
    rintro q s' ⟨h', tk, acc, c, rfl, rfl, k, e, it⟩
    refine ⟨rfl, wpAny_bind (wpAny_load e (wpAny_pure ?_))⟩
    exact h h' tk acc.toList k (Nat.le_of_lt (Heap.lt_size e)) (by rw [Array.length_toList]; exact it.1) fun i v z => it.2 i v (by rw [← Array.getElem?_toList]; exact z)
  refine wpAny_mono run (fun f s' z => ?_) fun e s' z => ?_
  · cases f with
    | done f =>
      have y := fin _ s' z
      cases y.1
      exact y.2
    | again c =>
      refine ⟨z.1, codeAny_mono z.2 fun q s2 y => ?_⟩
      have y2 := fin _ s2 y
      cases y2.1
      exact y2.2
  · obtain ⟨_, _, _, _, e, _⟩ := z
    cases e
end
/-! ### a new list of such tuples, sorted -/
section
variable {P : Program} {w : World} {A : Around} {E : Value → Shared → Prop} {s : Shared}
theorem sort_fresh {vs : List Value} {ps : KAs} {Q : Value → Shared → Prop} (hv : vs = ps.map fun q => Value.ref q.2) (rd : ∀ q ∈ ps, ∃ as, Reads s.heap (.ref q.2) (keyP q.1) as) (hal : AllAlike (ps.map fun q => keyP q.1)) (hk : Sortable (ps.map fun q => keyP q.1))
    (hL : ps.length ≤ sizeLine) (hu : A.units + 3 < cLine) (h : ∀ (h' : Heap) (out : List Value) (n : Nat), Vals (refsOf (srt ps)) out → (∀ b u, s.heap.get? b = some u → h'.get? b = some u) → h'.get? s.heap.objs.size = some (seqObj "list" out.toArray n) → Q .none { s with heap := h' }) :
    wpAny (model P w) A (call (.builtin "list.sort") [.ref s.heap.objs.size]) Q E { s with heap := s.heap.push (seqObj "list" vs.toArray 0) } := by
  have ho : (s.heap.push (seqObj "list" vs.toArray 0)).get? s.heap.objs.size = some (seqObj "list" vs.toArray 0) := Heap.get?_push_size _ rfl
  have old : ∀ b u, s.heap.get? b = some u → (s.heap.push (seqObj "list" vs.toArray 0)).get? b = some u := fun b u e => Heap.get?_push_of_some _ e
  generalize s.heap.push (seqObj "list" vs.toArray 0) = H1 at ho old ⊢
  have rd1 : EachIs (fun v q => ∃ as, Reads (PySem.W.sortingHeap H1 s.heap.objs.size vs) v (keyP q.1) as) vs ps := each_refs hv fun q hq => by
    obtain ⟨as, r⟩ := rd q hq
    exact ⟨as, PyProof.Rows.Reads.keeps (fun b u e => PySem.W.sortingHeap_old (Nat.ne_of_lt (Heap.lt_size e)) (old b u e)) r⟩
  have e0 : EachIs (fun v q => v = Value.ref q.2) vs ps := each_refs hv fun _ _ => rfl
  have srtAt : SortsAt P w A.in1 { s with heap := PySem.W.sortingHeap H1 s.heap.objs.size vs } (dataKind (PySem.W.sortingHeap H1 s.heap.objs.size vs) (ps.map fun q => keyP q.1)) vs :=
    SortsAt.data (s := { s with heap := PySem.W.sortingHeap H1 s.heap.objs.size vs })
      (PySem.W.each_map (R := fun v d => ∃ as, Reads (PySem.W.sortingHeap H1 s.heap.objs.size vs) v d as) (fun q : List Key × Addr => keyP q.1) rd1) hal hk fun d hd => by
        obtain ⟨q, _, rfl⟩ := List.mem_map.mp hd
        have := depth_key q.1
        show A.units + 1 + (keyP q.1).depth < cLine
        omega
  refine wpAny_call_entry slot_list_sort ⟨_, ho, rfl⟩ entry_list_sort
    (PySem.W.list_sort_vals ho srtAt (by rw [e0.length]; exact hL) ⟨.none, rfl, ?_⟩) (args_list_sort _)
  obtain ⟨n, hn⟩ := sortedHeap_at (vs := vs) (out := (PySem.W.sortVals (dataKind (PySem.W.sortingHeap H1 s.heap.objs.size vs) (ps.map fun q => keyP q.1)) false vs vs).toArray) ho
  refine h _ _ n (refs_each (PySem.W.sortVals_data false e0 rd1 hal)) (fun b u e => ?_) hn
  rw [sortedHeap_old (Nat.ne_of_lt (Heap.lt_size e)) (Heap.lt_size (old b u e))]
  exact old b u e
end
/-! ### sorted of such a dict -/
section
variable {X : Cx}
theorem keys_alike {H : Hp} : ∀ {kvs : List (List Key × V)} {bs : List Addr}, IsKeys H kvs bs → ((kvs.map (·.1)).zip bs).map (·.1) = kvs.map (·.1) ∧ ((kvs.map (·.1)).zip bs).map (·.2) = bs ∧ ∀ q ∈ (kvs.map (·.1)).zip bs, H q.2 = some (.tup (q.1.map kV))
  | _, _, .nil => ⟨rfl, rfl, fun q h => by cases h⟩
  | c :: kvs, b :: bs, .cons h t => by
    obtain ⟨h1, h2, h3⟩ := keys_alike t
    rw [List.map_cons, List.zip_cons_cons]
    refine ⟨by rw [List.map_cons, h1], by rw [List.map_cons, h2], fun q hq => ?_⟩
    rcases List.mem_cons.mp hq with rfl | hq
    · exact h
    · exact h3 q hq
def rSortD : List V → Hp → VK → Prop := fun vs H Q => ∃ (d : Addr) (kvs : List (List Key × V)), vs = [.ref d] ∧ H d = some (.dT kvs) ∧ AllAlike (kvs.map fun c => keyP c.1) ∧ Sortable (kvs.map fun c => keyP c.1) ∧
  ∀ p bs, H p = none → IsKeys H kvs bs → Q (.ref p) (upd H p (.lst (refsOf (srt ((kvs.map (·.1)).zip bs)))))
theorem call_sortD (hc : X.calm = true) (hu : X.A.units + 64 < cLine) : CallR X (.builtin "sorted") rSortD := by
  intro pins s σ H vs us Q I r h
  obtain ⟨d, kvs, rfl, hd, hal, hk, q⟩ := h
  obtain ⟨u, rfl, rx⟩ := r.one
  cases rx
  obtain ⟨z, hs, ks, pr, o, es, ep, ho, hx, hdt, he, hn⟩ := dt_of I.hok hd
  have l1 : es.size = ks.length := size_of_entries he
  have l2 : kvs.length = ks.length := Paired.length pr
  have ik := isKeys_of pr
  obtain ⟨k1, k2, k3⟩ := keys_alike ik
  generalize eB : ks.map (fun x => x.2.1) = bs at ik k1 k2 k3
  refine Calls.call_function_entry kind_sorted plain_sorted
    entry_sorted (args_sorted1 _) ?_
  unfold Builtin.«sorted»
  refine wpAny_bind (m := checkCount "sorted" 1 1 _)
    (wpAny_pure (wpAny_bind (collect_keys (A := X.A.in1) (show X.A.in1.handled = none from I.ok.hd hc) hs hx hdt ho (by omega) fun h' tk vs kp big vl it => ?_)))
  have ev : vs = ((kvs.map (·.1)).zip bs).map fun q => Value.ref q.2 := by
    have : ((kvs.map (·.1)).zip bs).map (fun q => Value.ref q.2) = (((kvs.map (·.1)).zip bs).map (·.2)).map Value.ref := by rw [List.map_map]; rfl
    rw [this, k2, ← eB, List.map_map]
    apply List.ext_getElem?
    intro j
    rw [List.getElem?_map]
    cases hj : vs[j]? with
    | none =>
      have h1 := List.getElem?_eq_none_iff.mp hj
      rw [List.getElem?_eq_none (by omega)]
      all_goals rfl
    | some v =>
      obtain ⟨en, hen, hv⟩ := it j v hj
      have qe := entry_at he j
      rw [hen] at qe
      cases hb : ks[j]? with
      | none =>
        rw [hb] at qe
        exact nomatch (show some en = none from qe)
      | some b =>
        rw [hb] at qe
        have e2 : en = entryOfKey (tupleKind (mixKind X.prog X.w)) b := Option.some.inj qe
        rw [hv, e2]
        all_goals rfl
  have hz : ((kvs.map (·.1)).zip bs).length = kvs.length := by rw [← List.length_map (f := (·.1)), k1, List.length_map]
  have el : vs.length = kvs.length := by rw [ev, List.length_map, hz]
  refine wpAny_bind (wpAny_newList ?_ (by omega))
  have al2 : ((kvs.map (·.1)).zip bs).map (fun q => keyP q.1) = kvs.map fun c => keyP c.1 := by
    have : ((kvs.map (·.1)).zip bs).map (fun q => keyP q.1) = (((kvs.map (·.1)).zip bs).map (·.1)).map keyP := by rw [List.map_map]; rfl
    rw [this, k1, List.map_map]
    rfl
  have rd : ∀ q ∈ (kvs.map (·.1)).zip bs, ∃ as, Reads h' (.ref q.2) (keyP q.1) as := fun q hq => by
    obtain ⟨as, r⟩ := Dp.reads I _ _ _ (dp_key (SqT.of (k3 q hq))) rfl
    exact ⟨as, PyProof.Rows.Reads.keeps kp r⟩
  refine wpAny_bind (wpAny_holding (sort_fresh (s := { s with heap := h', toks := tk }) ev rd (by rw [al2]; exact hal) (by rw [al2]; exact hk) (by omega) (by show X.A.units + 1 + 3 < cLine; omega) fun h2 out n rv kp2 at2 => ?_))
  refine wpAny_pure ⟨_, rfl, .ref h'.objs.size, upd H h'.objs.size (.lst (refsOf (srt ((kvs.map (·.1)).zip bs)))), ?_, rfl, q _ bs (I.hok.fresh ?_) ik⟩
  · refine I.laid (t' := tk) (fun b u e => kp2 b u (kp b u e)) ?_ ⟨?_, out, n, rv, at2⟩
    · exact big
    · unfold refsOf srt
      rw [List.length_map, List.length_mergeSort]
      omega
  · exact big
end
end Ew

set_option Elab.async false
set_option linter.all false
set_option maxRecDepth 100000
set_option maxHeartbeats 4000000
namespace Ew
open PySem PySem.Spec PyProof.Rows L2
section
variable {F H F' H' F2 H2 : Hp} {J : It} {n : Nat} {G : Hp → Prop} {Y : Nat → Hp → V → Hp → Prop}
/-- [.. for x in xs if ..], nothing is changed: the turns that are kept give an item each -/
theorem lcF (w : Walk J n G Y) {g : TG} {tt : TT} {te : TE} {vs : List Nat} {σ : L2.St} {D : Addr} {Qd : Hp → Prop} (keep : Nat → Bool) (hf : Same F H) (hD : H D = none) (R : Nat → Hp → V → Prop) (hR : ∀ i F F' y, Same F F' → R i F y → R i F' y)
    (hn : n ≤ 1000000) (hG : ∀ F' H', Same F F' → Same F' H' → G H')
    (hs : ∀ i x F' H' H'' (Kt : VK) (Kn : Hp → Prop), i < n → Stp F H F' H' → Y i H' x H'' → (keep i = true → ∀ y F4 H4, Stp F' H' F4 H4 → R i F4 y → Kt y H4) → (keep i = false → ∀ F4 H4, Stp F' H' F4 H4 → Kn H4) →
      g x (wipe σ vs) H'' fun σ2 H2 => wipe σ2 vs = wipe σ vs ∧ tt σ2 H2 fun b H3 => if b = true then te σ2 H3 Kt else Kn H3)
    (hd : ∀ F' H' ys, Stp F H F' H' → F' D = some (.lst ys) → Paired (fun y i => R i F' y) ys ((List.range n).filter keep) → Qd H') :
    ∃ W : Nat → Nat → Hp → Prop, (∃ k, W 0 k (upd H D (.lst []))) ∧ ∀ i k H, W i k H →
      (J.stop i H ∧ Qd H) ∨ (J.go i H ∧ ∃ Nx : Hp → Prop, (∀ H', Nx H' → ∃ k', k' < k ∧ W (i + 1) k' H') ∧ ∀ x H', J.yld i H x H' → g x (wipe σ vs) H' fun σ2 H2 => wipe σ2 vs = wipe σ vs ∧ tt σ2 H2 fun b H3 =>
        if b = true then te σ2 H3 fun y H4 => ∃ acc, H4 D = some (.lst acc) ∧ acc.length < sizeLine ∧ Nx (upd H4 D (.lst (acc ++ [y]))) else Nx H3) := by
  have fD : F D = none := hf.free hD
  have step : ∀ i, (List.range (i + 1)).filter keep = (List.range i).filter keep ++ if keep i = true then [i] else [] := fun i => by
    rw [List.range_succ, List.filter_append]
    congr 1
    cases q : keep i <;> simp [q]
  refine lc_it w (fun i H' => ∃ F' acc, Stp F H F' H' ∧ F' D = none ∧ H' D = some (.lst acc) ∧ Paired (fun y i => R i F' y) acc ((List.range i).filter keep)) ?_ ?_ ?_ ?_
  · exact ⟨F, [], (Stm.refl hf).raw hD hD, fD, upd_same, .nil⟩
  · rintro i H' _ ⟨F', acc, s, _⟩
    exact hG F' H' s.ff s.fh
  · rintro i x H' H'' hi ⟨F', acc, s, f', h', pr⟩ y
    refine hs i x F' H' H'' _ _ hi s y (fun kp y F4 H4 s4 r4 => ?_) fun kp F4 H4 s4 => ?_
    · have f4 : F4 D = none := s4.nw D f' (by rw [h']; exact fun z => nomatch z)
      have h4 : H4 D = some (.lst acc) := s4.hh D _ (fun z => z) h'
      have al : acc.length ≤ i := by
        have e := Paired.length pr
        have := List.length_filter_le keep (List.range i)
        rw [List.length_range] at this
        omega
      refine ⟨acc, h4, by rw [sizeLine_eq]; omega, F4, acc ++ [y], (s.transP s4).mut f4 hD, f4, upd_same, ?_⟩
      rw [step i, if_pos kp]
      exact Paired.snoc (Paired.mapP pr fun a b z => hR _ _ _ _ s4.ff z) r4
    · refine ⟨F4, acc, s.transP s4, s4.nw D f' (by rw [h']; exact fun z => nomatch z), s4.hh D _ (fun z => z) h', ?_⟩
      rw [step i, if_neg (by rw [kp]; decide), List.append_nil]
      exact Paired.mapP pr fun a b z => hR _ _ _ _ s4.ff z
  · rintro H' ⟨F', acc, s, f', h', pr⟩
    exact hd (upd F' D (.lst acc)) H' acc (s.freeze f' hD h') upd_same (Paired.mapP pr fun a b z => hR _ _ _ _ (same_new f') z)
end
end Ew

set_option Elab.async false
set_option linter.all false
set_option maxRecDepth 100000
set_option maxHeartbeats 4000000
namespace K53
open PySem PySem.Spec PyProof.Rows L2 Ew
section
variable {P : Program} {w : World} {K : PySem.W.Frag} {mg : Str → Option Value} {base : Heap} {a : Ad}
theorem Sps.at_ {t : Bool} {H : Hp} {p : Addr} {ps : List Spot} (h : Sps K t H p ps) {i : Nat} (hi : i < ps.length) : ∃ us u s, Sq K t H p us ∧ us.length = ps.length ∧ ps[i]? = some s ∧ Spt K H u s ∧ atI us ((0 : Int) + (i : Nat)) = some u := by
  obtain ⟨us, h1, h2⟩ := h
  have hl := Paired.length h2
  obtain ⟨u, hu⟩ : ∃ u, us[i]? = some u := ⟨_, List.getElem?_eq_getElem (by omega)⟩
  obtain ⟨s, hs, hq⟩ := paired_get h2 hu
  refine ⟨us, u, s, h1, hl, hs, hq, atI_int (by omega) (by omega) ?_⟩
  have : ((0 : Int) + (i : Nat)).toNat = i := by omega
  rw [this, hu]
theorem Tb.at_ {t : Bool} {H : Hp} {p : Addr} {n : Nat} {f : Tb2} (h : Tb K t H (.ref p) n f) {i : Nat} (hi : i < n) : ∃ us q, Sq K t H p us ∧ us.length = n ∧ Sq K t H q (rowV n (f i)) ∧ atI us ((0 : Int) + (i : Nat)) = some (.ref q) := by
  obtain ⟨_, us, er, h1, hl, h2⟩ := h
  cases er
  obtain ⟨u, hu⟩ : ∃ u, us[i]? = some u := ⟨_, List.getElem?_eq_getElem (by omega)⟩
  obtain ⟨q, rfl, hq⟩ := h2 i u hu
  refine ⟨us, q, h1, hl, hq, atI_int (by omega) (by omega) ?_⟩
  have : ((0 : Int) + (i : Nat)).toNat = i := by omega
  rw [this, hu]
end
end K53

set_option Elab.async false
set_option linter.all false
set_option maxRecDepth 100000
set_option maxHeartbeats 4000000
namespace Ew
open PySem PySem.Spec PyProof.Rows L2
/-- what is never written stays -/
def TS (H H' : Hp) : Prop := ∀ p o, H p = some o → ¬ Mut (some o) → H' p = some o
section
variable {H H' H2 F F' : Hp} {K : PySem.W.Frag} {v : V} {p : Addr} {o : HO}
theorem TS.refl : TS H H := fun _ _ e _ => e
theorem Same.ts (e : Same H H') : TS H H' := fun p o h _ => e p o h
theorem TS.trans (a : TS H H') (b : TS H' H2) : TS H H2 := fun p o e n => b p o (a p o e n) n
theorem TS.upd (a : TS H H') (h : ∀ u, H p = some u → Mut (some u)) : TS H (upd H' p o) := fun x u e n => by
  have ne : x ≠ p := fun z => n (h u (by rw [← z]; exact e))
  rw [upd_ne ne]
  exact a x u e n
theorem TS.new (hp : H p = none) : TS H (L2.upd H p o) := TS.refl.upd fun u e => by rw [hp] at e; cases e
theorem sqT_ts {xs : List V} (e : TS H H') (h : SqT K H p xs) : SqT K H' p xs := by
  rcases h with (h | ⟨o, h⟩) | h
  · exact .inl (.inl (e _ _ h (fun z => z)))
  · exact .inl (.inr ⟨o, e _ _ h (fun z => z)⟩)
  · exact .inr h
theorem Rt.ts {r : Int × Int} (h : Rt K H v r) (e : TS H H') : Rt K H' v r := by obtain ⟨p, h1, h2⟩ := h; exact ⟨p, h1, sqT_ts e h2⟩
theorem tup_ts {xs : List V} (e : TS H H') (h : H p = some (.tup xs)) : H' p = some (.tup xs) := e _ _ h (fun z => z)
theorem frz_ts {u : Obj} (e : TS H H') (h : H p = some (.frz u o)) : H' p = some (.frz u o) := e _ _ h (fun z => z)
end
section
variable {F H F' H' F2 H2 : Hp} {J : It} {n : Nat} {G : Hp → Prop} {Y : Nat → Hp → V → Hp → Prop}
/-- the same as lcF, of each item something is known of the heap as it is -/
theorem lcH (w : Walk J n G Y) {g : TG} {tt : TT} {te : TE} {vs : List Nat} {σ : L2.St} {D : Addr} {Qd : Hp → Prop} (keep : Nat → Bool) (hf : Same F H) (hD : H D = none) (R : Nat → Hp → V → Prop) (hR : ∀ i H H' y, TS H H' → R i H y → R i H' y)
    (hn : n ≤ 1000000) (hG : ∀ F' H', Same F F' → Same F' H' → Same H H' → G H')
    (hs : ∀ i x F' H' H'' (Kt : VK) (Kn : Hp → Prop), i < n → Stp F H F' H' → Y i H' x H'' → (keep i = true → ∀ y F4 H4, Stp F' H' F4 H4 → R i H4 y → Kt y H4) → (keep i = false → ∀ F4 H4, Stp F' H' F4 H4 → Kn H4) →
      g x (wipe σ vs) H'' fun σ2 H2 => wipe σ2 vs = wipe σ vs ∧ tt σ2 H2 fun b H3 => if b = true then te σ2 H3 Kt else Kn H3)
    (hd : ∀ F' H' ys, Stp F H F' H' → F' D = some (.lst ys) → Paired (fun y i => R i H' y) ys ((List.range n).filter keep) → Qd H') :
    ∃ W : Nat → Nat → Hp → Prop, (∃ k, W 0 k (upd H D (.lst []))) ∧ ∀ i k H, W i k H →
      (J.stop i H ∧ Qd H) ∨ (J.go i H ∧ ∃ Nx : Hp → Prop, (∀ H', Nx H' → ∃ k', k' < k ∧ W (i + 1) k' H') ∧ ∀ x H', J.yld i H x H' → g x (wipe σ vs) H' fun σ2 H2 => wipe σ2 vs = wipe σ vs ∧ tt σ2 H2 fun b H3 =>
        if b = true then te σ2 H3 fun y H4 => ∃ acc, H4 D = some (.lst acc) ∧ acc.length < sizeLine ∧ Nx (upd H4 D (.lst (acc ++ [y]))) else Nx H3) := by
  have fD : F D = none := hf.free hD
  have step : ∀ i, (List.range (i + 1)).filter keep = (List.range i).filter keep ++ if keep i = true then [i] else [] := fun i => by
    rw [List.range_succ, List.filter_append]
    congr 1
    cases q : keep i <;> simp [q]
  refine lc_it w (fun i H' => ∃ F' acc, Stp F H F' H' ∧ F' D = none ∧ H' D = some (.lst acc) ∧ Paired (fun y i => R i H' y) acc ((List.range i).filter keep)) ?_ ?_ ?_ ?_
  · exact ⟨F, [], (Stm.refl hf).raw hD hD, fD, upd_same, .nil⟩
  · rintro i H' _ ⟨F', acc, s, _⟩
    exact hG F' H' s.ff s.fh s.same
  · rintro i x H' H'' hi ⟨F', acc, s, f', h', pr⟩ y
    refine hs i x F' H' H'' _ _ hi s y (fun kp y F4 H4 s4 r4 => ?_) fun kp F4 H4 s4 => ?_
    · have f4 : F4 D = none := s4.nw D f' (by rw [h']; exact fun z => nomatch z)
      have h4 : H4 D = some (.lst acc) := s4.hh D _ (fun z => z) h'
      have al : acc.length ≤ i := by
        have e := Paired.length pr
        have := List.length_filter_le keep (List.range i)
        rw [List.length_range] at this
        omega
      have mu : ∀ u, H4 D = some u → Mut (some u) := fun u e => by rw [h4] at e; cases e; exact trivial
      refine ⟨acc, h4, by rw [sizeLine_eq]; omega, F4, acc ++ [y], (s.transP s4).mut f4 hD, f4, upd_same, ?_⟩
      rw [step i, if_pos kp]
      exact Paired.snoc (Paired.mapP pr fun a b z => hR _ _ _ _ ((Same.ts s4.same).trans (TS.refl.upd mu)) z) (hR _ _ _ _ (TS.refl.upd mu) r4)
    · refine ⟨F4, acc, s.transP s4, s4.nw D f' (by rw [h']; exact fun z => nomatch z), s4.hh D _ (fun z => z) h', ?_⟩
      rw [step i, if_neg (by rw [kp]; decide), List.append_nil]
      exact Paired.mapP pr fun a b z => hR _ _ _ _ (Same.ts s4.same) z
  · rintro H' ⟨F', acc, s, f', h', pr⟩
    exact hd (upd F' D (.lst acc)) H' acc (s.freeze f' hD h') upd_same pr
end
end Ew

set_option Elab.async false
set_option linter.all false
set_option maxRecDepth 100000
set_option maxHeartbeats 4000000
namespace K53
open PySem PySem.Spec PyProof.Rows L2 Ew
/-! ### links -/
abbrev Lnk := Spot × Spot × Int
def lkD (l : Lnk) : PyData := .tuple [spD l.1, spD l.2.1, .int l.2.2, .tuple [.str "card"]]
/-- a link at v -/
def Lk1 (K : PySem.W.Frag) (H : Hp) (v : V) (l : Lnk) : Prop := ∃ q u1 u2 c, v = .ref q ∧ SqT K H q [u1, u2, .int l.2.2, .ref c] ∧ Spt K H u1 l.1 ∧ Spt K H u2 l.2.1 ∧ SqT K H c [.str "card"]
section
variable {K : PySem.W.Frag} {H H' : Hp} {v : V} {l : Lnk}
theorem Spt.ts {s : Spot} (h : Spt K H v s) (e : Ew.TS H H') : Spt K H' v s := by obtain ⟨q, h1, h2⟩ := h; exact ⟨q, h1, tup_ts e h2⟩
theorem Lk1.ts (h : Lk1 K H v l) (e : Ew.TS H H') : Lk1 K H' v l := by
  obtain ⟨q, u1, u2, c, h1, h2, h3, h4, h5⟩ := h
  exact ⟨q, u1, u2, c, h1, sqT_ts e h2, h3.ts e, h4.ts e, sqT_ts e h5⟩
theorem Lk1.up (h : Lk1 K H v l) (e : Same H H') : Lk1 K H' v l := h.ts (Same.ts e)
theorem Lk1.dp (h : Lk1 K H v l) : Dp K H v (lkD l) := by
  obtain ⟨q, u1, u2, c, rfl, h2, h3, h4, h5⟩ := h
  exact .tup h2 (.cons h3.dp (.cons h4.dp (.cons (.int _) (.cons (.tup h5 (.cons (.str _) .nil)) .nil))))
theorem fl_lk (h1 : PyData.strOk l.1.1 = true) (h2 : PyData.strOk l.2.1.1 = true) : Fl 2 (lkD l) :=
  Fl.tup (.cons (fl_sp h1) (.cons (fl_sp h2) (.cons .int (.cons (Fl.tup (.cons (.str (by decide +kernel)) .nil)) .nil))))
theorem eqv_lk (l m : Lnk) : PyData.eqv (lkD l) (lkD m) = decide (l = m) := by
  obtain ⟨a, b, c⟩ := l
  obtain ⟨a', b', c'⟩ := m
  simp only [lkD, PyData.eqv, PyData.eqvAll, eqv_sp]
  by_cases h1 : a = a' <;> by_cases h2 : b = b' <;> by_cases h3 : c = c' <;> simp [h1, h2, h3]
theorem any_lk (ls : List Lnk) (l : Lnk) : ((ls.map lkD).any fun z => PyData.eqv z (lkD l)) = decide (l ∈ ls) := by
  induction ls with
  | nil => simp
  | cons m ls ih =>
    rw [List.map_cons, List.any_cons, ih, eqv_lk]
    by_cases h : m = l <;> by_cases h2 : l ∈ ls <;> simp [h, h2]
    exact fun z => h z.symm
theorem dpl {R : V → Lnk → Prop} {ys : List V} {ls : List Lnk} (h : Paired R ys ls) (k : ∀ v l, R v l → Dp K H v (lkD l)) : DpAll K H ys (ls.map lkD) := by
  induction h with
  | nil => exact .nil
  | cons h _ ih => exact .cons (k _ _ h) ih
theorem paired_map {α β : Type} {R : V → α → Prop} {R' : V → β → Prop} {g : α → β} {ys : List V} {xs : List α} (h : Paired R ys xs) (k : ∀ y x, R y x → R' y (g x)) : Paired R' ys (xs.map g) := by
  induction h with
  | nil => exact .nil
  | cons h _ ih => exact .cons (k _ _ h) ih
theorem paired_app {α : Type} {R : V → α → Prop} {ys zs : List V} {xs ws : List α} (h : Paired R ys xs) (k : Paired R zs ws) : Paired R (ys ++ zs) (xs ++ ws) := by
  induction h with
  | nil => exact k
  | cons h _ ih => exact .cons h ih
end
def sg (ps : List Spot) (i : Nat) : Spot := ps.getD i ground
theorem sg_at {ps : List Spot} {i : Nat} {s : Spot} (h : ps[i]? = some s) : sg ps i = s := by
  unfold sg
  rw [List.getD_eq_getElem?_getD, h]
  rfl
/-- the links of row i -/
def rowLk (ps : List Spot) (f : Tb2) (i : Nat) : List Lnk := ((List.range ps.length).filter fun j => decide (j ≠ i)).map fun j => (sg ps i, sg ps j, f i j)
def allLk (ps : List Spot) (f : Tb2) : Nat → List Lnk
  | 0 => []
  | i + 1 => allLk ps f i ++ rowLk ps f i
theorem rowLk_len {ps : List Spot} {f : Tb2} {i : Nat} : (rowLk ps f i).length ≤ ps.length := by
  unfold rowLk
  rw [List.length_map]
  have := List.length_filter_le (fun j => decide (j ≠ i)) (List.range ps.length)
  rwa [List.length_range] at this
theorem allLk_len {ps : List Spot} {f : Tb2} : ∀ i, (allLk ps f i).length ≤ i * ps.length
  | 0 => Nat.zero_le _
  | i + 1 => by
    rw [allLk, List.length_append, Nat.succ_mul]
    have := allLk_len (ps := ps) (f := f) i
    have := rowLk_len (ps := ps) (f := f) (i := i)
    omega
theorem rowLk_mem {ps : List Spot} {f : Tb2} {i j : Nat} (hj : j < ps.length) (ne : j ≠ i) : (sg ps i, sg ps j, f i j) ∈ rowLk ps f i :=
  List.mem_map.mpr ⟨j, List.mem_filter.mpr ⟨List.mem_range.mpr hj, decide_eq_true ne⟩, rfl⟩
theorem allLk_mem {ps : List Spot} {f : Tb2} {i j : Nat} (hj : j < ps.length) (ne : j ≠ i) : ∀ n, i < n → (sg ps i, sg ps j, f i j) ∈ allLk ps f n
  | n + 1, h => by
    rw [allLk, List.mem_append]
    by_cases e : i = n
    · subst e
      exact .inr (rowLk_mem hj ne)
    · exact .inl (allLk_mem hj ne n (by omega))
theorem sg_ok {ps : List Spot} (ok : OkS ps) (i : Nat) : PyData.strOk (sg ps i).1 = true := by
  unfold sg
  rw [List.getD_eq_getElem?_getD]
  cases h : ps[i]? with
  | none => decide +kernel
  | some s => exact ok.ok s (List.mem_of_getElem? h)
theorem allLk_ok {ps : List Spot} {f : Tb2} (ok : OkS ps) : ∀ n, ∀ l ∈ allLk ps f n, PyData.strOk l.1.1 = true ∧ PyData.strOk l.2.1.1 = true
  | 0, _, h => nomatch h
  | n + 1, l, h => by
    rw [allLk, List.mem_append] at h
    rcases h with h | h
    · exact allLk_ok ok n l h
    · obtain ⟨j, _, rfl⟩ := List.mem_map.mp h
      exact ⟨sg_ok ok _, sg_ok ok _⟩
section
variable {P : Program} {w : World} {K : PySem.W.Frag} {mg : Str → Option Value} {base : Heap} {a : Ad}
def sp__law_card_links (K : PySem.W.Frag) : Sp := fun vs H Q _ => ∃ (p r : Addr) (ps : List Spot) (f : Tb2), vs = [.ref p, .ref r] ∧ Sps K false H p ps ∧ OkS ps ∧ Tb K false H (.ref r) ps.length f ∧
  ∀ H' l ys, Same H H' → H l = none → H' l = some (.lst ys) → Paired (fun v c => Lk1 K H' v c) ys (allLk ps f ps.length) → Q (.ref l) H'
theorem c__law_card_links (T : Txt K mg a) : Cl P w K mg base 1 "_law_card_links" P__law_card_links (sp__law_card_links K) [] :=
  T.d__law_card_links.cl sc__law_card_links (fun vs H Q E h => by obtain ⟨p, r, ps, f, rfl, _⟩ := h; rfl) fun f cdv A outer s H vs Q E hr h => by
    obtain ⟨p, r, ps, f, rfl, hps, ok, tb, k⟩ := h
    obtain ⟨us, hus, hpr⟩ := id hps
    have hul : us.length = ps.length := Paired.length hpr
    have n1000 := ok.le
    refine ⟨_, ((pss_cons (ps_set (i := 2) sc__law_card_links.nd rfl (Or.inl rfl) (pe_lst pa_nil))
 (pss_cons (ps_for (passes_of rfl) rfl (pi_range1 (by rfl) T.n_range (pa_cons (pe_callB call_len_seq (by rfl) T.n_len (by decide +kernel) (pa_cons (pv 0) pa_nil)) pa_nil)) (pg_name (i := 3) sc__law_card_links.nd rfl (Or.inr rfl))
 (pss_one (ps_expr (pe_bm PySem.F.plainAttrs_list PySem.F.slot_list_extend PySem.F.type_list_extend mt_extend (pv 2) (pa_cons (pe_lc (own := [("_law_b", 4)]) (g := (gName 4)) (by rfl) sc__law_card_links.nd (pi_range1 (by rfl) T.n_range (pa_cons (pe_callB call_len_seq (by rfl) T.n_len (by decide +kernel) (pa_cons (pv 0) pa_nil)) pa_nil)) (blkOk_by (own := [("_law_b", 4)]) (N := N__law_card_links) (sc := defScope s__law_card_links) (by decide +kernel)) (fun _ _ _ _ _ => (pg_name (i := 4) sc__law_card_links.nd rfl (Or.inl rfl) (hf := .inr rfl))) (fun _ _ _ _ _ => (pts_one (pt_cmpR op_ne (pv 4) (pv 3) (nomark _)))) (fun _ _ _ _ _ => (pe_tup (pa_cons (pe_ix (r := rIxL K) ix_list (pv 0) (pv 3) (fun _ _ => rfl)) (pa_cons (pe_ix (r := rIxL K) ix_list (pv 0) (pv 4) (fun _ _ => rfl)) (pa_cons (pe_ix (r := rIxL K) ix_list (pe_ix (r := rIxL K) ix_list (pv 1) (pv 3) (fun _ _ => rfl)) (pv 4) (fun _ _ => rfl)) (pa_cons (pe_tup (pa_cons pe_str pa_nil)) pa_nil))))))) pa_nil)))))
 (pss_one (ps_ret (pv 2)))))), ?_⟩
    refine ⟨by show 0 ≤ sizeLine; decide, fun L nL => ?_⟩
    have e0 := same_new (o := .lst []) nL
    refine ⟨_, rfl, p, us, rfl, .inl (upL e0 hus), _, rfl, by omega, by omega, ?_⟩
    rw [show (((us.length : Nat) : Int)).toNat = ps.length by omega]
    refine for_it walk_range (fun i σ' H' => ∃ c3 c4 ys, σ' = [some (.ref p), some (.ref r), some (.ref L), c3, c4] ∧ Same H H' ∧ H' L = some (.lst ys) ∧ Paired (fun v c => Lk1 K H' v c) ys (allLk ps f i)) ?_ (fun _ _ _ _ _ => trivial) ?_ ?_
    · exact ⟨none, none, [], rfl, e0, upd_same, .nil⟩
    · rintro i _ _ _ H2 hi ⟨c3, c4, ys, rfl, e2, hL, hy⟩ ⟨rfl, rfl⟩
      refine ⟨_, rfl, .inl ⟨rfl, _, SqL.of hL⟩, _, rfl, p, us, rfl, .inl (upL e2 hus), _, rfl, by omega, by omega, fun D hD => ?_⟩
      rw [show (((us.length : Nat) : Int)).toNat = ps.length by omega]
      refine lcF walk_range (fun j => decide (j ≠ i)) (.refl H2) hD (fun j F y => Lk1 K F y (sg ps i, sg ps j, f i j)) (fun _ _ _ _ e z => z.up e) (by omega) (fun _ _ _ _ => trivial) ?_ ?_
      · rintro j y F' _ H4 Kt Kn hj s4 ⟨rfl, rfl⟩ kt kn
        refine ⟨rfl, _, rfl, _, rfl, rfl, _, rfl, ?_⟩
        by_cases ji : j = i
        · subst ji
          refine iteN (by simp) ?_
          exact kn (by simp) _ _ (.refl s4.fh)
        · refine iteY (by simp; omega) ?_
          have e4 : Same H H4 := e2.trans (s4.ff.trans s4.fh)
          obtain ⟨u1, v1, s1, z1, _, z2, z3, z4⟩ := (hps.up (e2.trans s4.ff)).at_ hi
          obtain ⟨u2, v2, s2, y1, _, y2, y3, y4⟩ := (hps.up (e2.trans s4.ff)).at_ hj
          have z1 := z1.up s4.fh
          have y1 := y1.up s4.fh
          obtain ⟨rs3, qr3, hr3, _, hqr3, atr3⟩ := (tb.up e4).at_ hi
          refine ⟨_, rfl, _, rfl, p, _, _, _, rfl, rfl, z1, z4, _, rfl, _, rfl, p, _, _, _, rfl, rfl, y1, y4, ?_⟩
          refine ⟨_, rfl, _, rfl, r, rs3, _, _, rfl, rfl, hr3, atr3, _, rfl, qr3, _, _, _, rfl, rfl, hqr3, row_at hj, ?_⟩
          refine ⟨by show 1 ≤ sizeLine; decide, fun c1 n1 => ?_⟩
          refine ⟨by show 4 ≤ sizeLine; decide, fun c2 n2 => ?_⟩
          have s5 := (Stm.refl s4.fh).newP (o := .tup [.str "card"]) n1
          have s6 := s5.newP (o := .tup [v1, v2, .int (f i j), .ref c1]) n2
          have g1 : Same F' (upd (upd F' c1 (.tup [.str "card"])) c2 (.tup [v1, v2, .int (f i j), .ref c1])) := (same_new (s4.fh.free n1)).trans (same_new (s5.fh.free n2))
          exact kt (by simp [ji]) _ _ _ s6 ⟨c2, v1, v2, c1, rfl, sq_new, by rw [sg_at z2]; exact z3.up g1, by rw [sg_at y2]; exact y3.up g1, upT (same_new (s5.fh.free n2)) sq_new⟩
      · intro F3 H3 zs s3 hD3 pr3
        have e3 := s3.ff.trans s3.fh
        have hL3 := e3 _ _ hL
        have lz : zs.length ≤ ps.length := by
          rw [Paired.length pr3]
          have := List.length_filter_le (fun j => decide (j ≠ i)) (List.range ps.length)
          rwa [List.length_range] at this
        have ly : ys.length ≤ 1000 * 1000 := by
          rw [Paired.length hy]
          exact Nat.le_trans (allLk_len i) (Nat.mul_le_mul (by omega) n1000)
        have ts : Ew.TS H3 (upd H3 L (.lst (ys ++ zs))) := Ew.TS.refl.upd fun u e => by rw [hL3] at e; cases e; exact True.intro
        refine ⟨L, D, ys, zs, rfl, rfl, hL3, s3.fh _ _ hD3, by rw [sizeLine_eq]; omega, ?_⟩
        refine ⟨_, _, ys ++ zs, rfl, same_mut (e2.trans e3) nL, upd_same, ?_⟩
        rw [allLk]
        exact paired_app (Paired.mapP hy fun v c z => (z.up e3).ts ts) (paired_map pr3 fun y j z => (z.up s3.fh).ts ts)
    · rintro _ H2 ⟨c3, c4, ys, rfl, e2, hL, hy⟩
      exact ⟨_, rfl, k H2 L ys e2 nL hL hy⟩
end
end K53

set_option Elab.async false
set_option linter.all false
set_option maxRecDepth 100000
set_option maxHeartbeats 4000000
namespace K53
open PySem PySem.Spec PyProof.Rows L2 Ew
section
variable {P : Program} {w : World} {K : PySem.W.Frag} {mg : Str → Option Value} {base : Heap} {a : Ad}
theorem any_sp (ss : List Spot) (s : Spot) : ((ss.map spD).any fun z => PyData.eqv z (spD s)) = decide (s ∈ ss) := by
  induction ss with
  | nil => simp
  | cons m ls ih =>
    rw [List.map_cons, List.any_cons, ih, eqv_sp]
    by_cases h : m = s <;> by_cases h2 : s ∈ ls <;> simp [h, h2]
    exact fun z => h z.symm
theorem dps {R : V → Spot → Prop} {H : Hp} {ys : List V} {ls : List Spot} (h : Paired R ys ls) (k : ∀ v l, R v l → Dp K H v (spD l)) : DpAll K H ys (ls.map spD) := by
  induction h with
  | nil => exact .nil
  | cons h _ ih => exact .cons (k _ _ h) ih
end
end K53

set_option Elab.async false
set_option linter.all false
set_option maxRecDepth 100000
set_option maxHeartbeats 4000000
namespace K53
open PySem PySem.Spec PyProof.Rows L2 Ew
open SX (S)
def wordL : List (List Nat) := (["days", "base", "unit", "device", "feature", "role", "job", "procedure", "takes", "uses", "read", "by", "let", "be", "tell", "in", "judge", "good", "bad", "choose", "passed", "failed", "open", "repeat", "leave", "call", "stop", "end", "size", "offset", "news", "cert", "stand", "jolt", "edition", "strike", "told", "within", "sum", "product", "quotient", "card", "spot", "row", "ground", "nobody"] : List String).map fun x => x.toList.map Char.toNat
theorem e32 : (" " : Str) = S [32] := by decide +kernel
theorem e0 : ("" : Str) = S [] := by decide +kernel
/-- a row of texts -/
def tsL (ns : List (List Nat)) : List V := ns.map fun l => V.str (S l)
theorem inV_ts (n : List Nat) (ns : List (List Nat)) : inV (.str (S n)) (tsL ns) = decide (n ∈ ns) := by
  unfold inV tsL
  rw [List.any_map]
  induction ns with
  | nil => rfl
  | cons m r ih =>
    rw [List.any_cons, ih]
    show (S m == S n || _) = _
    rw [SX.S_beq_eq]
    by_cases h : m = n
    · subst h; simp
    · have h' : ¬ n = m := fun z => h z.symm
      simp [h, h']
theorem flat_ts (ns : List (List Nat)) : (tsL ns).all flatV = true := by
  unfold tsL
  rw [List.all_map, List.all_eq_true]
  intro _ _
  rfl
theorem join_flat : ∀ l : List (List Nat), TL.joinL [] l = l.flatten
  | [] => rfl
  | [p] => by simp [TL.joinL]
  | p :: q :: r => by
    show p ++ ([] ++ TL.joinL [] (q :: r)) = _
    rw [join_flat (q :: r)]
    simp
def Lt (n : List Nat) : Prop := ∀ c ∈ n, 97 ≤ c ∧ c ≤ 122
/-! ### names drawn -/
structure Nm (n : List Nat) : Prop where
  lt : Lt n
  ne : n ≠ []
  le : n.length ≤ 12
  nw : n ∉ wordL
def Nams (ns : List (List Nat)) : Prop := ns.Nodup ∧ ∀ n ∈ ns, Nm n
def alt (d : List Nat) (k s : Nat) : List Nat := d.take 2 ++ List.replicate (s + 1) 122 ++ [97 + k] ++ [97]
def nth (d : List Nat) (k : Nat) : Nat → List Nat
  | 0 => d
  | s + 1 => alt d k s
def Al6 (n : List Nat) (k : Nat) : Prop := n.length ≤ 6 ∨ ∃ p, n = p ++ [97 + k] ++ [97]
structure Nm8 (n : List Nat) : Prop where
  lt : Lt n
  ne : n ≠ []
  le : n.length ≤ 8
theorem alt_len (d : List Nat) (k s : Nat) : (alt d k s).length = (d.take 2).length + (s + 3) := by
  unfold alt
  simp
theorem alt_lt {d : List Nat} (h : Lt d) {k : Nat} (hk : k < 26) (s : Nat) : Lt (alt d k s) := by
  unfold alt
  intro c hc
  simp only [List.mem_append, List.mem_singleton, List.mem_replicate] at hc
  rcases hc with ((hc | hc) | hc) | hc
  · exact h c (List.mem_of_mem_take hc)
  · omega
  · omega
  · omega
theorem alt_nw (d : List Nat) (k s : Nat) : alt d k s ∉ wordL := by
  have key : ∀ x ∈ wordL, x.getLast? ≠ some 97 := by decide +kernel
  intro h
  refine key _ h ?_
  unfold alt
  rw [List.getLast?_append]
  rfl
theorem nth_nm {d : List Nat} (h : Lt d) (h0 : d ≠ []) (h6 : d.length ≤ 6) {k : Nat} (hk : k < 26) {i : Nat} (hi : i ≤ 4) : Nm8 (nth d k i) ∧ Al6 (nth d k i) k := by
  cases i with
  | zero => exact ⟨⟨h, h0, by show d.length ≤ 8; omega⟩, .inl h6⟩
  | succ s =>
    have hl := alt_len d k s
    have : (d.take 2).length ≤ 2 := by rw [List.length_take]; omega
    refine ⟨⟨alt_lt h hk s, ?_, by show (alt d k s).length ≤ 8; omega⟩, .inr ⟨_, rfl⟩⟩
    intro z
    have z : alt d k s = [] := z
    rw [z] at hl
    simp at hl
/-- the fifth name is new -/
theorem fifth {d : List Nat} (h0 : d ≠ []) {k : Nat} {ns : List (List Nat)} (hn : ∀ (i : Nat) n, ns[i]? = some n → Al6 n i) (hk : ns.length = k) : nth d k 4 ∉ wordL ++ ns := by
  intro h
  rcases List.mem_append.mp h with h | h
  · exact alt_nw d k 3 h
  · obtain ⟨i, hi⟩ := List.getElem?_of_mem h
    have lt : i < ns.length := (List.getElem?_eq_some_iff.mp hi).1
    rcases hn i _ hi with q | ⟨p, q⟩
    · have q : (alt d k 3).length ≤ 6 := q
      rw [alt_len] at q
      have : 0 < d.length := List.length_pos_iff.mpr h0
      rw [List.length_take] at q
      omega
    · have q : alt d k 3 = p ++ [97 + i] ++ [97] := q
      unfold alt at q
      have q2 := List.append_inj' q rfl
      have q3 := List.append_inj' q2.1 rfl
      have := q3.2
      simp at this
      omega
theorem letter_at : ∀ n : Fin 26, atI ("abcdefghijklmnopqrstuvwxyz" : Str).cps.toList ((n.val : Nat) : Int) = some (97 + n.val) := by decide +kernel
theorem letter_i {i : Int} (h0 : 0 ≤ i) (h1 : i < 26) : atI ("abcdefghijklmnopqrstuvwxyz" : Str).cps.toList i = some (97 + i.toNat) := by
  have := letter_at ⟨i.toNat, by omega⟩
  have e : ((i.toNat : Nat) : Int) = i := by omega
  dsimp only at this
  rw [e] at this
  exact this
theorem cut_from (xs : List V) {i : Nat} (h : i ≤ xs.length) : cutV xs (some (i : Int)) none = xs.drop i := by
  have e1 : HT.sIx xs.length 0 (some (i : Int)) = i := by rw [HT.sIx_nat]; omega
  have e2 : HT.sIx xs.length xs.length none = xs.length := rfl
  unfold cutV
  rw [e1, e2]
  exact List.take_of_length_le (by rw [List.length_drop]; omega)
def wl : List Nat := TL.joinL [32] wordL
theorem words_txt : (("days base unit device feature role job procedure takes uses read by let be tell in judge good bad choose " : Str) ++ "passed failed open repeat leave call stop end size offset news cert stand jolt edition strike told ") ++ "within sum product quotient card spot row ground nobody" = S wl := by decide +kernel
theorem words_split : Txt.split (S wl) (S [32]) = wordL.map S := by
  rw [SX.split_S (by simp) (by simp)]
  unfold wl
  rw [SX.spl_join (by decide) (by decide +kernel)]
section
variable {P : Program} {w : World} {K : PySem.W.Frag} {mg : Str → Option Value} {base : Heap} {a : Ad}
def sp__law_words : Sp := fun vs H Q _ => vs = [] ∧ ∀ p, H p = none → Q (.ref p) (upd H p (.lst (tsL wordL)))
theorem c__law_words (T : Txt K mg a) : Cl P w K mg base 1 "_law_words" P__law_words sp__law_words [] :=
  T.d__law_words.cl sc__law_words (fun vs H Q E h => by obtain ⟨rfl, _⟩ := h; rfl) fun f cdv A outer s H vs Q E hr h => by
    obtain ⟨rfl, k⟩ := h
    refine ⟨_, ((pss_cons (ps_set (i := 0) sc__law_words.nd rfl (Or.inl rfl) pe_str)
 (pss_cons (ps_set (i := 0) sc__law_words.nd rfl (Or.inl rfl) (pe_op op_add_str (pv 0) pe_str))
 (pss_one (ps_ret (pe_m1 PySem.F.slot_str_split PySem.F.type_str_split mt_split (pe_op op_add_str (pv 0) pe_str) pe_str)))))), ?_⟩
    refine ⟨_, rfl, _, _, rfl, rfl, by decide +kernel, _, rfl, _, _, rfl, rfl, by decide +kernel, ⟨_, rfl⟩, _, _, rfl, rfl, by decide +kernel, by decide +kernel, fun p hp => ?_⟩
    rw [words_txt, e32, words_split, List.map_map]
    exact k p hp
def sp__law_letters_of (K : PySem.W.Frag) : Sp := fun vs H Q _ => ∃ (F : Hp) (b : Addr) (many : Int), vs = [.ref b, .int many] ∧ Bag K b F H ∧ Same F H ∧ 0 ≤ many ∧ many ≤ 100 ∧
  ∀ F' H' L, Sb b F H F' H' → Bag K b F' H' → L.length = many.toNat → Lt L → Q (.str (S L)) H'
theorem txts_of : ∀ {ys : List V}, (∀ (j : Nat) y, ys[j]? = some y → ∃ c : Nat, y = V.str (S [c]) ∧ 97 ≤ c ∧ c ≤ 122) → ∃ L : List Nat, ys = (L.map fun c => S [c]).map V.str ∧ Lt L
  | [], _ => ⟨[], rfl, fun c h => by cases h⟩
  | y :: ys, h => by
    obtain ⟨c, rfl, h1⟩ := h 0 y rfl
    obtain ⟨L, rfl, h2⟩ := txts_of fun j z hz => h (j + 1) z hz
    exact ⟨c :: L, rfl, fun x hx => by rcases List.mem_cons.mp hx with rfl | hx; exact h1; exact h2 x hx⟩
theorem join_ones (L : List Nat) : Txt.join "" (L.map fun c => S [c]) = S L := by
  have : (L.map fun c => S [c]) = (L.map fun c => [c]).map S := by rw [List.map_map]; rfl
  rw [this, e0, SX.join_S, join_flat]
  congr 1
  induction L with
  | nil => rfl
  | cons c r ih => simp [ih]
theorem c__law_letters_of (T : Txt K mg a) : Cl P w K mg base 2 "_law_letters_of" P__law_letters_of (sp__law_letters_of K) [] :=
  T.d__law_letters_of.cl sc__law_letters_of (fun vs H Q E h => by obtain ⟨F, b, m, rfl, _⟩ := h; rfl) fun f cdv A outer s H vs Q E hr h => by
    obtain ⟨F, b, many, rfl, hB, hf, m0, m1, k⟩ := h
    refine ⟨_, ((pss_one (ps_ret (pe_m1 PySem.F.slot_str_join PySem.F.type_str_join mt_join pe_str (pe_lc (own := [("_law_k", 2)]) (g := (gName 2)) (by rfl) sc__law_letters_of.nd (pi_range1 (by rfl) T.n_range (pa_cons (pv 1) pa_nil)) (blkOk_by (own := [("_law_k", 2)]) (N := N__law_letters_of) (sc := defScope s__law_letters_of) (by decide +kernel)) (fun _ _ _ _ _ => (pg_name (i := 2) sc__law_letters_of.nd rfl (Or.inl rfl) (hf := .inr rfl))) (fun _ _ _ _ _ => pts_nil) (fun _ _ _ _ _ => (pe_ix (r := rIxS) ix_str pe_str (pe_f (c__law_pick T) takes0 hr (by decide) rfl (pa_cons (pv 0) (pa_cons pe_int pa_nil))) (fun _ _ => rfl)))))))), ?_⟩
    refine ⟨⟨_, rfl⟩, _, rfl, _, rfl, by omega, by omega, fun D hD => ?_⟩
    refine lcM (memB K b) walk_range hf hB hD (fun i _ y => ∃ c : Nat, y = V.str (S [c]) ∧ 97 ≤ c ∧ c ≤ 122) (fun _ _ _ _ _ z => z) (by omega) (fun F' H' e1 e2 => trivial) ?_ ?_
    · rintro j y F2 H2 H'' Kt Kn hi s2 B2 ⟨rfl, rfl⟩ kk
      refine ⟨rfl, lc_yes ⟨_, rfl, F2, b, _, rfl, B2, s2.fh, by decide, sz_of 5 (by decide) (by decide), fun H3 t s3 B3 t0 t1 => ?_⟩⟩
      exact ⟨_, _, _, rfl, rfl, by decide +kernel, letter_i t0 t1, kk _ _ _ s3 B3 ⟨97 + t.toNat, rfl, by omega, by omega⟩⟩
    · intro F2 H2 ys s2 B2 hD' hy hr'
      obtain ⟨L, rfl, hL⟩ := txts_of hr'
      rw [List.length_map, List.length_map] at hy
      refine ⟨_, D, (L.map fun c => S [c]), rfl, rfl, .inl (SqL.of (s2.fh D _ hD')), ?_, ?_⟩
      · have : ((L.map fun c => S [c]).map (·.length)).sum ≤ L.length := by
          clear hD' hr' hy hL
          induction L with
          | nil => simp
          | cons c r ih => rw [List.map_cons, List.map_cons, List.sum_cons, List.length_cons]; show 1 + _ ≤ _; omega
        rw [List.length_map]
        show _ + _ * 0 ≤ _
        omega
      · rw [join_ones]
        exact k F2 H2 L s2 B2 hy hL
end
end K53

set_option Elab.async false
set_option linter.all false
set_option maxRecDepth 100000
set_option maxHeartbeats 4000000
namespace K53
open PySem PySem.Spec PyProof.Rows L2 Ew
open SX (S)
section
variable {P : Program} {w : World} {K : PySem.W.Frag} {mg : Str → Option Value} {base : Heap} {a : Ad}
/-- names so far -/
structure Sof (ns : List (List Nat)) : Prop where
  nd : ns.Nodup
  nm : ∀ n ∈ ns, Nm8 n ∧ n ∉ wordL
  al : ∀ (i : Nat) n, ns[i]? = some n → Al6 n i
theorem Sof.snoc {ns : List (List Nat)} (h : Sof ns) {n : List Nat} (h1 : Nm8 n) (h2 : Al6 n ns.length) (h3 : n ∉ wordL ++ ns) : Sof (ns ++ [n]) := by
  rw [List.mem_append, not_or] at h3
  refine ⟨?_, fun m hm => ?_, fun i m hm => ?_⟩
  · rw [List.nodup_append]
    refine ⟨h.nd, by simp, fun x hx y hy => ?_⟩
    rw [List.mem_singleton] at hy
    subst hy
    exact fun z => h3.2 (z ▸ hx)
  · rcases List.mem_append.mp hm with hm | hm
    · exact h.nm m hm
    · rw [List.mem_singleton] at hm
      subst hm
      exact ⟨h1, h3.1⟩
  · rcases Nat.lt_or_ge i ns.length with hi | hi
    · rw [List.getElem?_append_left hi] at hm
      exact h.al i m hm
    · rw [List.getElem?_append_right hi] at hm
      have e : i - ns.length = 0 := by
        rcases Nat.eq_zero_or_pos (i - ns.length) with h0 | h0
        · exact h0
        · rw [List.getElem?_eq_none (by simp; omega)] at hm; cases hm
      rw [e] at hm
      cases hm
      rw [show i = ns.length by omega]
      exact h2
theorem Sof.nams {ns : List (List Nat)} (h : Sof ns) : Nams ns := ⟨h.nd, fun n hn => by
  obtain ⟨h1, h2⟩ := h.nm n hn
  exact ⟨h1.lt, h1.ne, Nat.le_trans h1.le (by decide), h2⟩⟩
def sp__law_names_of (K : PySem.W.Frag) : Sp := fun vs H Q _ => ∃ (F : Hp) (b : Addr) (many : Int), vs = [.ref b, .int many] ∧ Bag K b F H ∧ Same F H ∧ 0 ≤ many ∧ many ≤ 20 ∧
  ∀ F' H' p ns, Sb b F H F' H' → Bag K b F' H' → F' p = some (.lst (tsL ns)) → ns.length = many.toNat → Nams ns → Q (.ref p) H'
theorem tsL_app (a b : List (List Nat)) : tsL (a ++ b) = tsL a ++ tsL b := by unfold tsL; rw [List.map_append]
theorem tsL_len (a : List (List Nat)) : (tsL a).length = a.length := by simp [tsL]
theorem ez : ("z" : Str) = S [122] := by decide +kernel
theorem wordL_len : wordL.length = 46 := by decide +kernel
theorem c__law_names_of (T : Txt K mg a) : Cl P w K mg base 3 "_law_names_of" P__law_names_of (sp__law_names_of K) [] :=
  T.d__law_names_of.cl sc__law_names_of (fun vs H Q E h => by obtain ⟨F, b, m, rfl, _⟩ := h; rfl) fun f cdv A outer s H vs Q E hr h => by
    obtain ⟨F, b, many, rfl, hB, hf, m0, m1, k⟩ := h
    refine ⟨_, ((pss_cons (ps_set (i := 2) sc__law_names_of.nd rfl (Or.inl rfl) (pe_f0 (c__law_words T) hr (by decide) rfl))
 (pss_cons (ps_set (i := 3) sc__law_names_of.nd rfl (Or.inl rfl) pe_str)
 (pss_cons (ps_for (passes_of rfl) rfl (pi_range1 (by rfl) T.n_range (pa_cons (pv 1) pa_nil)) (pg_name (i := 4) sc__law_names_of.nd rfl (Or.inl rfl))
 (pss_cons (ps_set (i := 5) sc__law_names_of.nd rfl (Or.inl rfl) (pe_f (c__law_letters_of T) (takes_of rfl rfl rfl rfl) hr (by decide) rfl (pa_cons (pv 0) (pa_cons (pe_op op_add pe_int (pe_f (c__law_pick T) (takes_of rfl rfl rfl rfl) hr (by decide) rfl (pa_cons (pv 0) (pa_cons pe_int pa_nil)))) pa_nil))))
 (pss_cons (ps_set (i := 6) sc__law_names_of.nd rfl (Or.inl rfl) (pv 5))
 (pss_cons (ps_for (passes_of rfl) rfl (pi_range1 (by rfl) T.n_range (pa_cons pe_int pa_nil)) (pg_name (i := 7) sc__law_names_of.nd rfl (Or.inl rfl))
 (pss_cons (ps_if (pt_cmpR op_notIn_seq (pv 6) (pv 2) (by rfl))
 (pss_one ps_break)
 pss_nil)
 (pss_one (ps_set (i := 6) sc__law_names_of.nd rfl (Or.inl rfl) (pe_op op_add_str (pe_op op_add_str (pe_op op_add_str (pe_slice C8.sl_txt (pv 5) po_none (po_some pe_int)) (pe_op op_repS pe_str (pe_op op_add (pv 7) pe_int))) (pe_ix ix_str (pv 3) (pe_op op_mod (pe_callTy call_int1 (by rfl) T.n_int (by decide +kernel) (pa_cons (pv 4) pa_nil)) pe_int) (fun _ _ => rfl))) (pe_ix ix_str (pv 3) (pe_op op_mod (pe_callTy call_int1 (by rfl) T.n_int (by decide +kernel) (pa_cons (pe_op op_fdiv (pv 4) pe_int) pa_nil)) pe_int) (fun _ _ => rfl)))))))
 (pss_one (ps_expr (pe_bm PySem.F.plainAttrs_list PySem.F.slot_list_append PySem.F.type_list_append mt_append (pv 2) (pa_cons (pv 6) pa_nil))))))))
 (pss_one (ps_ret (pe_slice sl_list (pv 2) (po_some (pe_callB call_len_seq (by rfl) T.n_len (by decide +kernel) (pa_cons (pe_f0 (c__law_words T) hr (by decide) rfl) pa_nil))) po_none))))))), ?_⟩
    refine ⟨rfl, fun L hL => ?_⟩
    have nLb : ¬ L = b := fun z => (memB K b).there hB z hL
    have s0 : Sb b F H F (upd H L (.lst (tsL wordL))) := (Stm.refl hf).raw hL hL
    have B0 : Bag K b F (upd H L (.lst (tsL wordL))) := (memB K b).put hB nLb
    have fL : F L = none := hf.free hL
    refine ⟨_, rfl, many, rfl, by omega, by omega, ?_⟩
    refine for_range (lo := 0) (n := many.toNat) (fun i σ' H' => ∃ F' ns c4 c5 c6 c7, σ' = [some (.ref b), some (.int many), some (.ref L), some (.str "abcdefghijklmnopqrstuvwxyz"), c4, c5, c6, c7] ∧ Sb b F H F' H' ∧ Bag K b F' H' ∧ F' L = none ∧ H' L = some (.lst (tsL (wordL ++ ns))) ∧ ns.length = i ∧ Sof ns) ?_ ?_ ?_
    · exact ⟨F, [], none, none, none, none, rfl, s0, B0, fL, by rw [upd_same, List.append_nil], rfl, ⟨by simp, fun n h => by (cases h), fun i n h => by simp at h⟩⟩
    · rintro i _ H1 hi ⟨F1, ns, c4, c5, c6, c7, rfl, s1, B1, f1, h1, hn, sof⟩
      refine ⟨_, rfl, _, rfl, F1, b, _, rfl, B1, s1.fh, by decide, sz_of 3 (by decide) (by decide), fun H2 x s2 B2 x0 x1 => ?_⟩
      refine ⟨_, _, rfl, rfl, F1, b, _, rfl, B2, s2.fh, by omega, by omega, fun F3 H3 d s3 B3 hd hlt => ?_⟩
      have h2 : H2 L = some (.lst (tsL (wordL ++ ns))) := s2.hh L _ nLb h1
      have h3 : H3 L = some (.lst (tsL (wordL ++ ns))) := s3.hh L _ nLb h2
      have f3 : F3 L = none := s3.nw L f1 (by rw [h2]; exact fun z => nomatch z)
      have s3 := seqB s1 B1 (seqB s2 B2 s3)
      have d6 : d.length ≤ 6 := by omega
      have d0 : d ≠ [] := fun z => by rw [z] at hd; simp at hd; omega
      refine ⟨_, rfl, ?_⟩
      refine seq_with (fun σ' H' => ([some (V.ref b), some (.int many), some (.ref L), some (.str "abcdefghijklmnopqrstuvwxyz"), some (.int (0 + (i : Int))), some (.str (S d)), some (.str (S d)), c7] : List (Option V)) = σ' ∧ H3 = H') (fun u hu => hu _ _ ⟨rfl, rfl⟩) ?_
      rintro _ _ ⟨rfl, rfl⟩
      refine seq_with (fun σ' H' => ∃ n c7, ([some (V.ref b), some (.int many), some (.ref L), some (.str "abcdefghijklmnopqrstuvwxyz"), some (.int (0 + (i : Int))), some (.str (S d)), some (.str (S n)), c7] : List (Option V)) = σ' ∧ H3 = H' ∧ n ∉ wordL ++ ns ∧ Nm8 n ∧ Al6 n i) (fun u hu => ?_) ?_
      · refine ⟨9, rfl, by decide, by decide, ?_⟩
        have five : ∀ j, (∀ l, l < j → nth d i l ∈ wordL ++ ns) → j ≤ 4 := fun j hj => by
          rcases Nat.lt_or_ge 4 j with h | h
          · exact absurd (hj 4 h) (fifth d0 sof.al hn)
          · exact h
        refine for_range (lo := 0) (n := 9) (fun j σ' H' => ∃ c7, ([some (V.ref b), some (.int many), some (.ref L), some (.str "abcdefghijklmnopqrstuvwxyz"), some (.int (0 + (i : Int))), some (.str (S d)), some (.str (S (nth d i j))), c7] : List (Option V)) = σ' ∧ H3 = H' ∧ ∀ l, l < j → nth d i l ∈ wordL ++ ns) ?_ ?_ ?_
        · exact ⟨c7, rfl, rfl, fun l hl => absurd hl (Nat.not_lt_zero _)⟩
        · rintro j _ _ hj ⟨c7, rfl, rfl, hl⟩
          refine ⟨_, rfl, _, rfl, L, tsL (wordL ++ ns), rfl, .inl (SqL.of h3), rfl, flat_ts _, _, rfl, ?_⟩
          rw [if_pos rfl, inV_ts]
          have j4 := five j hl
          by_cases hm : nth d i j ∈ wordL ++ ns
          · refine iteN (by rw [decide_eq_true hm]; decide) ?_
            have j3 : j + 1 ≤ 4 := five (j + 1) fun l h => by
              rcases Nat.lt_or_ge l j with q | q
              · exact hl l q
              · rw [show l = j by omega]; exact hm
            have dl : (d.take 2).length ≤ 2 := by rw [List.length_take]; omega
            refine ⟨_, rfl, _, rfl, _, rfl, by rw [SX.S_len, sizeLine_eq]; omega, ?_⟩
            rw [SX.slice_to (by decide), show (2 : Int).toNat = 2 from rfl]
            refine ⟨_, rfl, _, _, rfl, rfl, [122], _, (congrArg V.str ez), rfl, by omega, by omega, by simp, by simp, ?_⟩
            refine ⟨_, _, rfl, rfl, by rw [SX.S_len, SX.S_len, rep_len, sizeLine_eq]; simp; omega, ?_⟩
            refine ⟨_, rfl, _, rfl, .inl ⟨_, rfl, _, _, rfl, rfl, (by decide : (0 : Int) < 26), ?_⟩⟩
            refine ⟨_, _, _, rfl, rfl, by decide +kernel, letter_i (Int.emod_nonneg _ (by decide)) (Int.emod_lt_of_pos _ (by decide)), ?_⟩
            refine ⟨_, _, rfl, rfl, ?_, ?_⟩
            · rw [PySem.Str.length_append, SX.S_len, SX.S_len, rep_len, sizeLine_eq]; show _ + 1 ≤ _; simp; omega
            refine ⟨_, rfl, _, rfl, _, _, rfl, rfl, ⟨by decide, by decide⟩, .inl ⟨_, rfl, _, _, rfl, rfl, (by decide : (0 : Int) < 26), ?_⟩⟩
            refine ⟨_, _, _, rfl, rfl, by decide +kernel, letter_i (Int.emod_nonneg _ (by decide)) (Int.emod_lt_of_pos _ (by decide)), ?_⟩
            refine ⟨_, _, rfl, rfl, ?_, ?_⟩
            · rw [PySem.Str.length_append, PySem.Str.length_append, SX.S_len, SX.S_len, rep_len, sizeLine_eq]; show _ + 1 + 1 ≤ _; simp; omega
            refine ⟨some (.int (0 + (j : Int))), ?_, rfl, fun l h => ?_⟩
            · have e1 : (S (d.take 2) ++ S (rep ((0 + (j : Int)) + 1).toNat [122]) ++ (⟨#[97 + ((0 + (i : Int)) % 26).toNat]⟩ : Str) ++ (⟨#[97 + ((0 + (i : Int)) / 26 % 26).toNat]⟩ : Str)) = S (nth d i (j + 1)) := by
                have x1 : ((0 + (i : Int)) % 26).toNat = i := by omega
                have x2 : ((0 + (i : Int)) / 26 % 26).toNat = 0 := by omega
                have x3 : ((0 + (j : Int)) + 1).toNat = j + 1 := by omega
                rw [x1, x2, x3]
                show S (d.take 2) ++ S (rep (j + 1) [122]) ++ S [97 + i] ++ S [97] = S (alt d i j)
                rw [SX.S_cat, SX.S_cat, SX.S_cat]
                have er : rep (j + 1) [122] = List.replicate (j + 1) 122 := List.flatten_replicate_singleton
                rw [er]
                rfl
              exact congrArg (fun x => ([some (V.ref b), some (.int many), some (.ref L), some (.str "abcdefghijklmnopqrstuvwxyz"), some (.int (0 + (i : Int))), some (.str (S d)), some (.str x), some (.int (0 + (j : Int)))] : List (Option V))) e1.symm
            · rcases Nat.lt_or_ge l j with q | q
              · exact hl l q
              · rw [show l = j by omega]; exact hm
          · refine iteY (by rw [decide_eq_false hm]; rfl) ?_
            obtain ⟨g1, g2⟩ := nth_nm hlt d0 d6 (k := i) (by omega) j4
            exact hu _ _ ⟨_, _, rfl, rfl, hm, g1, g2⟩
        · rintro _ _ ⟨c7, rfl, rfl, hl⟩
          exact absurd (five 9 hl) (by decide)
      rintro _ _ ⟨n, c7', rfl, rfl, hm, g1, g2⟩
      refine ⟨_, rfl, .inl ⟨rfl, _, SqL.of h3⟩, _, rfl, L, _, _, rfl, rfl, h3, ?_, ?_⟩
      · rw [tsL_len, List.length_append, sizeLine_eq, wordL_len]; omega
      · refine ⟨F3, ns ++ [n], _, _, _, _, rfl, s3.mut f3 hL, (memB K b).put B3 nLb, f3, ?_, by simp [hn], sof.snoc g1 (by rw [hn]; exact g2) hm⟩
        rw [upd_same, ← List.append_assoc, tsL_app (wordL ++ ns)]
        rfl
    · rintro _ H1 ⟨F1, ns, c4, c5, c6, c7, rfl, s1, B1, f1, h1, hn, sof⟩
      refine ⟨_, rfl, rfl, fun p hp => ?_⟩
      obtain ⟨s2, B2⟩ := newB (o := .lst (tsL wordL)) s1 B1 hp
      have nLp : L ≠ p := fun z => by rw [z, hp] at h1; cases h1
      refine ⟨p, _, rfl, .inl (SqL.of upd_same), _, rfl, L, _, rfl, SqL.of (by rw [upd_ne nLp]; exact h1), fun q hq => ?_⟩
      obtain ⟨s3, B3⟩ := newB (o := .lst (tsL ns)) s2 B2 hq
      have ec : cutV (tsL (wordL ++ ns)) (some ((tsL wordL).length : Int)) none = tsL ns := by
        rw [cut_from _ (by rw [tsL_len, tsL_len, List.length_append]; omega), tsL_app, List.drop_left]
      rw [ec]
      exact k _ _ q ns s3 B3 upd_same hn sof.nams
end
end K53

set_option Elab.async false
set_option linter.all false
set_option maxRecDepth 100000
set_option maxHeartbeats 4000000
namespace K53
open PySem PySem.Spec PyProof.Rows L2 Ew
section
variable {K : PySem.W.Frag} {b p : Addr} {F H F' H' : Hp} {o : HO}
theorem rawB (s : Sb b F H F' H') (B : Bag K b F' H') (hp : H' p = none) : Sb b F H F' (upd H' p o) ∧ Bag K b F' (upd H' p o) := by
  have nb : ¬ p = b := fun z => (memB K b).there B z hp
  exact ⟨s.raw hp (s.fresh (fun x z => (memB K b).there B z) hp), (memB K b).put B nb⟩
theorem mutB (s : Sb b F H F' H') (B : Bag K b F' H') (hf : F' p = none) (h0 : H p = none) (nb : p ≠ b) : Sb b F H F' (upd H' p o) ∧ Bag K b F' (upd H' p o) := ⟨s.mut hf h0, (memB K b).put B nb⟩
theorem freezeB (s : Sb b F H F' H') (B : Bag K b F' H') (hf : F' p = none) (h0 : H p = none) (nb : p ≠ b) (e : H' p = some o) : Sb b F H (upd F' p o) H' ∧ Bag K b (upd F' p o) H' := by
  refine ⟨s.freeze hf h0 e, (memB K b).grow B (same_new hf) fun x z => ?_⟩
  rw [upd_ne (fun q => nb (by rw [← q]; exact z))]
  exact (memB K b).off B z
end
theorem gn {i : Nat} {x : V} {σ : L2.St} {H : Hp} {R : L2.St → Hp → Prop} (h : R (σ.set i (some x)) H) : gName i x σ H R := h
section
variable {P : Program} {w : World} {K : PySem.W.Frag} {mg : Str → Option Value} {base : Heap} {a : Ad}
def sp__law_one_in (K : PySem.W.Frag) : Sp := fun vs H Q _ => ∃ (F : Hp) (b : Addr) (many : Int), vs = [.ref b, .int many] ∧ Bag K b F H ∧ Same F H ∧ 0 < many ∧ Sz 8000 many ∧
  ∀ H' (c : Bool), Sb b F H F H' → Bag K b F H' → Q (.bl c) H'
theorem c__law_one_in (T : Txt K mg a) : Cl P w K mg base 2 "_law_one_in" P__law_one_in (sp__law_one_in K) [] :=
  T.d__law_one_in.cl sc__law_one_in (fun vs H Q E h => by obtain ⟨F, b, u, rfl, _⟩ := h; rfl) fun f cdv A outer s H vs Q E hr h => by
    obtain ⟨F, b, many, rfl, hB, hf, h0, hz, k⟩ := h
    refine ⟨_, ((pss_one (ps_ret (pe_cmpR op_eq (pe_f (c__law_pick T) (takes_of rfl rfl rfl rfl) hr (by decide) rfl (pa_cons (pv 0) (pa_cons (pv 1) pa_nil))) pe_int (nomark _))))), ?_⟩
    exact ⟨_, rfl, _, rfl, F, b, _, rfl, hB, hf, h0, hz, fun H' i s1 B1 h1 h2 => ⟨rfl, k H' _ s1 B1⟩⟩

end
theorem int_item {ns : List Int} {i : Nat} {x : V} (h : (ns.map V.int)[i]? = some x) : ∃ d, ns[i]? = some d ∧ x = V.int d := by
  rw [List.getElem?_map, Option.map_eq_some_iff] at h
  obtain ⟨d, h1, h2⟩ := h
  exact ⟨d, h1, h2.symm⟩
section
variable {P : Program} {w : World} {K : PySem.W.Frag} {mg : Str → Option Value} {base : Heap} {a : Ad}
def sp__law_bag_of (K : PySem.W.Frag) : Sp := fun vs H Q _ => ∃ (F : Hp) (p : Addr) (ns : List Int), vs = [.ref p] ∧ SqL K F p (ns.map V.int) ∧ ns.length ≤ 1000 ∧ Same F H ∧ ∀ F' H' b, Stp F H F' H' → Bag K b F' H' → Q (.ref b) H'
theorem c__law_bag_of (T : Txt K mg a) : Cl P w K mg base 1 "_law_bag_of" P__law_bag_of (sp__law_bag_of K) [] :=
  T.d__law_bag_of.cl sc__law_bag_of (fun vs H Q E h => by obtain ⟨F, p, ns, rfl, _⟩ := h; rfl) fun f cdv A outer s H vs Q E hr h => by
    obtain ⟨F, p, ns, rfl, hp, hn, hf, k⟩ := h
    refine ⟨_, ((pss_cons (ps_set (i := 1) sc__law_bag_of.nd rfl (Or.inl rfl) pe_int)
 (pss_cons (ps_for (passes_of rfl) rfl (pi_list (pv 0)) (pg_name (i := 2) sc__law_bag_of.nd rfl (Or.inl rfl))
 (pss_one (ps_set (i := 1) sc__law_bag_of.nd rfl (Or.inl rfl) (pe_op op_mod (pe_callTy call_int1 (by rfl) T.n_int (by decide +kernel) (pa_cons (pe_op op_add (pe_op op_add (pe_op op_mul (pv 1) pe_int) (pv 2)) pe_int) pa_nil)) pe_int))))
 (pss_one (ps_ret (pe_disp (pps_cons pe_str (pe_lc (own := [("_law_cell", 2)]) (g := (gName 2)) (by rfl) sc__law_bag_of.nd (pi_list (pv 0)) (blkOk_by (own := [("_law_cell", 2)]) (N := N__law_bag_of) (sc := defScope s__law_bag_of) (by decide +kernel)) (fun _ _ _ _ _ => (pg_name (i := 2) sc__law_bag_of.nd rfl (Or.inl rfl) (hf := .inr rfl))) (fun _ _ _ _ _ => pts_nil) (fun _ _ _ _ _ => (pv 2))) (pps_cons pe_str pe_int (pps_cons pe_str pe_int (pps_cons pe_str (pv 1) (pps_cons pe_str pe_int pps_nil))))) (by rfl) (by rfl) (fun z => by cases z) (by decide))))))), ?_⟩
    refine ⟨_, rfl, p, rfl, ⟨_, upL hf hp⟩, ?_⟩
    refine for_list (fun i σ' H' => H = H' ∧ ∃ (m : Int) (c : Option V), σ' = [some (.ref p), some (.int m), c]) ⟨rfl, 7, none, rfl⟩ (fun i σ' H' _ q => by rw [← q.1]; exact upL hf hp) ?_ ?_
    · rintro i x _ _ hx ⟨rfl, m, c, rfl⟩
      obtain ⟨d, hd, rfl⟩ := int_item hx
      refine ⟨_, rfl, _, _, rfl, rfl, .inr ⟨by decide, by decide⟩, _, rfl, _, _, rfl, rfl, _, _, rfl, rfl, .inl ⟨_, rfl, _, _, rfl, rfl, (by decide : (0 : Int) < 1000003), ?_⟩⟩
      exact ⟨rfl, _, _, rfl⟩
    · rintro _ _ ⟨rfl, m, c, rfl⟩
      intro b hb
      have s0 : Stp F H F (upd H b (.dK [])) := (Stm.refl hf).raw hb hb
      refine ⟨_, rfl, p, rfl, ⟨_, upL s0.fh hp⟩, fun D hD => ?_⟩
      refine lcM memP walk_list s0.fh trivial hD (fun i _ y => ∃ d, ns[i]? = some d ∧ y = V.int d) (fun _ _ _ _ _ z => z) (by rw [List.length_map]; omega) (fun F' H' e1 e2 => upL e2 (upL e1 hp)) ?_ ?_
      · rintro i x F' H1 H'' Kt Kn hi s1 _ ⟨rfl, hx⟩ kk
        obtain ⟨d, hd, rfl⟩ := int_item hx
        exact ⟨rfl, lc_yes ⟨_, rfl, kk _ _ _ (.refl s1.fh) trivial ⟨d, hd, rfl⟩⟩⟩
      · intro F' H1 ys s1 _ hD' hy hr'
        rw [List.length_map] at hy
        obtain rfl := map_of hy hr'
        have fb : F' b = none := s1.nw b (hf.free hb) (by rw [upd_same]; exact fun z => nomatch z)
        refine ⟨_, rfl, s1.same b _ upd_same, bk D 0 0 m 0, rfl, (by show 5 ≤ 15; decide), ?_⟩
        refine k F' _ b ((s0.transP s1).mut fb hb) ⟨fb, D, ns, 0, 0, m, 0, by decide, hn, SqL.of hD', ?_⟩
        rw [upd_same]
        rfl
end
end K53

set_option Elab.async false
set_option linter.all false
set_option maxRecDepth 100000
set_option maxHeartbeats 4000000
namespace K53
open PySem PySem.Spec PyProof.Rows L2 Ew
open SX (S)
theorem strOk_S {L : List Nat} (h : ∀ c ∈ L, c < 1114112) : PyData.strOk (S L) = true := by
  unfold PyData.strOk
  show L.toArray.all _ = true
  rw [List.all_toArray, List.all_eq_true]
  intro c hc
  exact decide_eq_true (h c hc)
theorem S_inj {m n : List Nat} (h : S m = S n) : m = n := by
  have e := SX.S_beq_eq (a := m) (b := n)
  rw [h, beq_self_eq_true] at e
  exact of_decide_eq_true e.symm
def gL : List Nat := [103, 114, 111, 117, 110, 100]
theorem g_S : ground.1 = S gL := by decide +kernel
section
variable {P : Program} {w : World} {K : PySem.W.Frag} {mg : Str → Option Value} {base : Heap} {a : Ad}
def sp__law_ground : Sp := fun vs H Q _ => vs = [] ∧ ∀ p, H p = none → Q (.ref p) (upd H p (.tup (spV ground)))
theorem c__law_ground (T : Txt K mg a) : Cl P w K mg base 1 "_law_ground" P__law_ground sp__law_ground [] :=
  T.d__law_ground.cl sc__law_ground (fun vs H Q E h => by obtain ⟨rfl, _⟩ := h; rfl) fun f cdv A outer s H vs Q E hr h => by
    obtain ⟨rfl, k⟩ := h
    exact ⟨_, ((pss_one (ps_ret (pe_tup (pa_cons pe_str (pa_cons pe_int (pa_cons pe_int pa_nil))))))), by show 3 ≤ sizeLine; decide, fun p hp => k p hp⟩
/-- a plain list of spots at l -/
def Spl (K : PySem.W.Frag) (H : Hp) (l : Addr) (ps : List Spot) : Prop := ∃ us, H l = some (.lst us) ∧ Paired (fun v q => Spt K H v q) us ps
theorem Spl.up {H H' : Hp} {l : Addr} {ps : List Spot} (h : Spl K H l ps) (e : Same H H') : Spl K H' l ps := by
  obtain ⟨us, h1, h2⟩ := h
  exact ⟨us, e _ _ h1, Paired.mapP h2 fun _ _ z => z.up e⟩
theorem Spl.sps {H : Hp} {l : Addr} {ps : List Spot} (h : Spl K H l ps) : Sps K false H l ps := by
  obtain ⟨us, h1, h2⟩ := h
  exact ⟨us, SqL.of h1, h2⟩
def sp__law_some_spots (K : PySem.W.Frag) : Sp := fun vs H Q _ => ∃ (F : Hp) (b : Addr) (many : Int), vs = [.ref b, .int many] ∧ Bag K b F H ∧ Same F H ∧ 0 ≤ many ∧ many ≤ 20 ∧
  ∀ F' H' r l t nm ps, Sb b F H F' H' → Bag K b F' H' → SqT K F' r [.ref l, .ref t] → Spl K F' l ps → OkS ps → ps.length ≤ 21 → Spt K F' (.ref t) (nm, 0, 0) → PyData.strOk nm = true → (nm, 0, 0) ∉ ps → (nm, 1, 0) ∉ ps → Q (.ref r) H'
theorem c__law_some_spots (T : Txt K mg a) : Cl P w K mg base 4 "_law_some_spots" P__law_some_spots (sp__law_some_spots K) [] :=
  T.d__law_some_spots.cl sc__law_some_spots (fun vs H Q E h => by obtain ⟨F, b, m, rfl, _⟩ := h; rfl) fun f cdv A outer s H vs Q E hr h => by
    obtain ⟨F, b, many, rfl, hB, hf, m0, m1, k⟩ := h
    refine ⟨_, ((pss_cons (ps_set (i := 2) sc__law_some_spots.nd rfl (Or.inl rfl) (pe_f (c__law_names_of T) (takes_of rfl rfl rfl rfl) hr (by decide) rfl (pa_cons (pv 0) (pa_cons pe_int pa_nil))))
 (pss_cons (ps_set (i := 3) sc__law_some_spots.nd rfl (Or.inl rfl) (pe_lst (pa_cons (pe_f0 (c__law_ground T) hr (by decide) rfl) pa_nil)))
 (pss_cons (ps_for (passes_of rfl) rfl (pi_range1 (by rfl) T.n_range (pa_cons (pv 1) pa_nil)) (pg_name (i := 4) sc__law_some_spots.nd rfl (Or.inl rfl))
 (pss_cons (ps_set (i := 5) sc__law_some_spots.nd rfl (Or.inl rfl) (pe_tup (pa_cons (pe_ix ix_list (pv 2) (pe_f (c__law_pick T) (takes_of rfl rfl rfl rfl) hr (by decide) rfl (pa_cons (pv 0) (pa_cons pe_int pa_nil))) (fun _ _ => rfl)) (pa_cons (pe_f (c__law_pick T) (takes_of rfl rfl rfl rfl) hr (by decide) rfl (pa_cons (pv 0) (pa_cons pe_int pa_nil))) (pa_cons (pe_f (c__law_pick T) (takes_of rfl rfl rfl rfl) hr (by decide) rfl (pa_cons (pv 0) (pa_cons pe_int pa_nil))) pa_nil)))))
 (pss_one (ps_if (pt_cmpR (op_notInD (units5 hr)) (pv 5) (pv 3) (by rfl))
 (pss_one (ps_expr (pe_bm PySem.F.plainAttrs_list PySem.F.slot_list_append PySem.F.type_list_append mt_append (pv 3) (pa_cons (pv 5) pa_nil))))
 pss_nil))))
 (pss_one (ps_ret (pe_tup (pa_cons (pv 3) (pa_cons (pe_tup (pa_cons (pe_ix ix_list (pv 2) pe_int (fun _ _ => rfl)) (pa_cons pe_int (pa_cons pe_int pa_nil)))) pa_nil))))))))), ?_⟩
    refine ⟨_, rfl, F, b, 3, rfl, hB, hf, by decide, by decide, fun F1 H1 pn ns s1 B1 hpn nl nams => ?_⟩
    obtain ⟨n0, n1, n2, rfl⟩ : ∃ n0 n1 n2, ns = [n0, n1, n2] := by
      match ns, nl with
      | [n0, n1, n2], _ => exact ⟨n0, n1, n2, rfl⟩
    refine gn ?_
    refine ⟨rfl, fun t ht => ⟨by show 1 ≤ sizeLine; decide, fun l hl => ?_⟩⟩
    obtain ⟨s2, B2⟩ := newB (o := .tup (spV ground)) s1 B1 ht
    have sg : Spt K (upd F1 t (.tup (spV ground))) (.ref t) ground := ⟨t, rfl, upd_same⟩
    have hpn2 : (upd F1 t (.tup (spV ground))) pn = some (.lst (tsL [n0, n1, n2])) := same_new (s1.fh.free ht) _ _ hpn
    have nlb : l ≠ b := fun z => (memB K b).there B2 z hl
    have h0l : H l = none := s2.fresh (fun x z => (memB K b).there B2 z) hl
    have f2l := s2.fh.free hl
    obtain ⟨s3, B3⟩ := rawB (o := .lst [.ref t]) s2 B2 hl
    refine ⟨_, rfl, many, rfl, by omega, by omega, ?_⟩
    have ok_ : ∀ p : Spot, p.1 = ground.1 ∨ p.1 = S n0 ∨ p.1 = S n1 → PyData.strOk p.1 = true := by
      rintro p (h | h | h)
      · rw [h]; decide +kernel
      · rw [h]; exact strOk_S fun c hc => by have := (nams.2 n0 (by simp)).lt c hc; omega
      · rw [h]; exact strOk_S fun c hc => by have := (nams.2 n1 (by simp)).lt c hc; omega
    refine for_it walk_range (fun j σ' H' => ∃ F' xs ps c4 c5, σ' = [some (.ref b), some (.int many), some (.ref pn), some (.ref l), c4, c5] ∧ Sb b F H F' H' ∧ Bag K b F' H' ∧ Same (upd F1 t (.tup (spV ground))) F' ∧ F' l = none ∧ H' l = some (.lst xs) ∧ Paired (fun v p => Spt K F' v p) xs ps ∧ ps.Nodup ∧ ps[0]? = some ground ∧ ps.length ≤ j + 1 ∧ ∀ p ∈ ps, p.1 = ground.1 ∨ p.1 = S n0 ∨ p.1 = S n1) ?_ (fun _ _ _ _ _ => trivial) ?_ ?_
    · exact ⟨_, [.ref t], [ground], none, none, rfl, s3, B3, .refl _, f2l, upd_same, .cons sg .nil, by simp, rfl, Nat.le_refl _, fun p hp => by rw [List.mem_singleton.mp hp]; exact .inl rfl⟩
    · rintro j _ _ _ H3 hj ⟨F3, xs, ps, c4, c5, rfl, t3, C3, e3, f3, h3, pr, nd, hd, pl, al⟩ ⟨rfl, rfl⟩
      have hpn3 := e3 _ _ hpn2
      refine ⟨_, rfl, _, rfl, F3, b, 2, rfl, C3, t3.fh, by decide, sz_of 2 (by decide) (by decide), fun H4 i s4 B4 i0 i1 => ?_⟩
      obtain ⟨z, hz, hzn⟩ : ∃ z, atI (tsL [n0, n1, n2]) i = some (.str z) ∧ (z = S n0 ∨ z = S n1) := by
        have : i = 0 ∨ i = 1 := by omega
        rcases this with rfl | rfl
        · exact ⟨S n0, rfl, .inl rfl⟩
        · exact ⟨S n1, rfl, .inr rfl⟩
      refine ⟨pn, _, _, _, rfl, rfl, SqL.of (s4.fh _ _ hpn3), hz, ?_⟩
      refine ⟨_, rfl, F3, b, 3, rfl, B4, s4.fh, by decide, sz_of 2 (by decide) (by decide), fun H5 d1 s5 B5 _ _ => ?_⟩
      refine ⟨_, rfl, F3, b, 6, rfl, B5, s5.fh, by decide, sz_of 3 (by decide) (by decide), fun H6 d2 s6 B6 _ _ => ?_⟩
      refine ⟨by show 3 ≤ sizeLine; decide, fun u hu => ?_⟩
      have t6 := seqB (seqB (seqB t3 C3 s4) B4 s5) B5 s6
      have h6 : H6 l = some (.lst xs) := s6.hh l _ nlb (s5.hh l _ nlb (s4.hh l _ nlb h3))
      obtain ⟨t7, B7⟩ := newB (o := .tup (spV (z, d1, d2))) t6 B6 hu
      have nlu : l ≠ u := fun z => by rw [z, hu] at h6; cases h6
      have g7 := same_new (o := .tup (spV (z, d1, d2))) (s6.fh.free hu)
      have f7 : (upd F3 u (.tup (spV (z, d1, d2)))) l = none := by rw [upd_ne nlu]; exact f3
      have h7 : (upd H6 u (.tup (spV (z, d1, d2)))) l = some (.lst xs) := by rw [upd_ne nlu]; exact h6
      have pr7 := Paired.mapP pr fun v p z => z.up g7
      have sp7 : Spt K (upd F3 u (.tup (spV (z, d1, d2)))) (.ref u) (z, d1, d2) := ⟨u, rfl, upd_same⟩
      have e7 := e3.trans g7
      generalize upd F3 u (.tup (spV (z, d1, d2))) = F7 at t7 B7 f7 pr7 sp7 e7
      have zal : (z, d1, d2).1 = ground.1 ∨ (z, d1, d2).1 = S n0 ∨ (z, d1, d2).1 = S n1 := .inr hzn
      have fz : Fl 2 (.list (ps.map spD)) := Fl.lst (FlA.all fun d hd => by
        obtain ⟨x, hx, rfl⟩ := List.mem_map.mp hd
        exact fl_sp (ok_ x (al x hx)))
      refine ⟨_, rfl, _, rfl, spD (z, d1, d2), ps.map spD, (sp7.up t7.fh).dp, .lst (SqL.of h7) (dps pr7 fun v l y => (y.up t7.fh).dp), (fl_sp (ok_ _ zal)).sh (by decide), fz.sh (by decide), _, rfl, ?_⟩
      rw [any_sp]
      by_cases q : (z, d1, d2) ∈ ps
      · rw [decide_eq_true q]
        exact iteF ⟨F7, xs, ps, _, _, rfl, t7, B7, e7, f7, h7, pr7, nd, hd, by omega, al⟩
      · rw [decide_eq_false q]
        refine iteT ⟨_, rfl, .inl ⟨rfl, _, SqL.of h7⟩, _, rfl, l, _, _, rfl, rfl, h7, ?_, ?_⟩
        · have := Paired.length pr7
          rw [sizeLine_eq]
          omega
        · obtain ⟨t8, B8⟩ := mutB (o := .lst (xs ++ [.ref u])) t7 B7 f7 h0l nlb
          refine ⟨F7, xs ++ [.ref u], ps ++ [(z, d1, d2)], _, _, rfl, t8, B8, e7, f7, upd_same, Paired.snoc pr7 sp7, ?_, ?_, by rw [List.length_append, List.length_singleton]; omega, ?_⟩
          · rw [List.nodup_append]
            refine ⟨nd, by simp, fun x hx y hy => ?_⟩
            rw [List.mem_singleton] at hy
            subst hy
            exact fun z => q (z ▸ hx)
          · rw [List.getElem?_append_left (List.getElem?_eq_some_iff.mp hd).1]
            exact hd
          · intro p hp
            rcases List.mem_append.mp hp with hp | hp
            · exact al p hp
            · rw [List.mem_singleton.mp hp]
              exact zal
    · rintro _ H3 ⟨F3, xs, ps, c4, c5, rfl, t3, C3, e3, f3, h3, pr, nd, hd, pl, al⟩
      obtain ⟨t4, B4⟩ := freezeB t3 C3 f3 h0l nlb h3
      have e4 := e3.trans (same_new (o := .lst xs) f3)
      have pr4 := Paired.mapP pr fun v p z => z.up (same_new (o := .lst xs) f3)
      have h4 : (upd F3 l (.lst xs)) l = some (.lst xs) := upd_same
      generalize upd F3 l (.lst xs) = F4 at t4 B4 e4 pr4 h4
      refine ⟨_, rfl, _, rfl, pn, _, _, _, rfl, rfl, SqL.of (t4.fh _ _ (e4 _ _ hpn2)), rfl, by show 3 ≤ sizeLine; decide, fun t' ht' => ?_⟩
      obtain ⟨t5, B5⟩ := newB (o := .tup (spV (S n2, 0, 0))) t4 B4 ht'
      have g5 := same_new (o := .tup (spV (S n2, 0, 0))) (t4.fh.free ht')
      refine ⟨by show 2 ≤ sizeLine; decide, fun r hr' => ?_⟩
      obtain ⟨t6, B6⟩ := newB (o := .tup [.ref l, .ref t']) t5 B5 hr'
      have g6 := same_new (o := .tup [.ref l, .ref t']) (t5.fh.free hr')
      have no : ∀ d : Int, (S n2, d, 0) ∉ ps := fun d hm => by
        rcases al _ hm with z | z | z
        · rw [g_S] at z
          have := S_inj z
          exact (nams.2 n2 (by simp)).nw (by rw [this]; decide +kernel)
        · have := S_inj z
          subst this
          have := nams.1
          simp at this
        · have := S_inj z
          subst this
          have := nams.1
          simp at this
      exact k _ _ r l t' (S n2) ps t6 B6 sq_new ⟨xs, (g5.trans g6) _ _ h4, Paired.mapP pr4 fun v p z => z.up (g5.trans g6)⟩ ⟨nd, hd, fun p hp => ok_ p (al p hp), by omega⟩ (by omega) ⟨t', rfl, g6 _ _ upd_same⟩ (strOk_S fun c hc => by have := (nams.2 n2 (by simp)).lt c hc; omega) (no 0) (no 1)
end
end K53

set_option Elab.async false
set_option linter.all false
set_option maxRecDepth 100000
set_option maxHeartbeats 4000000
namespace K53
open PySem PySem.Spec PyProof.Rows L2 Ew
theorem Raw.fz {K : PySem.W.Frag} {F H H' : Hp} {p : Addr} {qs : List Addr} {n : Nat} {f : Tb2} (h : Raw H H' p qs n f) : Tb K false (fz F H H') (.ref p) n f :=
  ⟨p, _, rfl, SqL.of ((fz_new h.p0).trans h.at_), by rw [List.length_map, h.len], fun i u hu => by
    rw [List.getElem?_map] at hu
    obtain ⟨q, h1, rfl⟩ := Option.map_eq_some_iff.mp hu
    exact ⟨q, rfl, SqL.of ((fz_new (h.q0 q (List.mem_of_getElem? h1))).trans (h.row i q h1))⟩⟩
/-- a table of the law's own draws -/
def tbl (R : List (List Int)) : Tb2 := fun a b => (R.getD a []).getD b 0
theorem row_tbl {n : Nat} {ws : List Int} (h : ws.length = n) : rowV n (fun b => ws.getD b 0) = ws.map V.int := by
  refine (rowV_of (by rw [List.length_map, h]) fun j y e => ?_).symm
  rw [List.getElem?_map] at e
  obtain ⟨d, h1, rfl⟩ := Option.map_eq_some_iff.mp e
  rw [List.getD_eq_getElem?_getD, h1]
  rfl
section
variable {P : Program} {w : World} {K : PySem.W.Frag} {mg : Str → Option Value} {base : Heap} {a : Ad}
theorem ints_of {P : Nat → Int → Prop} : ∀ {ys : List V}, (∀ (j : Nat) y, ys[j]? = some y → ∃ v : Int, y = V.int v ∧ P j v) → ∃ ws : List Int, ys = ws.map V.int ∧ ∀ (j : Nat) v, ws[j]? = some v → P j v := by
  intro ys
  induction ys generalizing P with
  | nil => exact fun _ => ⟨[], rfl, fun j q z => by simp at z⟩
  | cons y ys ih =>
    intro h
    obtain ⟨q, rfl, hq⟩ := h 0 y rfl
    obtain ⟨qs, rfl, hqs⟩ := ih (P := fun j q => P (j + 1) q) fun j y z => h (j + 1) y z
    exact ⟨q :: qs, rfl, fun j r z => by
      cases j with
      | zero => cases z; exact hq
      | succ j => exact hqs j r z⟩
theorem int_at {W : List Int} {j : Nat} (h : j < W.length) : atI (W.map V.int) ((0 : Int) + (j : Nat)) = some (.int (W.getD j 0)) := by
  refine atI_int (by omega) (by rw [List.length_map]; omega) ?_
  have : ((0 : Int) + (j : Nat)).toNat = j := by omega
  rw [this, List.getElem?_map, List.getElem?_eq_getElem h, List.getD_eq_getElem?_getD, List.getElem?_eq_getElem h]
  rfl
/-- what is true of a drawn row -/
structure RowOk (n : Nat) (sc : Int) (vl : Nat → Int) (i : Nat) (ws : List Int) : Prop where
  len : ws.length = n
  z : ws.getD i 0 = 0
  lo : ∀ j, j < n → sc * (vl j - vl i) ≤ ws.getD j 0
  hi : ∀ j, j < n → ws.getD j 0 ≤ sc * 100
def sp__law_drawn_rows (K : PySem.W.Frag) : Sp := fun vs H Q _ => ∃ (F : Hp) (b : Addr) (n : Nat), vs = [.ref b, .int (n : Nat)] ∧ Bag K b F H ∧ Same F H ∧ 1 ≤ n ∧ n ≤ 21 ∧
  ∀ F' H' v f, Sb b F H F' H' → Bag K b F' H' → Tb K false F' v n f → Cld n f → (∀ a b, a < n → b < n → f a b ≤ 10 ^ 20 * 100) → Q v H'
theorem c__law_drawn_rows (T : Txt K mg a) : Cl P w K mg base 3 "_law_drawn_rows" P__law_drawn_rows (sp__law_drawn_rows K) [] :=
  T.d__law_drawn_rows.cl sc__law_drawn_rows (fun vs H Q E h => by obtain ⟨F, b, m, rfl, _⟩ := h; rfl) fun f cdv A outer s H vs Q E hr h => by
    obtain ⟨F, b, n, rfl, hB, hf, n1, n21, k⟩ := h
    refine ⟨_, ((pss_cons (ps_set (i := 2) sc__law_drawn_rows.nd rfl (Or.inr rfl) (pe_f (c__law_choice T) (takes_of rfl rfl rfl rfl) hr (by decide) rfl (pa_cons (pv 0) (pa_cons (pe_lst (pa_cons pe_int (pa_cons pe_int (pa_cons pe_int (pa_cons pe_int (pa_cons pe_int (pa_cons (pe_op op_pow pe_int pe_int) pa_nil))))))) pa_nil))))
 (pss_cons (ps_set (i := 3) sc__law_drawn_rows.nd rfl (Or.inr rfl) (pe_f (c__law_choice T) (takes_of rfl rfl rfl rfl) hr (by decide) rfl (pa_cons (pv 0) (pa_cons (pe_lst (pa_cons pe_int (pa_cons pe_int (pa_cons pe_int (pa_cons pe_int (pa_cons pe_int pa_nil)))))) pa_nil))))
 (pss_cons (ps_set (i := 4) sc__law_drawn_rows.nd rfl (Or.inr rfl) (pe_op op_cat (pe_lst (pa_cons pe_int pa_nil)) (pe_lc (own := [("_law_k", 8)]) (g := (gName 8)) (by rfl) sc__law_drawn_rows.nd (pi_range1 (by rfl) T.n_range (pa_cons (pe_op op_sub (pv 1) pe_int) pa_nil)) (blkOk_by (own := [("_law_k", 8)]) (N := N__law_drawn_rows) (sc := defScope s__law_drawn_rows) (by decide +kernel)) (fun _ _ _ _ _ => (pg_name (i := 8) sc__law_drawn_rows.nd rfl (Or.inl rfl) (hf := .inr rfl))) (fun _ _ _ _ _ => pts_nil) (fun _ _ _ _ _ => (pe_op op_sub (pe_f (c__law_pick T) takes0 hr (by decide) rfl (pa_cons (pv 0) (pa_cons pe_int pa_nil))) pe_int)))))
 (pss_cons (ps_set (i := 5) sc__law_drawn_rows.nd rfl (Or.inl rfl) (pe_lst pa_nil))
 (pss_cons (ps_for (passes_of rfl) rfl (pi_range1 (by rfl) T.n_range (pa_cons (pv 1) pa_nil)) (pg_name (i := 6) sc__law_drawn_rows.nd rfl (Or.inr rfl))
 (pss_cons (ps_setLc (i := 7) (own := [("_law_b", 9)]) (g := (gName 9)) (by rfl) sc__law_drawn_rows.nd rfl rfl (sw_true rfl rfl rfl (by decide +kernel)) (pi_range1 (by rfl) T.n_range (pa_cons (pv 1) pa_nil)) (blkOk_by (own := [("_law_b", 9)]) (N := N__law_drawn_rows) (sc := defScope s__law_drawn_rows) (by decide +kernel)) (fun _ _ _ _ _ => (pg_name (i := 9) sc__law_drawn_rows.nd rfl (Or.inl rfl) (hf := .inr rfl))) (fun _ _ _ _ _ => pts_nil) (fun _ _ _ _ _ => (pe_op op_mul (pv 2) (pe_op op_add (pe_op op_sub (pe_ix (r := rIxL K) ix_list (pv 4) (pv 9) (fun _ _ => rfl)) (pe_ix (r := rIxL K) ix_list (pv 4) (pv 6) (fun _ _ => rfl))) (pe_f (c__law_pick T) takes0 hr (by decide) rfl (pa_cons (pv 0) (pa_cons (pv 3) pa_nil)))))))
 (pss_cons (ps_asg pe_int (pg_sub (pv 7) (pv 6) set_list))
 (pss_one (ps_expr (pe_bm PySem.F.plainAttrs_list PySem.F.slot_list_append PySem.F.type_list_append mt_append (pv 5) (pa_cons (pv 7) pa_nil)))))))
 (pss_one (ps_ret (pe_f (c__law_closing T) (takes_of rfl rfl rfl rfl) hr (by decide) rfl (pa_cons (pv 5) pa_nil)))))))))), ?_⟩
    refine ⟨_, rfl, _, _, rfl, rfl, ⟨by decide, by decide, by decide⟩, by show 6 ≤ sizeLine; decide, fun p1 h1 => ?_⟩
    obtain ⟨s1, B1⟩ := newB (o := .lst [.int 1, .int 1, .int 1, .int 1, .int 1, .int (10 ^ 20)]) (Stm.refl hf) hB h1
    refine ⟨_, b, _, [.int 1, .int 1, .int 1, .int 1, .int 1, .int (10 ^ 20)], rfl, .inl ⟨p1, rfl, SqL.of upd_same⟩, by simp, by decide, B1, s1.fh, fun H2 x i s2 B2 hx => ?_⟩
    obtain ⟨sc, rfl, sc1, sc2⟩ : ∃ sc : Int, x = .int sc ∧ 1 ≤ sc ∧ sc ≤ 10 ^ 20 := by
      have := List.mem_of_getElem? hx
      simp only [List.mem_cons, List.not_mem_nil, or_false] at this
      rcases this with rfl | rfl | rfl | rfl | rfl | rfl
      · exact ⟨_, rfl, by decide, by decide⟩
      · exact ⟨_, rfl, by decide, by decide⟩
      · exact ⟨_, rfl, by decide, by decide⟩
      · exact ⟨_, rfl, by decide, by decide⟩
      · exact ⟨_, rfl, by decide, by decide⟩
      · exact ⟨_, rfl, by decide, by decide⟩
    refine gn ?_
    refine ⟨_, rfl, by show 5 ≤ sizeLine; decide, fun p3 h3 => ?_⟩
    obtain ⟨s3, B3⟩ := newB (o := .lst [.int 1, .int 2, .int 5, .int 12, .int 40]) (seqB s1 B1 s2) B2 h3
    refine ⟨_, b, _, [.int 1, .int 2, .int 5, .int 12, .int 40], rfl, .inl ⟨p3, rfl, SqL.of upd_same⟩, by simp, by decide, B3, s3.fh, fun H4 x i s4 B4 hx => ?_⟩
    obtain ⟨sp, rfl, sp1, sp2⟩ : ∃ sp : Int, x = .int sp ∧ 1 ≤ sp ∧ sp ≤ 40 := by
      have := List.mem_of_getElem? hx
      simp only [List.mem_cons, List.not_mem_nil, or_false] at this
      rcases this with rfl | rfl | rfl | rfl | rfl
      · exact ⟨_, rfl, by decide, by decide⟩
      · exact ⟨_, rfl, by decide, by decide⟩
      · exact ⟨_, rfl, by decide, by decide⟩
      · exact ⟨_, rfl, by decide, by decide⟩
      · exact ⟨_, rfl, by decide, by decide⟩
    refine gn ?_
    have s04 := seqB s3 B3 s4
    generalize upd (upd F p1 (.lst [.int 1, .int 1, .int 1, .int 1, .int 1, .int (10 ^ 20)])) p3 (.lst [.int 1, .int 2, .int 5, .int 12, .int 40]) = F4 at s04 B4
    refine ⟨by show 1 ≤ sizeLine; decide, fun p5 h5 => ?_⟩
    obtain ⟨s5, B5⟩ := newB (o := .lst [.int 0]) s04 B4 h5
    refine ⟨_, rfl, _, _, rfl, rfl, _, rfl, by omega, by omega, fun D hD => ?_⟩
    refine lcM (memB K b) walk_range s5.fh B5 hD (fun i _ y => ∃ v : Int, y = V.int v ∧ (-20 ≤ v ∧ v ≤ 20)) (fun _ _ _ _ _ z => z) (by omega) (fun _ _ _ _ => trivial) ?_ ?_
    · rintro i x F' _ H1 Kt Kn hi s6 B6 ⟨rfl, rfl⟩ kk
      exact ⟨rfl, lc_yes ⟨_, rfl, F', b, 41, rfl, B6, s6.fh, by decide, sz_of 6 (by decide) (by decide), fun H2 v s7 B7 v0 v1 => ⟨_, _, rfl, rfl, kk _ F' H2 s7 B7 ⟨v - 20, rfl, by omega, by omega⟩⟩⟩⟩
    intro F6 H6 ys s6 B6 hD6 hy hr
    obtain ⟨ws, rfl, hws⟩ := ints_of (P := fun _ v => -20 ≤ v ∧ v ≤ 20) hr
    rw [List.length_map] at hy
    have t6 := seqB s5 B5 s6
    have h56 : H6 p5 = some (.lst [.int 0]) := s6.fh _ _ (s6.ff _ _ upd_same)
    refine ⟨p5, D, [.int 0], ws.map V.int, rfl, rfl, h56, s6.fh _ _ hD6, by rw [List.length_map, sizeLine_eq]; show 1 + ws.length ≤ _; omega, fun vp hvp => ?_⟩
    obtain ⟨t7, B7⟩ := newB (o := .lst ((0 :: ws).map V.int)) t6 B6 hvp
    have hv7 : (upd F6 vp (.lst ((0 :: ws).map V.int))) vp = some (.lst ((0 :: ws).map V.int)) := upd_same
    generalize hW : (0 :: ws : List Int) = W at t7 B7 hv7
    have Wl : W.length = n := by rw [← hW, List.length_cons]; omega
    have Wb : ∀ j, -20 ≤ W.getD j 0 ∧ W.getD j 0 ≤ 20 := fun j => by
      rw [← hW, List.getD_eq_getElem?_getD]
      cases j with
      | zero => exact ⟨by show -20 ≤ (0 : Int); decide, by show (0 : Int) ≤ 20; decide⟩
      | succ j =>
        rw [List.getElem?_cons_succ]
        cases e : ws[j]? with
        | none => exact ⟨by decide, by decide⟩
        | some v => exact hws j v e
    have eW : ([V.int 0] ++ ws.map V.int) = W.map V.int := by rw [← hW]; rfl
    rw [eW]
    refine gn ?_
    generalize upd F6 vp (.lst (W.map V.int)) = F7 at t7 B7 hv7
    generalize upd H6 vp (.lst (W.map V.int)) = H7 at t7 B7 ⊢
    refine ⟨by show 0 ≤ sizeLine; decide, fun L nL => ?_⟩
    have nLb : L ≠ b := fun z => (memB K b).there B7 z nL
    have h0L : H L = none := t7.fresh (fun x z => (memB K b).there B7 z) nL
    have f7L := t7.fh.free nL
    obtain ⟨t8, B8⟩ := rawB (o := .lst []) t7 B7 nL
    refine ⟨_, rfl, (n : Int), rfl, by omega, by omega, ?_⟩
    rw [show ((n : Int)).toNat = n by omega]
    refine for_it walk_range (fun i σ' H' => ∃ F' xs R c6 c7, σ' = [some (.ref b), some (.int (n : Nat)), some (.int sc), some (.int sp), some (.ref vp), some (.ref L), c6, c7, none, none] ∧ Sb b F H F' H' ∧ Bag K b F' H' ∧ Same F7 F' ∧ F' L = none ∧ H' L = some (.lst xs) ∧ xs.length = i ∧ Paired (fun v (r : List Int) => ∃ q, v = V.ref q ∧ SqL K F' q (r.map V.int)) xs R ∧ ∀ j r, R[j]? = some r → RowOk n sc (fun j => W.getD j 0) j r) ?_ (fun _ _ _ _ _ => trivial) ?_ ?_
    · exact ⟨F7, [], [], none, none, rfl, t8, B8, .refl _, f7L, upd_same, rfl, .nil, fun j r z => by simp at z⟩
    · rintro i _ _ _ H9 hi ⟨F9, xs, R, c6, c7, rfl, t9, B9, e9, f9, h9, xl, pr, al⟩ ⟨rfl, rfl⟩
      refine ⟨_, rfl, (n : Int), rfl, by omega, by omega, fun D2 hD2 => ?_⟩
      rw [show ((n : Int)).toNat = n by omega]
      have hvp9 : SqL K F9 vp (W.map V.int) := SqL.of (e9 _ _ hv7)
      have d2L : D2 ≠ L := fun z => by rw [z, h9] at hD2; cases hD2
      have d2b : D2 ≠ b := fun z => (memB K b).there B9 z hD2
      have h0D : H D2 = none := t9.fresh (fun x z => (memB K b).there B9 z) hD2
      have f9D := t9.fh.free hD2
      refine lc_it walk_range (fun j H' => ∃ acc, Sb b F9 H9 F9 H' ∧ Bag K b F9 H' ∧ H' D2 = some (.lst acc) ∧ acc.length = j ∧ ∀ (m : Nat) y, acc[m]? = some y → ∃ v : Int, y = V.int v ∧ (sc * (W.getD m 0 - W.getD i 0) ≤ v ∧ v ≤ sc * 100)) ?_ (fun _ _ _ _ => trivial) ?_ ?_
      · obtain ⟨u1, u2⟩ := rawB (o := .lst []) (Stm.refl t9.fh) B9 hD2
        exact ⟨[], u1, u2, upd_same, rfl, fun m y z => by simp at z⟩
      · rintro j x _ H10 hj ⟨acc, s10, B10, hD10, al10, hr10⟩ ⟨rfl, rfl⟩
        have hv := upL s10.fh hvp9
        refine ⟨rfl, lc_yes ⟨_, rfl, _, rfl, _, rfl, vp, _, _, _, rfl, rfl, hv, int_at (by omega), _, rfl, _, rfl, vp, _, _, _, rfl, rfl, hv, int_at (by omega), _, _, rfl, rfl, ?_⟩⟩
        refine ⟨_, rfl, _, rfl, F9, b, sp, rfl, B10, s10.fh, by omega, sz_of 6 (by omega) (by decide), fun H11 c s11 B11 c0 c1 => ?_⟩
        have w1 := Wb j
        have w2 := Wb i
        have p64 : (2 : Int) ^ 64 = 18446744073709551616 := by decide
        refine ⟨_, _, rfl, rfl, _, _, rfl, rfl, .inr ⟨by omega, by omega⟩, ?_⟩
        have hD11 := s11.hh D2 _ d2b hD10
        obtain ⟨u1, u2⟩ := mutB (o := .lst (acc ++ [.int (sc * (W.getD j 0 - W.getD i 0 + c))])) (seqB s10 B10 s11) B11 f9D hD2 d2b
        refine ⟨acc, hD11, by rw [sizeLine_eq]; omega, _, u1, u2, upd_same, by rw [List.length_append, al10]; rfl, fun m y hm => ?_⟩
        rcases Nat.lt_or_ge m acc.length with q | q
        · rw [List.getElem?_append_left q] at hm
          exact hr10 m y hm
        · rw [List.getElem?_append_right q] at hm
          have e0 : m - acc.length = 0 := by
            rcases Nat.eq_zero_or_pos (m - acc.length) with z | z
            · exact z
            · rw [List.getElem?_eq_none (by simp; omega)] at hm; cases hm
          rw [e0] at hm
          cases hm
          have : m = j := by omega
          subst this
          exact ⟨_, rfl, Int.mul_le_mul_of_nonneg_left (by omega) (by omega), Int.mul_le_mul_of_nonneg_left (by omega) (by omega)⟩
      rintro H10 ⟨acc, s10, B10, hD10, al10, hr10⟩
      obtain ⟨rs, rfl, hrs⟩ := ints_of (P := fun j v => sc * (W.getD j 0 - W.getD i 0) ≤ v ∧ v ≤ sc * 100) hr10
      rw [List.length_map] at al10
      have t10 := seqB t9 B9 s10
      refine gn ?_
      dsimp only
      refine ⟨_, rfl, _, rfl, D2, _, _, i, rfl, rfl, hD10, ?_, ?_⟩
      · unfold ixN
        rw [if_pos (by omega), if_pos (by rw [List.length_map]; omega)]
        congr 1
        omega
      obtain ⟨t11, B11⟩ := mutB (o := .lst ((rs.map V.int).set i (.int 0))) t10 B10 f9D h0D d2b
      have es : (rs.map V.int).set i (.int 0) = (rs.set i 0).map V.int := by rw [List.map_set]
      rw [es] at t11 B11 ⊢
      have hL11 : (upd H10 D2 (.lst ((rs.set i 0).map V.int))) L = some (.lst xs) := by rw [upd_ne d2L.symm]; exact s10.hh L _ nLb h9
      have hD11 : (upd H10 D2 (.lst ((rs.set i 0).map V.int))) D2 = some (.lst ((rs.set i 0).map V.int)) := upd_same
      generalize upd H10 D2 (.lst ((rs.set i 0).map V.int)) = H11 at t11 B11 hL11 hD11 ⊢
      obtain ⟨t12, B12⟩ := freezeB t11 B11 f9D h0D d2b hD11
      have g12 := same_new (o := .lst ((rs.set i 0).map V.int)) f9D
      have f12 : (upd F9 D2 (.lst ((rs.set i 0).map V.int))) L = none := by rw [upd_ne d2L.symm]; exact f9
      have r12 : SqL K (upd F9 D2 (.lst ((rs.set i 0).map V.int))) D2 ((rs.set i 0).map V.int) := SqL.of upd_same
      have pr12 := Paired.mapP pr fun v (r : List Int) z => (by obtain ⟨q, z1, z2⟩ := z; exact ⟨q, z1, upL g12 z2⟩ : ∃ q, v = V.ref q ∧ SqL K (upd F9 D2 (.lst ((rs.set i 0).map V.int))) q (r.map V.int))
      generalize upd F9 D2 (.lst ((rs.set i 0).map V.int)) = F12 at t12 B12 g12 f12 r12 pr12
      refine ⟨_, rfl, .inl ⟨rfl, _, SqL.of hL11⟩, _, rfl, L, _, _, rfl, rfl, hL11, by rw [sizeLine_eq]; omega, ?_⟩
      obtain ⟨t13, B13⟩ := mutB (o := .lst (xs ++ [.ref D2])) t12 B12 f12 h0L nLb
      have Rl : R.length = i := by rw [← Paired.length pr]; exact xl
      refine ⟨F12, xs ++ [.ref D2], R ++ [rs.set i 0], _, _, rfl, t13, B13, e9.trans g12, f12, upd_same, by rw [List.length_append, xl]; rfl, Paired.snoc pr12 ⟨D2, rfl, r12⟩, fun j r hj => ?_⟩
      rcases Nat.lt_or_ge j R.length with q | q
      · rw [List.getElem?_append_left q] at hj
        exact al j r hj
      · rw [List.getElem?_append_right q] at hj
        have e0 : j - R.length = 0 := by
          rcases Nat.eq_zero_or_pos (j - R.length) with z | z
          · exact z
          · rw [List.getElem?_eq_none (by simp; omega)] at hj; cases hj
        rw [e0] at hj
        cases hj
        have : j = i := by omega
        subst this
        have gd : ∀ m, m < n → (rs.set j 0).getD m 0 = if m = j then 0 else rs.getD m 0 := fun m hm => by
          rw [List.getD_eq_getElem?_getD, List.getD_eq_getElem?_getD, List.getElem?_set]
          by_cases z : j = m
          · subst z
            rw [if_pos rfl, if_pos rfl, if_pos (by omega)]
            rfl
          · rw [if_neg z, if_neg (Ne.symm z)]
        have bd : ∀ m, m < n → sc * (W.getD m 0 - W.getD j 0) ≤ rs.getD m 0 ∧ rs.getD m 0 ≤ sc * 100 := fun m hm => by
          rw [List.getD_eq_getElem?_getD (l := rs), List.getElem?_eq_getElem (by omega : m < rs.length)]
          exact hrs m _ (List.getElem?_eq_getElem (by omega))
        refine ⟨by rw [List.length_set]; exact al10, by rw [gd j hi, if_pos rfl], fun m hm => ?_, fun m hm => ?_⟩
        · rw [gd m hm]
          by_cases z : m = j
          · subst z
            rw [if_pos rfl]
            simp
          · rw [if_neg z]
            exact (bd m hm).1
        · rw [gd m hm]
          by_cases z : m = j
          · rw [if_pos z]
            exact Int.mul_nonneg (by omega) (by decide)
          · rw [if_neg z]
            exact (bd m hm).2
    · rintro _ H9 ⟨F9, xs, R, c6, c7, rfl, t9, B9, e9, f9, h9, xl, pr, al⟩
      have Rl : R.length = n := by rw [← Paired.length pr]; exact xl
      have rowR : ∀ {i : Nat}, i < n → ∃ r, R[i]? = some r ∧ RowOk n sc (fun j => W.getD j 0) i r ∧ R.getD i [] = r := fun {i} hi => by
        obtain ⟨r, hr⟩ : ∃ r, R[i]? = some r := ⟨_, List.getElem?_eq_getElem (by omega)⟩
        exact ⟨r, hr, al i r hr, by rw [List.getD_eq_getElem?_getD, hr]; rfl⟩
      have tb : Tb K false H9 (.ref L) n (tbl R) := ⟨L, xs, rfl, SqL.of h9, xl, fun i u hu => by
        obtain ⟨r, hr, q, rfl, hq⟩ := paired_get pr hu
        refine ⟨q, rfl, ?_⟩
        have hi : i < n := by have := (List.getElem?_eq_some_iff.mp hu).1; omega
        obtain ⟨r', hr', ok, e⟩ := rowR hi
        rw [hr] at hr'
        cases hr'
        have : rowV n (tbl R i) = r.map V.int := by
          rw [← row_tbl ok.len]
          refine rowV_congr fun j _ => ?_
          unfold tbl
          rw [e]
        rw [this]
        exact upL t9.fh hq⟩
      have d0 : ∀ i, i < n → tbl R i i = 0 := fun i hi => by
        obtain ⟨r, _, ok, e⟩ := rowR hi
        unfold tbl
        rw [e]
        exact ok.z
      have cc : Cld n (fun x y => sc * (W.getD y 0 - W.getD x 0)) := ⟨fun x _ => by simp, fun x y z _ _ _ => by rw [← Int.mul_add]; exact Int.le_of_eq (congrArg (sc * ·) (by omega))⟩
      have le : Le n (fun x y => sc * (W.getD y 0 - W.getD x 0)) (tbl R) := fun x y hx hy => by
        obtain ⟨r, _, ok, e⟩ := rowR hx
        unfold tbl
        rw [e]
        exact ok.lo y hy
      have cf : Cld n (K53.fw n (tbl R)) := fw_cld (fun x hx => Int.le_of_eq (d0 x hx)) fun x hx => by
        have h1 := fw_ge cc le n (Nat.le_refl _) x x hx hx
        have h2 := cc.z x hx
        exact Int.le_trans (Int.le_of_eq h2.symm) h1
      refine ⟨_, rfl, _, n, _, rfl, tb, by omega, fun H10 p q e10 r10 => ?_⟩
      obtain ⟨t11, B11⟩ := pureB t9 B9 (stp_all t9.fh e10)
      refine k _ _ _ _ t11 B11 r10.fz cf fun x y hx hy => ?_
      obtain ⟨r, _, ok, e⟩ := rowR hx
      have h1 := fw_le (n := n) (f := tbl R) n x y hx hy
      have h2 : tbl R x y ≤ sc * 100 := by unfold tbl; rw [e]; exact ok.hi y hy
      have h3 : sc * 100 ≤ 10 ^ 20 * 100 := Int.mul_le_mul_of_nonneg_right sc2 (by decide)
      exact Int.le_trans h1 (Int.le_trans h2 h3)
end
end K53

set_option Elab.async false
set_option linter.all false
set_option maxRecDepth 100000
set_option maxHeartbeats 4000000
namespace K53
open PySem PySem.Spec PyProof.Rows L2 Ew
/-! ### worlds: rows of pairs -/
def Low (r : Int × Int) : Prop := 1 ≤ r.2 ∧ Nat.gcd r.1.natAbs r.2.natAbs = 1
abbrev Prs := List (Spot × (Int × Int))
theorem at0 {x y : V} : atI [x, y] 0 = some x := rfl
theorem at1 {x y : V} : atI [x, y] 1 = some y := rfl
/-- a pair of a spot and a ratio at v -/
def Pr (K : PySem.W.Frag) (F : Hp) (v : V) (s : Spot × (Int × Int)) : Prop := ∃ q u w, v = .ref q ∧ SqT K F q [u, w] ∧ Spt K F u s.1 ∧ Rt K F w s.2
/-- the entries of a dict that holds such pairs -/
def Kvs (K : PySem.W.Frag) (F : Hp) (kvs : List (List Key × V)) (L : Prs) : Prop := Paired (fun (c : List Key × V) (s : Spot × (Int × Int)) => c.1 = spK s.1 ∧ Rt K F c.2 s.2) kvs L
def look (L : Prs) (p : Spot) : Option (Int × Int) := (L.find? fun s => decide (s.1 = p)).map (·.2)
theorem look_cons {s : Spot × (Int × Int)} {L : Prs} {p : Spot} : look (s :: L) p = if s.1 = p then some s.2 else look L p := by
  unfold look
  rw [List.find?_cons]
  by_cases h : s.1 = p <;> simp [h]
section
variable {K : PySem.W.Frag} {F F' : Hp} {v : V} {s : Spot × (Int × Int)} {kvs : List (List Key × V)} {L : Prs}
theorem Pr.up (h : Pr K F v s) (e : Same F F') : Pr K F' v s := by obtain ⟨q, u, w, h1, h2, h3, h4⟩ := h; exact ⟨q, u, w, h1, upT e h2, h3.up e, h4.up e⟩
theorem Kvs.up (h : Kvs K F kvs L) (e : Same F F') : Kvs K F' kvs L := Paired.mapP h fun _ _ z => ⟨z.1, z.2.up e⟩
theorem Kvs.get (h : Kvs K F kvs L) (p : Spot) : (valV kvs (spK p) = none ∧ look L p = none) ∨ ∃ w r, valV kvs (spK p) = some w ∧ look L p = some r ∧ Rt K F w r := by
  induction h with
  | nil => exact .inl ⟨valV_nil, rfl⟩
  | @cons c s cs L h t ih =>
    rw [look_cons]
    by_cases e : s.1 = p
    · rw [if_pos e, valV_pos (by rw [h.1, e])]
      exact .inr ⟨_, _, rfl, rfl, h.2⟩
    · rw [if_neg e, valV_neg (fun z => e (spK_inj (h.1.symm.trans z)))]
      exact ih
theorem Kvs.len (h : Kvs K F kvs L) : kvs.length = L.length := Paired.length h
theorem Kvs.snoc (h : Kvs K F kvs L) {w : V} (hw : Rt K F w s.2) : Kvs K F (kvs ++ [(spK s.1, w)]) (L ++ [s]) := Paired.snoc h ⟨rfl, hw⟩
theorem look_none {p : Spot} : look L p = none ↔ p ∉ L.map (·.1) := by
  induction L with
  | nil => simp [look]
  | cons s L ih =>
    rw [look_cons]
    by_cases e : s.1 = p
    · simp [e]
    · rw [if_neg e, ih]
      simp [Ne.symm e]
theorem look_mem {L : Prs} (nd : (L.map (·.1)).Nodup) : ∀ s ∈ L, look L s.1 = some s.2 := by
  induction L with
  | nil => exact fun _ z => nomatch z
  | cons t L ih =>
    intro s m
    rw [List.map_cons, List.nodup_cons] at nd
    rw [look_cons]
    rcases List.mem_cons.mp m with z | z
    · rw [z, if_pos rfl]
    · rw [if_neg]
      · exact ih nd.2 s z
      · intro e
        exact nd.1 (by rw [e]; exact List.mem_map.mpr ⟨s, z, rfl⟩)
end
/-- a row that makes a world -/
structure OkL (L : Prs) : Prop where
  nd : (L.map (·.1)).Nodup
  low : ∀ s ∈ L, Low s.2
  hd : ∀ s, L[0]? = some s → s.1 = ground ∧ s.2.1 = 0
  ok : ∀ s ∈ L, PyData.strOk s.1.1 = true
  ne : L ≠ []
  le : L.length ≤ 1000
theorem not_yet {L : Prs} {j : Nat} {s : Spot × (Int × Int)} (nd : (L.map (·.1)).Nodup) (h : L[j]? = some s) : look (L.take j) s.1 = none := by
  rw [look_none, List.map_take]
  exact not_taken nd (by rw [List.getElem?_map, h]; rfl)
section
variable {P : Program} {w : World} {K : PySem.W.Frag} {mg : Str → Option Value} {base : Heap} {a : Ad}
def sp_is_ratio (K : PySem.W.Frag) : Sp := fun vs H Q _ => ∃ (v : V) (r : Int × Int), vs = [v] ∧ Rt K H v r ∧ Low r ∧ Q (.bl true) H
theorem c_is_ratio (T : Txt K mg a) : Cl P w K mg base 2 "is_ratio" P_is_ratio (sp_is_ratio K) [] :=
  T.d_is_ratio.cl sc_is_ratio (fun vs H Q E h => by obtain ⟨v, r, rfl, _⟩ := h; rfl) fun f cdv A outer s H vs Q E hr h => by
    obtain ⟨_, ⟨n, d⟩, rfl, ⟨p, rfl, hp⟩, ⟨l1, l2⟩, k⟩ := h
    refine ⟨_, ((pss_cons (ps_if (pt_not (pt_val (pe_f (c_is_tuple_of T) (takes_of rfl rfl rfl rfl) hr (by decide) rfl (pa_cons (pv 0) (pa_cons pe_int pa_nil)))))
 (pss_one (ps_ret pe_bl))
 pss_nil)
 (pss_cons (ps_asg (pv 0) (pg_tup rfl (pgs_cons (pg_name (i := 1) sc_is_ratio.nd rfl (Or.inl rfl)) (pgs_cons (pg_name (i := 2) sc_is_ratio.nd rfl (Or.inl rfl)) pgs_nil))))
 (pss_one (ps_ret (pe_and (pe_f (c_is_integer T) (takes_of rfl rfl rfl rfl) hr (by decide) rfl (pa_cons (pv 1) pa_nil)) (pe_and (pe_f (c_is_integer T) (takes_of rfl rfl rfl rfl) hr (by decide) rfl (pa_cons (pv 2) pa_nil)) (pe_and (pe_cmpR op_ge (pv 2) pe_int (nomark _)) (pe_one (pe_cmpR op_eq (pe_callBfun cr_gcd (by rfl) T.gcd (pa_cons (pv 1) (pa_cons (pv 2) pa_nil))) pe_int (nomark _))))))))))), ?_⟩
    refine ⟨_, rfl, _, _, rfl, .inl ⟨p, _, rfl, hp, true, rfl, iteF ?_⟩⟩
    refine ⟨_, rfl, p, _, rfl, hp, rfl, _, _, rfl, _, _, rfl, rfl, ?_⟩
    refine ⟨_, rfl, _, rfl, .inl ⟨_, rfl, _, rfl, iteT ⟨_, rfl, _, rfl, .inl ⟨_, rfl, _, rfl, iteT ?_⟩⟩⟩⟩
    refine ⟨_, rfl, _, _, rfl, rfl, _, rfl, ?_⟩
    have l1 : 1 ≤ d := l1
    rw [decide_eq_true l1]
    refine iteT ⟨_, rfl, _, rfl, _, _, rfl, rfl, ?_⟩
    have l2 : Nat.gcd n.natAbs d.natAbs = 1 := l2
    rw [l2]
    exact k
def sp__values_of (K : PySem.W.Frag) : Sp := fun vs H Q _ => ∃ (t : Bool) (p : Addr) (xs : List V) (L : Prs), vs = [.ref p] ∧ Sq K t H p xs ∧ Paired (fun v s => Pr K H v s) xs L ∧ OkL L ∧
  ∀ H' d o kvs, Same H H' → H d = none → H' d = some (.frz o (.dT kvs)) → Kvs K H kvs L → Q (.ref d) H'
theorem c__values_of (T : Txt K mg a) : Cl P w K mg base 3 "_values_of" P__values_of (sp__values_of K) [] :=
  T.d__values_of.cl sc__values_of (fun vs H Q E h => by obtain ⟨t, p, xs, L, rfl, _⟩ := h; rfl) fun f cdv A outer s H vs Q E hr h => by
    obtain ⟨t, p, xs, L, rfl, hp, pr, ok, k⟩ := h
    have xl : xs.length = L.length := Paired.length pr
    have pos : 0 < L.length := List.length_pos_iff.mpr ok.ne
    have le := ok.le
    refine ⟨_, ((pss_cons (ps_if (PW.pt (pw_or (pt_not (pt_val (pe_f (c_is_row T) (takes_of rfl rfl rfl rfl) hr (by decide) rfl (pa_cons (pv 0) pa_nil)))) (pw_or1 (pt_cmpR op_eq (pe_callB call_len_seq (by rfl) T.n_len (by decide +kernel) (pa_cons (pv 0) pa_nil)) pe_int (nomark _)))))
 (pss_one (ps_raise1 rfl (takes_of rfl rfl rfl rfl) (x_BadWorld T) hr (by decide) rfl pe_int))
 pss_nil)
 (pss_cons (ps_set (i := 1) sc__values_of.nd rfl (Or.inl rfl) pe_dnewT)
 (pss_cons (ps_for (passes_of rfl) rfl (pi_enumX (by rfl) T.n_enumerate (pa_cons (pv 0) pa_nil)) (pg_tup rfl (pgs_cons (pg_name (i := 2) sc__values_of.nd rfl (Or.inl rfl)) (pgs_cons (pg_name (i := 3) sc__values_of.nd rfl (Or.inl rfl)) pgs_nil)))
 (pss_cons (ps_if (pt_not (pt_val (pe_f (c_is_tuple_of T) (takes_of rfl rfl rfl rfl) hr (by decide) rfl (pa_cons (pv 3) (pa_cons pe_int pa_nil)))))
 (pss_one (ps_raise1 rfl (takes_of rfl rfl rfl rfl) (x_BadWorld T) hr (by decide) rfl (pv 2)))
 pss_nil)
 (pss_cons (ps_asg (pv 3) (pg_tup rfl (pgs_cons (pg_name (i := 4) sc__values_of.nd rfl (Or.inl rfl)) (pgs_cons (pg_name (i := 5) sc__values_of.nd rfl (Or.inl rfl)) pgs_nil))))
 (pss_cons (ps_if (PW.pt (pw_or (pt_not (pt_val (pe_f (c_is_spot T) (takes_of rfl rfl rfl rfl) hr (by decide) rfl (pa_cons (pv 4) pa_nil)))) (pw_or (pt_cmp (pc_din (hu_of hr) (pv 4) (pv 1)) rfl) (pw_or1 (pt_not (pt_val (pe_f (c_is_ratio T) (takes_of rfl rfl rfl rfl) hr (by decide) rfl (pa_cons (pv 5) pa_nil))))))))
 (pss_one (ps_raise1 rfl (takes_of rfl rfl rfl rfl) (x_BadWorld T) hr (by decide) rfl (pv 2)))
 pss_nil)
 (pss_cons (ps_if (PW.pt (pw_and (pt_cmpR op_eq (pv 2) pe_int (nomark _)) (pw_and1 (PW.pt (pw_or (pt_cmpR (op_neD hr.units) (pv 4) (pe_glob (by rfl) T.k_GROUND rfl (v := .ref a.aG)) (nomark _)) (pw_or1 (pt_cmpR op_ne (pe_ix ix_tup (pv 5) pe_int (fun _ _ => rfl)) pe_int (nomark _))))))))
 (pss_one (ps_raise1 rfl (takes_of rfl rfl rfl rfl) (x_BadWorld T) hr (by decide) rfl (pv 2)))
 pss_nil)
 (pss_one (ps_dput (hu_of hr) (pv 1) (pv 4) (pv 5) rfl)))))))
 (pss_one (ps_ret (pe_keep (pv 1)))))))), ?_⟩
    refine ⟨_, rfl, arg1 (sp_is_row K) (is_row hp fun H1 e1 => ⟨true, rfl, iteF ⟨_, rfl, p, xs, rfl, (hp.up e1).row, rfl, _, rfl, ?_⟩⟩)⟩
    refine iteN (vint_ne (by omega)) ?_
    refine fun D hD1 => ?_
    have hD : H D = none := e1.free hD1
    dsimp only [gName]
    refine seq_in ?_
    have e2 := e1.trans (same_new (o := .dT []) hD1)
    refine for_enum (t := t) (i := 0) rfl (hp.up e2) (fun j σ' H' => ∃ kvs c2 c3 c4 c5, σ' = [some (.ref p), some (.ref D), c2, c3, c4, c5] ∧ Same H H' ∧ H' D = some (.dT kvs) ∧ Kvs K H kvs (L.take j)) ?_ ?_ ?_ ?_
    · exact ⟨[], none, none, none, none, rfl, e2, upd_same, .nil⟩
    · rintro j σ' H' ⟨kvs, c2, c3, c4, c5, _, e3, _⟩
      exact hp.up e3
    · rintro j _ _ H2 _ hj ⟨kvs, c2, c3, c4, c5, rfl, e3, hD2, hk⟩ ⟨U, y, x, rfl, hU, rfl, ey, hx⟩
      cases ey
      obtain ⟨sj, hsj, q, u, wv, rfl, hq, ⟨qs, rfl, hqs⟩, hrt⟩ := paired_get pr hx
      have e4 := e3.trans (same_new (o := .tup [.int (j : Nat), .ref q]) hU)
      have hD3 := same_new (o := .tup [.int (j : Nat), .ref q]) hU _ _ hD2
      refine ⟨U, _, rfl, sq_new, rfl, _, _, rfl, _, _, rfl, rfl, ?_⟩
      generalize upd H2 U (.tup [.int (j : Nat), .ref q]) = H3 at e4 hD3
      refine ⟨_, rfl, _, _, rfl, .inl ⟨q, _, rfl, upT e4 hq, true, rfl, iteF ?_⟩⟩
      refine ⟨_, rfl, q, _, rfl, upT e4 hq, rfl, _, _, rfl, _, _, rfl, rfl, ?_⟩
      refine ⟨_, rfl, _, rfl, .inl ⟨qs, sj.1, rfl, SqT.of (e4 _ _ hqs), true, rfl, iteF ?_⟩⟩
      have g := hk.get sj.1
      rw [not_yet ok.nd hsj] at g
      obtain ⟨g, _⟩ | ⟨_, _, _, z, _⟩ := g
      case inr => cases z
      have dg := DGet.t hD3 (k := spK sj.1) (e4 _ _ hqs)
      rw [g] at dg
      refine ⟨_, rfl, _, rfl, D, none, rfl, dg, _, rfl, iteF ?_⟩
      refine ⟨_, rfl, arg1 (sp_is_ratio K) ⟨_, _, rfl, hrt.up e4, ok.low sj (List.mem_of_getElem? hsj), ⟨true, rfl, iteF ?_⟩⟩⟩
      have kl : kvs.length ≤ 1000 := by
        rw [hk.len, List.length_take]
        omega
      have fin : ∀ Dn : Ends, Dn.nx [some (.ref p), some (.ref D), some (.int (j : Nat)), some (.ref q), some (.ref qs), some wv] (upd H3 D (.dT (kvs ++ [(spK sj.1, wv)]))) →
          sDPut (tVar 1) (tVar 4) (tVar 5) Dn [some (.ref p), some (.ref D), some (.int (j : Nat)), some (.ref q), some (.ref qs), some wv] H3 := fun Dn z => by
        refine ⟨_, rfl, _, rfl, _, rfl, D, _, rfl, DPut.t (k := spK sj.1) hD3 (e4 _ _ hqs) (by rw [sizeLine_eq]; omega), ?_⟩
        rw [putK_new wv g]
        exact z
      have last : ∃ kvs' c2 c3 c4 c5, ([some (.ref p), some (.ref D), some (.int (j : Nat)), some (.ref q), some (.ref qs), some wv] : L2.St) = [some (.ref p), some (.ref D), c2, c3, c4, c5] ∧ Same H (upd H3 D (.dT (kvs ++ [(spK sj.1, wv)]))) ∧
          upd H3 D (.dT (kvs ++ [(spK sj.1, wv)])) D = some (.dT kvs') ∧ Kvs K H kvs' (L.take (j + 1)) := by
        have : L.take (j + 1) = L.take j ++ [sj] := by
          rw [List.take_add_one, hsj]
          rfl
        rw [this]
        exact ⟨_, _, _, _, _, rfl, same_mut e4 hD, upd_same, hk.snoc hrt⟩
      refine ⟨_, rfl, rfl, _, rfl, ?_⟩
      by_cases h0 : j = 0
      · subst h0
        obtain ⟨g1, g2⟩ := ok.hd sj hsj
        refine iteY (vint_eq rfl) ⟨_, rfl, spD sj.1, spD ground, dp_sp (SqT.of (e4 _ _ hqs)), dp_sp (T.t_GROUND _), (fl_sp (ok.ok sj (List.mem_of_getElem? hsj))).sh (by decide), (fl_sp (by decide +kernel)).sh (by decide), _, rfl, ?_⟩
        rw [eqv_sp, g1, decide_eq_true rfl]
        obtain ⟨pr, rfl, hpr⟩ := hrt.up e4
        refine iteF ⟨_, rfl, pr, _, _, _, rfl, rfl, hpr, at0, rfl, _, rfl, ?_⟩
        refine iteN ?_ (fin _ last)
        rw [g2]
        simp
      · refine iteN (vint_ne (by omega)) ?_
        exact fin _ last
    · rintro _ H2 ⟨kvs, c2, c3, c4, c5, rfl, e3, hD2, hk⟩
      rw [xl, List.take_length] at hk
      refine ⟨_, rfl, D, _, hD2, trivial, fun o => ?_⟩
      exact k _ D o kvs (same_mut e3 hD) hD upd_same hk
end
end K53

set_option Elab.async false
set_option linter.all false
set_option maxRecDepth 100000
set_option maxHeartbeats 4000000
namespace K53
open PySem PySem.Spec PyProof.Rows L2 Ew
/-- at v a world of the pairs of L -/
def Wd (K : PySem.W.Frag) (C : Addr) (F : Hp) (v : V) (L : Prs) : Prop := ∃ x dx d o kvs, v = .ref x ∧ F x = some (.ins C dx [("_values", .ref d)]) ∧ F d = some (.frz o (.dT kvs)) ∧ Kvs K F kvs L
theorem Wd.up {K : PySem.W.Frag} {C : Addr} {F F' : Hp} {v : V} {L : Prs} (h : Wd K C F v L) (e : Same F F') : Wd K C F' v L := by
  obtain ⟨x, dx, d, o, kvs, h1, h2, h3, h4⟩ := h
  exact ⟨x, dx, d, o, kvs, h1, e x _ h2, e d _ h3, h4.up e⟩
section
variable {P : Program} {w : World} {K : PySem.W.Frag} {mg : Str → Option Value} {base : Heap} {a : Ad}
def sp_Winit (K : PySem.W.Frag) (a : Ad) : Sp := fun vs H Q E => ∃ (t : Bool) (x dx p : Addr) (xs : List V) (L : Prs) (H0 : Hp), vs = [.ref x, .ref p] ∧ H x = some (.ins a.World dx []) ∧ Same H0 H ∧ H0 x = none ∧ Sq K t H0 p xs ∧ Paired (fun v s => Pr K H0 v s) xs L ∧ OkL L ∧
  ∀ H', Same H0 H' → Wd K a.World H' (.ref x) L → Q .non H'
theorem mk_World (T : Txt K mg a) : Mkr P w K mg base 4 "World" a.World P_WorldD_initD (sp_Winit K a) := by
  obtain ⟨f, fd, M, F, b⟩ := T.i_World.ex
  refine ⟨T.g_World, f, fd, M, fun_ok F sc_WorldD_initD (fun vs H Q E h => by obtain ⟨t, x, dx, p, xs, L, H0, rfl, _⟩ := h; rfl) fun f cdv A outer s H vs Q E hr h => ?_, b⟩
  obtain ⟨t, x, dx, p, xs, L, H0, rfl, hx, e0, x0, hp, pr, ok, k⟩ := h
  refine ⟨_, ((pss_one (ps_fld (pv 0) (pe_f (c__values_of T) (takes_of rfl rfl rfl rfl) hr (by decide) rfl (pa_cons (pv 1) pa_nil)) rfl))), ?_⟩
  refine ⟨_, rfl, t, p, xs, L, rfl, hp.up e0, Paired.mapP pr fun _ _ z => z.up e0, ok, fun H1 d o kvs e1 hd h1 hk => ?_⟩
  have x1 := e1 _ _ hx
  have e01 := e0.trans e1
  have ne : d ≠ x := fun z => by rw [z, hx] at hd; cases hd
  have kv0 : Kvs K (upd H1 x (.ins a.World dx (putF "_values" (.ref d) []))) kvs L := by
    have : ∀ {c : V} {r : Int × Int}, Rt K H c r → Rt K (upd H1 x (.ins a.World dx (putF "_values" (.ref d) []))) c r := fun {c r} z => by
      obtain ⟨q, z1, z2⟩ := z
      refine ⟨q, z1, ?_⟩
      have z3 := upT e1 z2
      exact sqT_ins z3 x1
    exact Paired.mapP hk fun _ _ z => ⟨z.1, this z.2⟩
  exact ⟨_, rfl, x, a.World, dx, [], rfl, x1, T.wki.cl, T.wnV, Nat.le_of_ble_eq_true rfl, k _ (same_mut e01 x0) ⟨x, dx, d, o, kvs, rfl, upd_same, by rw [upd_ne ne]; exact h1, kv0⟩⟩
/-- World(row), what stands before the call -/
theorem mk_wd {H : Hp} {t : Bool} {p : Addr} {xs : List V} {L : Prs} {Q : Addr → Hp → Prop} {E : XK} (hp : Sq K t H p xs) (pr : Paired (fun v s => Pr K H v s) xs L) (ok : OkL L)
    (k : ∀ H' x, Same H H' → Wd K a.World H' (.ref x) L → Q x H') :
    ∀ o d, H o = none → H d = none → d ≠ o → sp_Winit K a (.ref o :: [.ref p]) (upd (upd H d (.own o)) o (.ins a.World d [])) (fun v H2 => v = .non ∧ Q o H2) E := by
  intro o d ho hd ne
  have ho' : (upd H d (.own o)) o = none := by rw [upd_ne (Ne.symm ne)]; exact ho
  exact ⟨t, o, d, p, xs, L, H, rfl, upd_same, (same_new hd).trans (same_new ho'), ho, hp, pr, ok, fun H' e z => ⟨rfl, k H' o e z⟩⟩
def sp_get (K : PySem.W.Frag) (a : Ad) : Sp := fun vs H Q E => ∃ (x v : V) (L : Prs) (p : Spot) (r : Int × Int), vs = [x, v] ∧ Wd K a.World H x L ∧ Spt K H v p ∧ look L p = some r ∧ ∀ u, Rt K H u r → Q u H
theorem o_World_getitem (T : Txt K mg a) : OwC P w K mg base 3 a.World "__getitem__" P_WorldD_getitemD (sp_get K a) := by
  obtain ⟨f, fd, M, hfn, F, b⟩ := T.wo_getitem.ex
  refine ⟨f, fd, M, hfn, fun_ok F sc_WorldD_getitemD (fun vs H Q E h => by obtain ⟨x, v, L, p, r, rfl, _⟩ := h; rfl) fun f cdv A outer s H vs Q E hr h => ?_, b⟩
  obtain ⟨_, _, L, p, r, rfl, ⟨x, dx, d, o, kvs, rfl, e1, e2, e3⟩, ⟨q, rfl, hq⟩, hl, k⟩ := h
  refine ⟨_, ((pss_cons (ps_if (PW.pt (pw_or (pt_not (pt_val (pe_f (c_is_spot T) (takes_of rfl rfl rfl rfl) hr (by decide) rfl (pa_cons (pv 1) pa_nil)))) (pw_or1 (pt_cmp (pc_dnotin (hu_of hr) (pv 1) (pe_fld (pv 0) rfl)) rfl))))
 (pss_one (ps_raise1 rfl (takes_of rfl rfl rfl rfl) (x_NoSpot T) hr (by decide) rfl (pv 1)))
 pss_nil)
 (pss_one (ps_ret (pe_dget (hu_of hr) (pe_fld (pv 0) rfl) (pv 1) (fun _ _ => rfl)))))), ?_⟩
  refine ⟨_, rfl, _, rfl, .inl ⟨q, p, rfl, SqT.of hq, true, rfl, iteF ?_⟩⟩
  have dg : DGet H d (.ref q) (valV kvs (spK p)) := .inr ⟨kvs, spK p, q, .inr ⟨o, e2⟩, rfl, hq, rfl⟩
  refine ⟨_, rfl, _, rfl, x, a.World, dx, _, _, rfl, e1, T.wki.cl, T.wnV, rfl, d, _, rfl, dg, ?_⟩
  rcases e3.get p with ⟨g1, g2⟩ | ⟨u, r', g1, g2, g3⟩
  · rw [hl] at g2
    cases g2
  · rw [hl] at g2
    cases g2
    rw [g1] at dg ⊢
    refine ⟨false, rfl, iteF ⟨_, rfl, x, a.World, dx, _, _, rfl, e1, T.wki.cl, T.wnV, rfl, _, rfl, d, u, rfl, dg, k u g3⟩⟩
def sp_wlen (K : PySem.W.Frag) (a : Ad) : Sp := fun vs H Q _ => ∃ (x : V) (L : Prs), vs = [x] ∧ Wd K a.World H x L ∧ Q (.int (L.length : Nat)) H
theorem o_World_len (T : Txt K mg a) : OwC P w K mg base 1 a.World "__len__" P_WorldD_lenD (sp_wlen K a) := by
  obtain ⟨f, fd, M, hfn, F, b⟩ := T.wo_len.ex
  refine ⟨f, fd, M, hfn, fun_ok F sc_WorldD_lenD (fun vs H Q E h => by obtain ⟨x, L, rfl, _⟩ := h; rfl) fun f cdv A outer s H vs Q E hr h => ?_, b⟩
  obtain ⟨_, L, rfl, ⟨x, dx, d, o, kvs, rfl, e1, e2, e3⟩, k⟩ := h
  refine ⟨_, ((pss_one (ps_ret (pe_callB call_lenF (by rfl) T.n_len (by decide +kernel) (pa_cons (pe_fld (pv 0) rfl) pa_nil))))), ?_⟩
  rw [← e3.len] at k
  exact ⟨_, rfl, x, a.World, dx, _, _, rfl, e1, T.wki.cl, T.wnV, rfl, d, kvs, rfl, .inr ⟨o, e2⟩, k⟩
theorem it_World (T : Txt K mg a) : ItrC P w K mg base 1 a.World "_values" := by
  obtain ⟨f, fd, M, hfn, F, b⟩ := T.wo_iter.ex
  refine ⟨f, fd, M, fun_it F sc_WorldD_iterD (by rfl) T.n_iter fun cdv A outer s H => ⟨_, pe_fld (pv 0) rfl, by rfl, by rfl, fun H1 Q x dx d fs h1 h2 q => ?_⟩, b⟩
  exact ⟨_, rfl, x, a.World, dx, fs, _, rfl, h1, T.wki.cl, T.wnV, h2, q⟩
end
end K53

set_option Elab.async false
set_option linter.all false
set_option maxRecDepth 100000
set_option maxHeartbeats 4000000
namespace Ew
open PySem PySem.Spec PyProof.Rows L2
/-! ### zip(three tuples) -/
def ItzW (K : PySem.W.Frag) (a b c : Addr) : It where
  go := fun i H => ∃ (xs ys zs : List V) (x y z : V), SqT K H a xs ∧ SqT K H b ys ∧ SqT K H c zs ∧ xs[i]? = some x ∧ ys[i]? = some y ∧ zs[i]? = some z
  yld := fun i H v H' => ∃ T x y z, v = .ref T ∧ H T = none ∧ H' = upd H T (.tup [x, y, z]) ∧ (∀ xs, SqT K H a xs → xs[i]? = some x) ∧ (∀ ys, SqT K H b ys → ys[i]? = some y) ∧ ∀ zs, SqT K H c zs → zs[i]? = some z
  stop := fun i H => ∃ xs ys zs : List V, SqT K H a xs ∧ SqT K H b ys ∧ SqT K H c zs ∧ i ≤ xs.length ∧ i ≤ ys.length ∧ i ≤ zs.length ∧ (i = xs.length ∨ i = ys.length ∨ i = zs.length)
def TnW (z TI TO i1 i2 i3 a b c : Addr) (i : Nat) (h : Heap) : Prop := IsZip h z TI TO .none ∧ IsTupOf3 h TI (.ref i1) (.ref i2) (.ref i3) ∧ (∃ x y u, IsTupOf3 h TO x y u) ∧ h.IsTupleIter i1 a i ∧ h.IsTupleIter i2 b i ∧ h.IsTupleIter i3 c i
theorem six {c z TI TO i1 i2 i3 : Addr} (h : c ∈ [z, TI, TO, i1, i2, i3]) : c = z ∨ c = TI ∨ c = TO ∨ c = i1 ∨ c = i2 ∨ c = i3 := by
  simp only [List.mem_cons, List.not_mem_nil, or_false] at h
  exact h
theorem turn_zipW {P : Program} {w : World} {K : PySem.W.Frag} {elts : List Expr} {kk : Nat} {tpos : Pos} {a b d z TI TO i1 i2 i3 : Addr} (S : ZipSep3 z TI TO i1 i2 i3 [i1, a] [i2, b] [i3, d]) (na : a ≠ i1) (nb : b ≠ i2) (nd : d ≠ i3) :
    Turn P w K (.Tuple elts kk tpos) (ItzW K a b d) [z, TI, TO, i1, i2, i3] z (TnW z TI TO i1 i2 i3 a b d) where
  mem := List.mem_cons_self
  obj := fun i h st c hc => by
    obtain ⟨q1, q2, ⟨_, _, _, q3⟩, ⟨o4, q4, _, d4⟩, ⟨o5, q5, _, d5⟩, ⟨o6, q6, _, d6⟩⟩ := st
    rcases six hc with rfl | rfl | rfl | rfl | rfl | rfl
    · exact ⟨_, q1, fun v e => nomatch e⟩
    · exact ⟨_, q2, fun v e => nomatch e⟩
    · exact ⟨_, q3, fun v e => nomatch e⟩
    · exact ⟨o4, q4, fun v e => by rw [d4] at e; cases e⟩
    · exact ⟨o5, q5, fun v e => by rw [d5] at e; cases e⟩
    · exact ⟨o6, q6, fun v e => by rw [d6] at e; cases e⟩
  keep := fun i h h' st k => by
    obtain ⟨q1, q2, ⟨x, y, u, q3⟩, q4, q5, q6⟩ := st
    refine ⟨k _ List.mem_cons_self _ q1, k _ (by simp) _ q2, ⟨x, y, u, k _ (by simp) _ q3⟩, q4.at fun o e => ?_, q5.at fun o e => ?_, q6.at fun o e => ?_⟩
    · exact k _ (by simp) o e
    · exact k _ (by simp) o e
    · exact k _ (by simp) o e
  item := by
    intro X hP hw hK hc i pins s σ H E I hf st go
    subst hP hw hK
    obtain ⟨q1, q2, ⟨x0, y0, u0, q3⟩, q4, q5, q6⟩ := st
    obtain ⟨xs, ys, us, x, y, u, sx, sy, su, hx, hy, hu⟩ := go
    obtain ⟨l1, r1, p1, _⟩ := I.tuple sx
    obtain ⟨l2, r2, p2, _⟩ := I.tuple sy
    obtain ⟨l3, r3, p3, _⟩ := I.tuple su
    obtain ⟨u1, hu1, ru1⟩ := r1.get hx
    obtain ⟨u2, hu2, ru2⟩ := r2.get hy
    obtain ⟨u3, hu3, ru3⟩ := r3.get hu
    have hh := I.ok.hd hc
    have D1 := Draws.tuple (prog := X.prog) (w := X.w) (A := X.A.in1) hh i1 a na l1.toArray
    have D2 := Draws.tuple (prog := X.prog) (w := X.w) (A := X.A.in1) hh i2 b nb l2.toArray
    have D3 := Draws.tuple (prog := X.prog) (w := X.w) (A := X.A.in1) hh i3 d nd l3.toArray
    have g1 : i < l1.toArray.size := by
      rw [List.size_toArray]
      exact (List.getElem?_eq_some_iff.mp hu1).1
    have g2 : i < l2.toArray.size := by
      rw [List.size_toArray]
      exact (List.getElem?_eq_some_iff.mp hu2).1
    have g3 : i < l3.toArray.size := by
      rw [List.size_toArray]
      exact (List.getElem?_eq_some_iff.mp hu3).1
    have zl := Heap.lt_size q1
    refine wpAny_pyNext_zipD3_item S D1 D2 D3 q1 q2 q3 ⟨q4, p1⟩ ⟨q5, p2⟩ ⟨q6, p3⟩ g1 g2 g3 fun v1 v2 v3 h' tk e1 e2 e3 w1 w2 w3 w4 w5 w6 w7 w8 => ?_
    rw [List.getElem?_toArray, hu1] at e1
    rw [List.getElem?_toArray, hu2] at e2
    rw [List.getElem?_toArray, hu3] at e3
    cases e1
    cases e2
    cases e3
    refine ⟨_, rfl, wpAny_letOwnedTupleGo_zip (s := { s with heap := h', toks := tk }) w1 fun h'' w1' sb => ?_⟩
    have nw : h''.get? s.heap.objs.size = some { cls := .type "tuple", data := .seq #[u1, u2, u3] } := (sb.2 _ (Nat.ne_of_gt zl)).trans w6
    have ob : ObjOk X.prog X.w (upd H s.heap.objs.size (.tup [x, y, u])) h'' s.heap.objs.size (.tup [x, y, u]) := by
      refine ⟨?_, [u1, u2, u3], .cons ru1 (.cons ru2 (.cons ru3 .nil)), ⟨_, nw, rfl, _, rfl⟩⟩
      show 3 ≤ sizeLine
      decide
    have off : ∀ c o, c ∉ [z, TI, TO, i1, i2, i3] → s.heap.get? c = some o → h''.get? c = some o := fun c o hb e => by
      have n : c ≠ z ∧ c ≠ TO ∧ c ≠ i1 ∧ c ≠ i2 ∧ c ≠ i3 := ⟨fun q => hb (by simp [q]), fun q => hb (by simp [q]), fun q => hb (by simp [q]), fun q => hb (by simp [q]), fun q => hb (by simp [q])⟩
      exact (sb.2 c n.1).trans (w8 c o n.1 n.2.1 n.2.2.1 n.2.2.2.1 n.2.2.2.2 e)
    have I1 : Inv X pins σ (upd H s.heap.objs.size (.tup [x, y, u])) { s with heap := h'', toks := tk } := I.turnedNew off hf (Nat.le_refl _) ob
    refine ⟨.ref s.heap.objs.size, _, I1, rfl, ⟨_, x, y, u, rfl, I.hok.fresh (Nat.le_refl _), rfl, fun l hl => ?_, fun l hl => ?_, fun l hl => ?_⟩, ⟨w1', ?_, ⟨u1, u2, u3, ?_⟩, ?_, ?_, ?_⟩, fun c hcm => ?_⟩
    · rw [I.tuple_inj hl sx]; exact hx
    · rw [I.tuple_inj hl sy]; exact hy
    · rw [I.tuple_inj hl su]; exact hu
    · exact (sb.2 _ S.TIz).trans (w8 _ _ S.TIz S.TITO S.TIi1 S.TIi2 S.TIi3 q2)
    · exact (sb.2 _ S.TOz).trans w2
    · exact w3.1.at fun o e => (sb.2 _ S.zi1.symm).trans e
    · exact w4.1.at fun o e => (sb.2 _ S.zi2.symm).trans e
    · exact w5.1.at fun o e => (sb.2 _ S.zi3.symm).trans e
    · have lt : c < s.heap.objs.size := by
        rcases six hcm with rfl | rfl | rfl | rfl | rfl | rfl
        · exact zl
        · exact Heap.lt_size q2
        · exact Heap.lt_size q3
        · obtain ⟨_, e, _⟩ := q4; exact Heap.lt_size e
        · obtain ⟨_, e, _⟩ := q5; exact Heap.lt_size e
        · obtain ⟨_, e, _⟩ := q6; exact Heap.lt_size e
      rw [upd_ne (Nat.ne_of_lt lt)]
      exact (hf c hcm).1
  done := by
    intro X hP hw hK hc i pins s σ H E I hf st go
    subst hP hw hK
    obtain ⟨q1, q2, ⟨x0, y0, u0, q3⟩, q4, q5, q6⟩ := st
    obtain ⟨xs, ys, us, sx, sy, su, h1, h2, h3, h4⟩ := go
    obtain ⟨l1, r1, p1, _⟩ := I.tuple sx
    obtain ⟨l2, r2, p2, _⟩ := I.tuple sy
    obtain ⟨l3, r3, p3, _⟩ := I.tuple su
    have e1 := r1.length
    have e2 := r2.length
    have e3 := r3.length
    have hh := I.ok.hd hc
    have D1 := Draws.tuple (prog := X.prog) (w := X.w) (A := X.A.in1) hh i1 a na l1.toArray
    have D2 := Draws.tuple (prog := X.prog) (w := X.w) (A := X.A.in1) hh i2 b nb l2.toArray
    have D3 := Draws.tuple (prog := X.prog) (w := X.w) (A := X.A.in1) hh i3 d nd l3.toArray
    refine wpAny_pyNext_zipD3_end S D1 D2 D3 q1 q2 q3 ⟨q4, p1⟩ ⟨q5, p2⟩ ⟨q6, p3⟩ (by rw [List.size_toArray]; omega) (by rw [List.size_toArray]; omega) (by rw [List.size_toArray]; omega) (by rw [List.size_toArray, List.size_toArray, List.size_toArray]; omega) fun h' tk k => ⟨rfl, ?_⟩
    exact I.turnedL (ch := [z, TI, TO, i1, i2, i3]) (fun c o hb e => k c o (fun q => hb (by simp [q])) (fun q => hb (by simp [q])) (fun q => hb (by simp [q])) (fun q => hb (by simp [q])) (fun q => hb (by simp [q])) e) hf
  self := fun A i s Q E st h => wpAny_pyIter_zip st.1 h
def iZipW (K : PySem.W.Frag) (ta : TA) : TI := fun σ H R => ta σ H fun vs H1 => ∃ a b c xs ys zs, vs = [.ref a, .ref b, .ref c] ∧ SqT K H1 a xs ∧ SqT K H1 b ys ∧ SqT K H1 c zs ∧ R (ItzW K a b c) H1
theorem vals3 {x y z : V} {us : List Value} (r : Vals [x, y, z] us) : ∃ u v t, us = [u, v, t] ∧ RelV x u ∧ RelV y v ∧ RelV z t := by
  cases r with
  | cons r1 r =>
    cases r with
    | cons r2 r =>
      cases r with
      | cons r3 r =>
        cases r
        exact ⟨_, _, _, rfl, r1, r2, r3⟩
theorem pi_zipW {X : Cx} {e e2 e3 : Expr} {ta : TA} {p pos tpos : Pos} {elts : List Expr} {kk : Nat} (hg : Gl X "zip") (hm : X.mg "zip" = none) (ha : PA X [e, e2, e3] ta)
    (hs : starEach [e, e2, e3] X.env = (false, eval e X.env) :: starEach [e2, e3] X.env := by rfl) (hpl : (backTo pos (starEach [e2, e3] X.env)).any (·.1) = false := by rfl) :
    PI X (.Tuple elts kk tpos) (.Call (.Name "zip" p) [e, e2, e3] [] pos) (iZipW X.K ta) := by
  refine ⟨fun pins s σ H R I h => Call_ (ld_blt I hg hm PyProof.Rows.boot_zip (PyProof.Rows.callWith_type1 (thn (ha.run pos pins s σ H _ I h) fun us s1 ⟨vs, H1, I1, r1, q⟩ => ?_) hs hpl))⟩
  obtain ⟨a, b, d, xs, ys, zs, rfl, sx, sy, sz, q⟩ := q
  obtain ⟨u, v, t, rfl, ru, rv, rt⟩ := vals3 r1
  cases ru
  cases rv
  cases rt
  obtain ⟨l1, r1, p1, _⟩ := I1.tuple sx
  obtain ⟨l2, r2, p2, _⟩ := I1.tuple sy
  obtain ⟨l3, r3, p3, _⟩ := I1.tuple sz
  have la : a < s1.heap.objs.size := by
    obtain ⟨o, e, _⟩ := id p1
    exact Heap.lt_size e
  have lb : b < s1.heap.objs.size := by
    obtain ⟨o, e, _⟩ := id p2
    exact Heap.lt_size e
  have ld : d < s1.heap.objs.size := by
    obtain ⟨o, e, _⟩ := id p3
    exact Heap.lt_size e
  have S := zip_sep3 (N := s1.heap.objs.size) (fp1 := [a]) (fp2 := [b]) (fp3 := [d]) (fun c hc => by simp at hc; rw [hc]; exact la) (fun c hc => by simp at hc; rw [hc]; exact lb) (fun c hc => by simp at hc; rw [hc]; exact ld)
  refine zip_begins3 (begins_tuple a l1.toArray) (begins_tuple b l2.toArray) (begins_tuple d l3.toArray) p1 p2 p3 fun h' w1 w2 w3 w4 w5 w6 w7 k => wpAny_pyIter_zip w1 ?_
  have I2 : Inv X pins σ H1 { s1 with heap := h' } := I1.kept k
  refine ⟨s1.heap.objs.size + 5, [s1.heap.objs.size + 5, s1.heap.objs.size + 3, s1.heap.objs.size + 4, s1.heap.objs.size, s1.heap.objs.size + 1, s1.heap.objs.size + 2], _, _, H1, rfl, I2, turn_zipW S (Nat.ne_of_lt la) (Nat.ne_of_lt (Nat.lt_succ_of_lt lb)) (Nat.ne_of_lt (Nat.lt_succ_of_lt (Nat.lt_succ_of_lt ld))), ⟨w1, w2, ⟨_, _, _, w3⟩, ⟨_, w4, rfl, rfl⟩, ⟨_, w5, rfl, rfl⟩, ⟨_, w6, rfl, rfl⟩⟩, fun c hcm => ?_, q⟩
  have le : s1.heap.objs.size ≤ c := by
    rcases six hcm with rfl | rfl | rfl | rfl | rfl | rfl
    · exact Nat.le_add_right _ _
    · exact Nat.le_add_right _ _
    · exact Nat.le_add_right _ _
    · exact Nat.le_refl _
    · exact Nat.le_add_right _ _
    · exact Nat.le_add_right _ _
  exact I1.fpOk le (I1.hok.fresh le)
def YTrip (f g h : Nat → Option V) (i : Nat) (H : Hp) (v : V) (H' : Hp) : Prop := ∃ T x y z, v = .ref T ∧ H T = none ∧ H' = upd H T (.tup [x, y, z]) ∧ f i = some x ∧ g i = some y ∧ h i = some z
/-- three tuples of one length -/
theorem walk_zipW {K : PySem.W.Frag} {a b c : Addr} {xs ys zs : List V} (h1 : xs.length = ys.length) (h2 : xs.length = zs.length) : Walk (ItzW K a b c) xs.length (fun H => SqT K H a xs ∧ SqT K H b ys ∧ SqT K H c zs) (YTrip (fun i => xs[i]?) (fun i => ys[i]?) (fun i => zs[i]?)) := by
  refine ⟨fun i _ hi q => ⟨xs, ys, zs, xs[i], ys[i]'(h1 ▸ hi), zs[i]'(h2 ▸ hi), q.1, q.2.1, q.2.2, by simp [hi], by simp [h1 ▸ hi], by simp [h2 ▸ hi]⟩, fun _ q => ⟨xs, ys, zs, q.1, q.2.1, q.2.2, Nat.le_refl _, by omega, by omega, .inl rfl⟩, fun i H v H' _ q y => ?_⟩
  obtain ⟨t, x, z, u, e1, e2, e3, e4, e5, e6⟩ := y
  exact ⟨t, x, z, u, e1, e2, e3, e4 xs q.1, e5 ys q.2.1, e6 zs q.2.2⟩
end Ew

set_option Elab.async false
set_option linter.all false
set_option maxRecDepth 100000
set_option maxHeartbeats 4000000
namespace K53
open PySem PySem.Spec PyProof.Rows L2 Ew
/-! ### the world that a row tells -/
def wv (ps : List Spot) (h : Nat → Int) : Prs := (List.range ps.length).map fun j => (sg ps j, (h j - h 0, 1))
theorem wv_at {ps : List Spot} {h : Nat → Int} {j : Nat} (hj : j < ps.length) : (wv ps h)[j]? = some (sg ps j, (h j - h 0, 1)) := by
  unfold wv
  rw [List.getElem?_map, List.getElem?_range hj]
  rfl
theorem wv_len {ps : List Spot} {h : Nat → Int} : (wv ps h).length = ps.length := by simp [wv]
theorem sg_range (ps : List Spot) : (List.range ps.length).map (sg ps) = ps := by
  refine List.ext_getElem? fun j => ?_
  rcases Nat.lt_or_ge j ps.length with hj | hj
  · rw [List.getElem?_map, List.getElem?_range hj, List.getElem?_eq_getElem hj]
    show some (sg ps j) = _
    rw [sg_at (List.getElem?_eq_getElem hj)]
  · rw [List.getElem?_eq_none (by simpa using hj), List.getElem?_eq_none hj]
theorem wv_spots {ps : List Spot} {h : Nat → Int} : (wv ps h).map (·.1) = ps := by
  unfold wv
  rw [List.map_map]
  exact sg_range ps
theorem wv_ok {ps : List Spot} {h : Nat → Int} (ok : OkS ps) : OkL (wv ps h) where
  nd := by rw [wv_spots]; exact ok.nd
  low := fun s hs => by
    obtain ⟨j, _, rfl⟩ := List.mem_map.mp hs
    exact ⟨Int.le_refl 1, Nat.gcd_one_right _⟩
  hd := fun s hs => by
    rw [wv_at ok.pos] at hs
    cases hs
    exact ⟨sg_at ok.g, Int.sub_self _⟩
  ok := fun s hs => by
    obtain ⟨j, _, rfl⟩ := List.mem_map.mp hs
    exact sg_ok ok j
  ne := fun z => by
    have := wv_len (ps := ps) (h := h)
    rw [z] at this
    have := ok.pos
    simp at *
    omega
  le := by rw [wv_len]; exact ok.le
theorem wv_look {ps : List Spot} {h : Nat → Int} {j : Nat} (ok : OkS ps) (hj : j < ps.length) : look (wv ps h) (sg ps j) = some (h j - h 0, 1) :=
  look_mem (wv_ok (h := h) ok).nd (sg ps j, (h j - h 0, 1)) (List.mem_of_getElem? (wv_at hj))
theorem paired_range {α : Type} {R : V → α → Prop} {n : Nat} {f : Nat → α} {ys : List V} (hl : ys.length = n) (h : ∀ (j : Nat) y, ys[j]? = some y → R y (f j)) : Paired R ys ((List.range n).map f) := by
  have go : ∀ (ys : List V) (k : Nat), (∀ (j : Nat) y, ys[j]? = some y → R y (f (k + j))) → Paired R ys ((List.range' k ys.length).map f) := by
    intro ys
    induction ys with
    | nil => exact fun _ _ => .nil
    | cons y ys ih =>
      intro k h
      rw [List.length_cons, List.range'_succ, List.map_cons]
      exact .cons (h 0 y rfl) (ih (k + 1) fun j y z => by have := h (j + 1) y z; rwa [show k + (j + 1) = k + 1 + j by omega] at this)
  subst hl
  rw [List.range_eq_range']
  exact go ys 0 fun j y z => by rw [Nat.zero_add]; exact h j y z
theorem mk1 {C : Addr} {sp : Sp} {W : WX} {te : TE} {σ : L2.St} {H : Hp} {Q : VK} (h : te σ H fun v H1 => ∀ o d, H1 o = none → H1 d = none → d ≠ o → sp (.ref o :: [v]) (upd (upd H1 d (.own o)) o (.ins C d [])) (fun v H2 => v = .non ∧ Q (.ref o) H2) (WE W σ)) : tMkW C sp W (tCons te tNil) σ H Q := h
section
variable {P : Program} {w : World} {K : PySem.W.Frag} {mg : Str → Option Value} {base : Heap} {a : Ad}
def sp__reaching (K : PySem.W.Frag) (a : Ad) : Sp := fun vs H Q _ => ∃ (p q : Addr) (ps : List Spot) (h : Nat → Int), vs = [.ref p, .ref q] ∧ Sps K true H p ps ∧ OkS ps ∧ SqT K H q (rowV ps.length h) ∧
  ∀ H' x, Same H H' → Wd K a.World H' (.ref x) (wv ps h) → Q (.ref x) H'
theorem c__reaching (T : Txt K mg a) : Cl P w K mg base 6 "_reaching" P__reaching (sp__reaching K a) [] :=
  T.d__reaching.cl sc__reaching (fun vs H Q E h => by obtain ⟨p, q, ps, h, rfl, _⟩ := h; rfl) fun f cdv A outer s H vs Q E hr h => by
    obtain ⟨p, q, ps, h, rfl, ⟨us, hus, pr⟩, ok, hq, k⟩ := h
    have ul : us.length = ps.length := Paired.length pr
    have le := ok.le
    have pos := ok.pos
    refine ⟨_, ((pss_one (ps_ret (pe_mkW (mk_World T) (takes_of rfl rfl rfl rfl) hr (by decide) rfl (pa_cons (pe_lc (own := [("spot", 2), ("bound", 3)]) (g := (gTup K 2 (gCons (gName 2) (gCons (gName 3) gNil)))) (by rfl) sc__reaching.nd (RZ.pi_zipA (by rfl) T.n_zip (pa_cons (pv 0) (pa_cons (pv 1) pa_nil))) (blkOk_by (own := [("spot", 2), ("bound", 3)]) (N := N__reaching) (sc := defScope s__reaching) (by decide +kernel)) (fun _ _ _ _ _ => (pg_tup rfl (pgs_cons (pg_name (i := 2) sc__reaching.nd rfl (Or.inl rfl) (hf := .inr rfl)) (pgs_cons (pg_name (i := 3) sc__reaching.nd rfl (Or.inl rfl) (hf := .inr rfl)) pgs_nil)))) (fun _ _ _ _ _ => pts_nil) (fun _ _ _ _ _ => (pe_tup (pa_cons (pv 2) (pa_cons (pe_tup (pa_cons (pe_op op_sub (pv 3) (pe_ix (r := rIxT K) ix_tup (pv 1) pe_int (fun _ _ => rfl))) (pa_cons pe_int pa_nil))) pa_nil))))) pa_nil))))), ?_⟩
    refine ret1 (mk1 ?_)
    refine lc_zip (t := true) (i := 0) (j := 1) rfl rfl hus hq (by rw [rowV_len, ul]) (fun j F y => Pr K F y (sg ps j, (h j - h 0, 1))) (fun _ _ _ _ e z => z.up e) (by omega) ?_ ?_
    · rintro j x F' H4 H'' Kt Kn hj s4 ⟨T2, z1, z2, rfl, hT2, rfl, g1, g2⟩ kk
      obtain ⟨_, rfl⟩ := rowV_get g2
      obtain ⟨sj, hsj, hs⟩ := paired_get pr g1
      refine ⟨T2, _, rfl, sq_new, rfl, _, _, rfl, _, _, rfl, rfl, rfl, lc_yes ?_⟩
      have s5 := (Stm.refl s4.fh).newP (o := .tup [z1, .int (h j)]) hT2
      have q5 : SqT K (upd H4 T2 (.tup [z1, .int (h j)])) q (rowV ps.length h) := upT (s4.ff.trans (s4.fh.trans (same_new hT2))) hq
      refine ⟨_, rfl, _, rfl, _, rfl, q, _, _, _, rfl, rfl, q5, atI_int (by decide) (by rw [rowV_len]; omega) (rowV_at pos), ?_⟩
      refine ⟨_, _, rfl, rfl, by show 2 ≤ sizeLine; decide, fun c1 n1 => ?_⟩
      refine ⟨by show 2 ≤ sizeLine; decide, fun c2 n2 => ?_⟩
      have s6 := s5.newP (o := .tup [.int (h j - h 0), .int 1]) n1
      have s7 := s6.newP (o := .tup [z1, .ref c1]) n2
      have f5 := same_new (o := .tup [z1, .int (h j)]) (s4.fh.free hT2)
      have f6 := same_new (o := .tup [.int (h j - h 0), .int 1]) (s5.fh.free n1)
      have f7 := same_new (o := .tup [z1, .ref c1]) (s6.fh.free n2)
      refine kk _ _ _ s7 ⟨c2, z1, .ref c1, rfl, sq_new, ?_, c1, rfl, upT f7 sq_new⟩
      show Spt K _ z1 (sg ps j)
      rw [sg_at hsj]
      exact hs.up (s4.ff.trans (f5.trans (f6.trans f7)))
    · intro F' H4 ys D s4 _ hD' hy hr'
      rw [ul] at hy
      refine mk_wd (t := false) (SqL.of (s4.fh _ _ hD')) (Paired.mapP (paired_range hy hr') fun _ _ z => z.up s4.fh) (wv_ok ok) fun H5 x e5 wd => ?_
      exact k H5 x ((s4.ff.trans s4.fh).trans e5) wd
/-- the first place where two tables differ -/
structure Fst (n : Nat) (f g : Tb2) (i j : Nat) : Prop where
  hi : i < n
  hj : j < n
  ne : f i j ≠ g i j
  b : ∀ x y, y < n → (x < i ∨ (x = i ∧ y < j)) → f x y = g x y
theorem Fst.uniq {n : Nat} {f g : Tb2} {i j i' j' : Nat} (h : Fst n f g i j) (h' : Fst n f g i' j') : i = i' ∧ j = j' := by
  have h1 : ¬ (i < i' ∨ (i = i' ∧ j < j')) := fun q => h.ne (h'.b i j h.hj q)
  have h2 : ¬ (i' < i ∨ (i' = i ∧ j' < j)) := fun q => h'.ne (h.b i' j' h'.hj q)
  omega
theorem Fst.symm {n : Nat} {f g : Tb2} {i j : Nat} (h : Fst n f g i j) : Fst n g f i j := ⟨h.hi, h.hj, Ne.symm h.ne, fun x y hy q => (h.b x y hy q).symm⟩
def Wide (f g : Tb2) (i j : Nat) : Tb2 := if f i j > g i j then f else g
/-- what parted hands back where it finds something -/
def Found (K : PySem.W.Frag) (a : Ad) (H : Hp) (v : V) (ps : List Spot) (f g : Tb2) : Prop := ∃ r u1 u2 x i j, v = .ref r ∧ Fst ps.length f g i j ∧ SqT K H r [u1, u2, .ref x] ∧ Spt K H u1 (sg ps i) ∧ Spt K H u2 (sg ps j) ∧ Wd K a.World H (.ref x) (wv ps (Wide f g i j i))
theorem Found.up {H H' : Hp} {v : V} {ps : List Spot} {f g : Tb2} (h : Found K a H v ps f g) (e : Same H H') : Found K a H' v ps f g := by
  obtain ⟨r, u1, u2, x, i, j, h1, h2, h3, h4, h5, h6⟩ := h
  exact ⟨r, u1, u2, x, i, j, h1, h2, upT e h3, h4.up e, h5.up e, h6.up e⟩
def FoundV (K : PySem.W.Frag) (a : Ad) (H : Hp) (v : V) (ps : List Spot) (f g : Tb2) : Prop := (v = .non ∧ ∀ i j, i < ps.length → j < ps.length → f i j = g i j) ∨ Found K a H v ps f g
theorem FoundV.up {H H' : Hp} {v : V} {ps : List Spot} {f g : Tb2} (h : FoundV K a H v ps f g) (e : Same H H') : FoundV K a H' v ps f g := h.imp id fun z => z.up e
def sp_parted (P : Program) (w : World) (K : PySem.W.Frag) (a : Ad) : Sp := fun vs H Q E => ∃ (x y : V) (ps qs : List Spot) (f g : Tb2), vs = [x, y] ∧ Cd P w K a.Card H x ps f ∧ Cd P w K a.Card H y qs g ∧ OkS ps ∧ OkS qs ∧
  (ps = qs → ∀ H' v, Same H H' → FoundV K a H' v ps f g → Q v H') ∧ (ps ≠ qs → RaH H E a.BadCard fun F' d => F' d = some (.xd [("place", .int (-1))]))
theorem c_parted (T : Txt K mg a) : Cl P w K mg base 7 "parted" P_parted (sp_parted P w K a) [] :=
  T.d_parted.cl sc_parted (fun vs H Q E h => by obtain ⟨x, y, ps, qs, f, g, rfl, _⟩ := h; rfl) fun f cdv A outer s H vs Q E hr h => by
    obtain ⟨_, _, ps, qs, f, g, rfl, ⟨x, dx, sx, d, rx, rfl, hx, h1, h2, h3⟩, ⟨y, dy, sy, d', ry, rfl, hy, h4, h5, h6⟩, ok, ok2, k1, k2⟩ := h
    refine ⟨_, ((pss_cons (ps_if (pt_cmpR (op_neD hr.units) (pe_fld (pv 0) rfl) (pe_fld (pv 1) rfl) (nomark _))
 (pss_one (ps_raise1 rfl (takes_of rfl rfl rfl rfl) (x_BadCard T) hr (by decide) rfl (pe_un un_neg pe_int)))
 pss_nil)
 (pss_cons (ps_for (passes_of rfl) rfl (pi_zipW (by rfl) T.n_zip (pa_cons (pe_fld (pv 0) rfl) (pa_cons (pe_fld (pv 0) rfl) (pa_cons (pe_fld (pv 1) rfl) pa_nil)))) (pg_tup rfl (pgs_cons (pg_name (i := 2) sc_parted.nd rfl (Or.inl rfl)) (pgs_cons (pg_name (i := 3) sc_parted.nd rfl (Or.inl rfl)) (pgs_cons (pg_name (i := 4) sc_parted.nd rfl (Or.inl rfl)) pgs_nil))))
 (pss_one (ps_for (passes_of rfl) rfl (pi_zipW (by rfl) T.n_zip (pa_cons (pe_fld (pv 0) rfl) (pa_cons (pv 3) (pa_cons (pv 4) pa_nil)))) (pg_tup rfl (pgs_cons (pg_name (i := 5) sc_parted.nd rfl (Or.inl rfl)) (pgs_cons (pg_name (i := 6) sc_parted.nd rfl (Or.inl rfl)) (pgs_cons (pg_name (i := 7) sc_parted.nd rfl (Or.inl rfl)) pgs_nil))))
 (pss_one (ps_if (pt_cmpR op_ne (pv 6) (pv 7) (nomark _))
 (pss_one (ps_ret (pe_tup (pa_cons (pv 2) (pa_cons (pv 5) (pa_cons (pe_f (c__reaching T) (takes_of rfl rfl rfl rfl) hr (by decide) rfl (pa_cons (pe_fld (pv 0) rfl) (pa_cons (pe_ifExp (pt_cmpR op_gt (pv 6) (pv 7) (nomark _)) (pv 3) (pv 4)) pa_nil))) pa_nil))))))
 pss_nil)))))
 (pss_one (ps_ret pe_non))))), ?_⟩
    refine ⟨_, rfl, x, a.Card, dx, _, _, rfl, hx, T.ki.cl, T.nS, rfl, _, rfl, y, a.Card, dy, _, _, rfl, hy, T.ki.cl, T.nS, rfl, spsD ps, spsD qs, h1.dp, h4.dp, (fl_sps ok.ok).sh (by decide), (fl_sps ok2.ok).sh (by decide), _, rfl, ?_⟩
    rw [eqv_sps]
    by_cases e : ps = qs
    · subst e
      have k1 := k1 rfl
      rw [decide_eq_true rfl]
      refine iteF ?_
      obtain ⟨us, hus, pr⟩ := id h1
      have ul : us.length = ps.length := Paired.length pr
      obtain ⟨_, fs, er, hf1, fl, hf2⟩ := id h3
      cases er
      obtain ⟨_, gs, er, hg1, gl, hg2⟩ := id h6
      cases er
      have le := ok.le
      dsimp only [gName]
      refine seq_in ?_
      refine ⟨_, rfl, x, a.Card, dx, _, _, rfl, hx, T.ki.cl, T.nS, rfl, _, rfl, x, a.Card, dx, _, _, rfl, hx, T.ki.cl, T.nR, rfl, _, rfl, y, a.Card, dy, _, _, rfl, hy, T.ki.cl, T.nR, rfl, ?_⟩
      refine ⟨sx, rx, ry, us, fs, gs, rfl, hus, hf1, hg1, ?_⟩
      refine for_it (walk_zipW (xs := us) (ys := fs) (zs := gs) (by omega) (by omega)) (fun i σ' H' => ∃ c2 c3 c4 c5 c6 c7, σ' = [some (.ref x), some (.ref y), c2, c3, c4, c5, c6, c7] ∧ Same H H' ∧ ∀ i' j, i' < i → j < ps.length → f i' j = g i' j) ?_ ?_ ?_ ?_
      · exact ⟨none, none, none, none, none, none, rfl, .refl H, fun i' j z => absurd z (Nat.not_lt_zero _)⟩
      · rintro i σ' H' _ ⟨c2, c3, c4, c5, c6, c7, _, e1, _⟩
        exact ⟨upT e1 hus, upT e1 hf1, upT e1 hg1⟩
      · rintro i _ _ H2 _ hi ⟨c2, c3, c4, c5, c6, c7, rfl, e1, hb⟩ ⟨T1, u, vf, vg, rfl, hT, rfl, hu, hvf, hvg⟩
        obtain ⟨qf, rfl, hqf⟩ := hf2 i _ hvf
        obtain ⟨qg, rfl, hqg⟩ := hg2 i _ hvg
        obtain ⟨si, hsi, hs⟩ := paired_get pr hu
        have e2 := e1.trans (same_new (o := .tup [u, .ref qf, .ref qg]) hT)
        refine ⟨T1, _, rfl, sq_new, rfl, _, _, rfl, _, _, rfl, _, _, rfl, rfl, ?_⟩
        generalize upd H2 T1 (.tup [u, .ref qf, .ref qg]) = H3 at e2
        refine ⟨_, rfl, x, a.Card, dx, _, _, rfl, e2 _ _ hx, T.ki.cl, T.nS, rfl, _, rfl, _, rfl, ?_⟩
        refine ⟨sx, qf, qg, us, _, _, rfl, upT e2 hus, upT e2 hqf, upT e2 hqg, ?_⟩
        refine for_it (walk_zipW (xs := us) (ys := rowV ps.length (f i)) (zs := rowV ps.length (g i)) (by rw [rowV_len]; omega) (by rw [rowV_len]; omega)) (fun j σ' H' => ∃ c5 c6 c7, σ' = [some (.ref x), some (.ref y), some u, some (.ref qf), some (.ref qg), c5, c6, c7] ∧ Same H H' ∧ ∀ j', j' < j → f i j' = g i j') ?_ ?_ ?_ ?_
        · exact ⟨_, _, _, rfl, e2, fun j' z => absurd z (Nat.not_lt_zero _)⟩
        · rintro j σ' H' _ ⟨c5, c6, c7, _, e3, _⟩
          exact ⟨upT e3 hus, upT e3 hqf, upT e3 hqg⟩
        · rintro j _ _ H4 _ hj ⟨c5, c6, c7, rfl, e3, hb2⟩ ⟨T2, v, y1, y2, rfl, hT2, rfl, hv, hy1, hy2⟩
          obtain ⟨jn, rfl⟩ := rowV_get hy1
          obtain ⟨_, rfl⟩ := rowV_get hy2
          obtain ⟨sj, hsj, hs2⟩ := paired_get pr hv
          have e4 := e3.trans (same_new (o := .tup [v, .int (f i j), .int (g i j)]) hT2)
          refine ⟨T2, _, rfl, sq_new, rfl, _, _, rfl, _, _, rfl, _, _, rfl, rfl, ?_⟩
          generalize upd H4 T2 (.tup [v, .int (f i j), .int (g i j)]) = H5 at e4
          refine ⟨_, rfl, _, rfl, rfl, _, rfl, ?_⟩
          by_cases q : f i j = g i j
          · refine iteN (by simp [q]) ?_
            refine ⟨_, _, _, rfl, e4, fun j' z => ?_⟩
            rcases Nat.lt_or_ge j' j with z1 | z1
            · exact hb2 j' z1
            · rw [show j' = j by omega]; exact q
          · refine iteY (by simp [q]) ?_
            have fst : Fst ps.length f g i j := ⟨by omega, jn, q, fun x y hy z => by
              rcases z with z | ⟨rfl, z⟩
              · exact hb x y z hy
              · exact hb2 y z⟩
            have pre : ∀ (q : Addr), SqT K H5 q (rowV ps.length (Wide f g i j i)) → ∀ R : VK, (∀ H6 r, Same H5 H6 → Wd K a.World H6 (.ref r) (wv ps (Wide f g i j i)) → R (.ref r) H6) → sp__reaching K a [.ref sx, .ref q] H5 R E := fun q hq R kk => ⟨sx, q, ps, _, rfl, h1.up e4, ok, hq, kk⟩
            refine ⟨_, rfl, _, rfl, _, rfl, x, a.Card, dx, _, _, rfl, e4 _ _ hx, T.ki.cl, T.nS, rfl, _, rfl, _, rfl, _, _, rfl, rfl, _, rfl, ?_⟩
            have fin : ∀ H6 r, Same H5 H6 → Wd K a.World H6 (.ref r) (wv ps (Wide f g i j i)) → ∀ p, H6 p = none → Q (.ref p) (upd H6 p (.tup [u, v, .ref r])) := fun H6 r e6 wd p hp => by
              have e7 := same_new (o := .tup [u, v, .ref r]) hp
              have e07 := e4.trans (e6.trans e7)
              exact k1 _ _ e07 (.inr ⟨p, u, v, r, i, j, rfl, fst, sq_new, by rw [sg_at hsi]; exact hs.up e07, by rw [sg_at hsj]; exact hs2.up e07, wd.up e7⟩)
            by_cases gt : f i j > g i j
            · have ew : Wide f g i j = f := if_pos gt
              refine iteY (decide_eq_true gt) ⟨_, rfl, ?_⟩
              exact arg2 (sp__reaching K a) (pre qf (by rw [ew]; exact upT e4 hqf) _ fun H6 r e6 wd => ⟨by show 3 ≤ sizeLine; decide, fin H6 r e6 wd⟩)
            · have ew : Wide f g i j = g := if_neg gt
              refine iteN (by rw [decide_eq_false gt]; decide) ⟨_, rfl, ?_⟩
              exact arg2 (sp__reaching K a) (pre qg (by rw [ew]; exact upT e4 hqg) _ fun H6 r e6 wd => ⟨by show 3 ≤ sizeLine; decide, fin H6 r e6 wd⟩)
        · rintro _ H4 ⟨c5, c6, c7, rfl, e3, hb2⟩
          rw [ul] at hb2
          refine ⟨_, _, _, _, _, _, rfl, e3, fun i' j z hj => ?_⟩
          rcases Nat.lt_or_ge i' i with z1 | z1
          · exact hb i' j z1 hj
          · rw [show i' = i by omega]; exact hb2 j hj
      · rintro _ H2 ⟨c2, c3, c4, c5, c6, c7, rfl, e1, hb⟩
        rw [ul] at hb
        exact k1 _ _ e1 (.inl ⟨rfl, hb⟩)
    · rw [decide_eq_false e]
      refine iteT ⟨_, rfl, fun d hd => k2 e _ d (same_new hd) upd_same⟩
end
end K53

set_option Elab.async false
set_option linter.all false
set_option maxRecDepth 100000
set_option maxHeartbeats 4000000
namespace K53
open PySem PySem.Spec PyProof.Rows L2 Ew
section
variable {P : Program} {w : World} {K : PySem.W.Frag} {mg : Str → Option Value} {base : Heap} {a : Ad}
def sp__law_parted (P : Program) (w : World) (K : PySem.W.Frag) (a : Ad) : Sp := fun vs H Q _ => ∃ (x y : V) (ps qs : List Spot) (f g : Tb2), vs = [x, y] ∧ Cd P w K a.Card H x ps f ∧ Cd P w K a.Card H y qs g ∧ OkS ps ∧ OkS qs ∧
  (ps = qs → ∀ H' r v, Same H H' → SqT K H' r [.str "found", v] → FoundV K a H' v ps f g → Q (.ref r) H') ∧ (ps ≠ qs → ∀ H' r, Same H H' → SqT K H' r [.str "bad", .int (-1)] → Q (.ref r) H')
theorem c__law_parted (T : Txt K mg a) : Cl P w K mg base 8 "_law_parted" P__law_parted (sp__law_parted P w K a) [] :=
  T.d__law_parted.cl sc__law_parted (fun vs H Q E h => by obtain ⟨x, y, ps, qs, f, g, rfl, _⟩ := h; rfl) fun f cdv A outer s H vs Q E hr h => by
    obtain ⟨x, y, ps, qs, f, g, rfl, c1, c2, ok, ok2, k1, k2⟩ := h
    refine ⟨_, ((pss_cons (ps_tryN rfl rfl sc__law_parted.nd (takes_of rfl rfl rfl rfl)
 (fun W pn xe tk tkp => (pss_one (show PS _ _ (tAsg (tF (sp_parted P w K a) [] W (tCons (tVar 0) (tCons (tVar 1) tNil))) (gName 2)) from (ps_set (i := 2) sc__law_parted.nd rfl (Or.inl rfl) (pe_f (c_parted T) tk hr (by decide) rfl (pa_cons (pv 0) (pa_cons (pv 1) pa_nil)))))))
 (.nm (i := 3) rfl rfl ⟨rfl, by decide, .inl T.g_BadCard⟩ (fun xa oe cls d pn hz hf => (pss_cons (ps_if (PW.pt (pw_or (pt_not (pt_val (pe_callB (call_isErrC T.e_BadCard hz hf) (by rfl) T.n_isinstance (by decide +kernel) (pa_cons (pv 3) (pa_cons (pe_glob (v := .ref a.EllError) rfl T.g_EllError rfl) pa_nil))))) (pw_or (pt_not (pt_val (pe_callB (call_isErrC T.e_BadCard hz hf) (by rfl) T.n_isinstance (by decide +kernel) (pa_cons (pv 3) (pa_cons (pe_bltn (v := .ty "ValueError") (by rfl) T.n_ValueError (by decide +kernel) rfl) pa_nil))))) (pw_or1 (pt_val (pe_callB (call_isErrC T.e_BadCard hz hf) (by rfl) T.n_isinstance (by decide +kernel) (pa_cons (pv 3) (pa_cons (pe_glob (v := .ref a.BadSpot) rfl T.g_BadSpot rfl) pa_nil))))))))
 (pss_one (ps_ret (pe_tup (pa_cons pe_str (pa_cons pe_non pa_nil)))))
 pss_nil)
 (pss_one (ps_ret (pe_tup (pa_cons pe_str (pa_cons (pe_xf T.xf_BadCard T.no_BadCard_place hz hf (pv 3)) pa_nil))))))) (.pl ⟨rfl, by decide, .inl T.g_EllError⟩ (fun xa oe cls d pn hz hf => (pss_one (ps_ret (pe_tup (pa_cons pe_str (pa_cons pe_non pa_nil)))))) .nil)))
 (pss_one (ps_ret (pe_tup (pa_cons pe_str (pa_cons (pv 2) pa_nil))))))), ?_⟩
    refine ⟨_, rfl, _, rfl, ?_⟩
    refine ⟨x, y, ps, qs, f, g, rfl, c1, c2, ok, ok2, fun e H' v e1 fv => ?_, fun ne H' d' e1 hd => ?_⟩
    · refine ⟨_, rfl, by show 2 ≤ sizeLine; decide, fun r hr => ?_⟩
      exact k1 e _ r v (e1.trans (same_new hr)) sq_new (fv.up (same_new hr))
    · refine ⟨true, T.em_BadCard, fun _ ea hea => ?_, fun z => nomatch z⟩
      refine ⟨_, rfl, rfl, fun d' z => ⟨_, by cases z; exact hd⟩, .inl ⟨_, _, true, rfl, .own _, T.ke_BadCard, true, rfl, iteF ?_⟩⟩
      refine ⟨_, rfl, rfl, fun d' z => ⟨_, by cases z; exact hd⟩, .inl ⟨_, _, true, rfl, .ty _, T.kv_BadCard, true, rfl, iteF ?_⟩⟩
      refine ⟨_, rfl, rfl, fun d' z => ⟨_, by cases z; exact hd⟩, .inl ⟨_, _, false, rfl, .own _, T.kb_BadCard, false, rfl, iteF ?_⟩⟩
      refine ⟨_, rfl, rfl, rfl, d', _, .int (-1), rfl, hd, rfl, by show 2 ≤ sizeLine; decide, fun r hr => ?_⟩
      exact k2 ne _ r (e1.trans (same_new hr)) sq_new
/-! ### the law's ratios, with 1 below -/
def mu3 (σ : L2.St) : Nat := match σ[3]? with | some (some (V.int y)) => y.toNat | _ => 0
def sp__law_gcd : Sp := fun vs H Q _ => ∃ n d : Int, vs = [.int n, .int d] ∧ Q (.int (Nat.gcd n.natAbs d.natAbs : Nat)) H
theorem c__law_gcd (T : Txt K mg a) : Cl P w K mg base 1 "_law_gcd" P__law_gcd sp__law_gcd [] :=
  T.d__law_gcd.cl sc__law_gcd (fun vs H Q E h => by obtain ⟨n, d, rfl, _⟩ := h; rfl) fun f cdv A outer s H vs Q E hr h => by
    obtain ⟨n, d, rfl, k⟩ := h
    refine ⟨_, ((pss_cons (ps_set (i := 2) sc__law_gcd.nd rfl (Or.inl rfl) (pe_callB call_abs (by rfl) T.n_abs (by decide +kernel) (pa_cons (pv 0) pa_nil)))
 (pss_cons (ps_set (i := 3) sc__law_gcd.nd rfl (Or.inl rfl) (pe_callB call_abs (by rfl) T.n_abs (by decide +kernel) (pa_cons (pv 1) pa_nil)))
 (pss_cons (ps_while (passes_of rfl) (pt_cmpR op_gt (pv 3) pe_int (nomark _))
 (pss_cons (ps_set (i := 4) sc__law_gcd.nd rfl (Or.inl rfl) (pe_op op_mod (pe_callTy call_int1 (by rfl) T.n_int (by decide +kernel) (pa_cons (pv 2) pa_nil)) (pv 3)))
 (pss_cons (ps_set (i := 2) sc__law_gcd.nd rfl (Or.inl rfl) (pv 3))
 (pss_one (ps_set (i := 3) sc__law_gcd.nd rfl (Or.inl rfl) (pv 4))))))
 (pss_one (ps_ret (pv 2))))))), ?_⟩
    have ab : ∀ i : Int, (if i < 0 then -i else i) = (i.natAbs : Int) := fun i => by split <;> omega
    refine ⟨_, rfl, _, rfl, ?_⟩
    rw [ab]
    refine ⟨_, rfl, _, rfl, ?_⟩
    rw [ab]
    refine while_by (fun σ' H' => H' = H ∧ ∃ (x y : Nat) (r : Option V), σ' = [some (.int n), some (.int d), some (.int x), some (.int y), r] ∧ Nat.gcd x y = Nat.gcd n.natAbs d.natAbs)
      (fun σ' _ => mu3 σ') ⟨rfl, _, _, none, rfl, rfl⟩ ?_ ?_
    · rintro _ _ ⟨rfl, x, y, r, rfl, hg⟩
      refine ⟨_, rfl, _, _, rfl, rfl, _, rfl, ?_⟩
      refine ite2 (fun e => ?_) (fun e => ?_)
      · have hy : 0 < y := by have := of_decide_eq_true e; omega
        refine ⟨_, rfl, .inl ⟨_, rfl, _, rfl, _, _, rfl, rfl, (by omega : (0 : Int) < y), ?_⟩⟩
        refine ⟨_, rfl, ?_⟩
        refine ⟨_, rfl, ⟨rfl, y, x % y, some (.int ((x % y : Nat) : Int)), by rw [Int.natCast_emod]; rfl, ?_⟩, ?_⟩
        · rw [← hg, Nat.gcd_comm y, Nat.gcd_comm x y]
          exact (Nat.gcd_rec y x).symm
        · show ((x : Int) % (y : Int)).toNat < ((y : Int)).toNat
          have := Nat.mod_lt x hy
          rw [← Int.natCast_emod]
          omega
      · have hy : y = 0 := by
          rcases Nat.eq_zero_or_pos y with h | h
          · exact h
          · exact absurd (decide_eq_true (by omega)) e
        subst hy
        rw [Nat.gcd_zero_right] at hg
        exact ⟨_, rfl, by rw [hg]; exact k⟩
    · rintro σ' H' Q1 Q2 q h
      obtain ⟨v, e1, i, j, e2, e3, c, e4, q'⟩ := h
      exact ⟨v, e1, i, j, e2, e3, c, e4, q _ _ q'⟩
/-- n over 1 -/
def sp__law_ratio (K : PySem.W.Frag) : Sp := fun vs H Q _ => ∃ n : Int, vs = [.int n, .int 1] ∧ ∀ H' v, Same H H' → Rt K H' v (n, 1) → Q v H'
theorem c__law_ratio (T : Txt K mg a) : Cl P w K mg base 2 "_law_ratio" P__law_ratio (sp__law_ratio K) [] :=
  T.d__law_ratio.cl sc__law_ratio (fun vs H Q E h => by obtain ⟨n, rfl, _⟩ := h; rfl) fun f cdv A outer s H vs Q E hr h => by
    obtain ⟨n, rfl, k⟩ := h
    refine ⟨_, ((pss_cons (ps_set (i := 2) sc__law_ratio.nd rfl (Or.inl rfl) (pe_ifExp (pt_cmpR op_gt (pv 1) pe_int (nomark _)) (pe_f (c__law_gcd T) (takes_of rfl rfl rfl rfl) hr (by decide) rfl (pa_cons (pv 0) (pa_cons (pv 1) pa_nil))) (pe_op op_sub pe_int (pe_f (c__law_gcd T) (takes_of rfl rfl rfl rfl) hr (by decide) rfl (pa_cons (pv 0) (pa_cons (pv 1) pa_nil))))))
 (pss_one (ps_ret (pe_tup (pa_cons (pe_op op_fdivX (pv 0) (pv 2)) (pa_cons (pe_op op_fdivX (pv 1) (pv 2)) pa_nil))))))), ?_⟩
    refine ⟨_, rfl, _, _, rfl, rfl, _, rfl, iteY (by decide) ⟨_, rfl, _, rfl, _, _, rfl, ?_⟩⟩
    have g1 : ((Nat.gcd n.natAbs (1 : Int).natAbs : Nat) : Int) = 1 := by
      show ((Nat.gcd n.natAbs 1 : Nat) : Int) = 1
      rw [Nat.gcd_one_right]
      rfl
    rw [g1]
    have cd : ∀ i : Int, CDivX i 1 := fun i => ⟨by decide, by decide⟩
    refine gn ?_
    refine ⟨_, rfl, _, rfl, _, _, rfl, rfl, cd _, _, rfl, _, rfl, _, _, rfl, rfl, cd _, by show 2 ≤ sizeLine; decide, fun p hp => ?_⟩
    refine k _ _ (same_new hp) ⟨p, rfl, ?_⟩
    have e1 : n.fdiv 1 = n := Int.fdiv_one n
    have e2 : (1 : Int).fdiv 1 = 1 := by decide
    show SqT K (upd H p (.tup [.int (n.fdiv 1), .int ((1 : Int).fdiv 1)])) p [.int n, .int 1]
    rw [e1, e2]
    exact sq_new
def sp__law_is_ratio (K : PySem.W.Frag) : Sp := fun vs H Q _ => ∃ (v : V) (r : Int × Int), vs = [v] ∧ Rt K H v r ∧ Low r ∧ Q (.bl true) H
theorem c__law_is_ratio (T : Txt K mg a) : Cl P w K mg base 2 "_law_is_ratio" P__law_is_ratio (sp__law_is_ratio K) [] :=
  T.d__law_is_ratio.cl sc__law_is_ratio (fun vs H Q E h => by obtain ⟨v, r, rfl, _⟩ := h; rfl) fun f cdv A outer s H vs Q E hr h => by
    obtain ⟨_, ⟨n, d⟩, rfl, ⟨p, rfl, hp⟩, ⟨l1, l2⟩, k⟩ := h
    refine ⟨_, ((pss_cons (ps_if (PW.pt (pw_or (pt_not (pt_val (pe_callB call_isi (by rfl) T.n_isinstance (by decide +kernel) (pa_cons (pv 0) (pa_cons (pe_bltn (v := .ty "tuple") (by rfl) T.n_tuple (by decide +kernel) rfl) pa_nil))))) (pw_or1 (pt_cmpR op_ne (pe_callB call_len_seq (by rfl) T.n_len (by decide +kernel) (pa_cons (pv 0) pa_nil)) pe_int (nomark _)))))
 (pss_one (ps_ret pe_bl))
 pss_nil)
 (pss_one (ps_ret (pe_and (pe_f (c__law_integer T) (takes_of rfl rfl rfl rfl) hr (by decide) rfl (pa_cons (pe_ix ix_tup (pv 0) pe_int (fun _ _ => rfl)) pa_nil)) (pe_and (pe_f (c__law_integer T) (takes_of rfl rfl rfl rfl) hr (by decide) rfl (pa_cons (pe_ix ix_tup (pv 0) pe_int (fun _ _ => rfl)) pa_nil)) (pe_and (pe_cmpR op_ge (pe_ix ix_tup (pv 0) pe_int (fun _ _ => rfl)) pe_int (nomark _)) (pe_one (pe_cmpR op_eq (pe_f (c__law_gcd T) (takes_of rfl rfl rfl rfl) hr (by decide) rfl (pa_cons (pe_ix ix_tup (pv 0) pe_int (fun _ _ => rfl)) (pa_cons (pe_ix ix_tup (pv 0) pe_int (fun _ _ => rfl)) pa_nil))) pe_int (nomark _)))))))))), ?_⟩
    have l1 : 1 ≤ d := l1
    have l2 : Nat.gcd n.natAbs d.natAbs = 1 := l2
    refine ⟨_, rfl, _, _, _, _, true, rfl, .ty _, ty_sqT hp, kit_ty (by decide +kernel), true, rfl, iteF ?_⟩
    refine ⟨_, rfl, p, _, rfl, .inr hp, rfl, _, rfl, iteN (by simp) ?_⟩
    refine ⟨_, rfl, p, _, _, _, rfl, rfl, hp, at0, _, rfl, .inl ⟨_, rfl, _, rfl, iteT ?_⟩⟩
    refine ⟨_, rfl, p, _, _, _, rfl, rfl, hp, at1, _, rfl, .inl ⟨_, rfl, _, rfl, iteT ?_⟩⟩
    refine ⟨_, rfl, p, _, _, _, rfl, rfl, hp, at1, _, _, rfl, rfl, _, rfl, iteY (decide_eq_true l1) ?_⟩
    refine ⟨_, rfl, p, _, _, _, rfl, rfl, hp, at0, _, rfl, p, _, _, _, rfl, rfl, hp, at1, _, _, rfl, rfl, ?_⟩
    rw [l2]
    exact k
/-- two ratios with 1 below -/
def sp__law_minus (K : PySem.W.Frag) : Sp := fun vs H Q _ => ∃ (u v : V) (m n : Int), vs = [u, v] ∧ Rt K H u (m, 1) ∧ Rt K H v (n, 1) ∧ ∀ H' z, Same H H' → Rt K H' z (m - n, 1) → Q z H'
theorem c__law_minus (T : Txt K mg a) : Cl P w K mg base 3 "_law_minus" P__law_minus (sp__law_minus K) [] :=
  T.d__law_minus.cl sc__law_minus (fun vs H Q E h => by obtain ⟨u, v, m, n, rfl, _⟩ := h; rfl) fun f cdv A outer s H vs Q E hr h => by
    obtain ⟨_, _, m, n, rfl, ⟨p, rfl, hp⟩, ⟨q, rfl, hq⟩, k⟩ := h
    refine ⟨_, ((pss_one (ps_ret (pe_f (c__law_ratio T) (takes_of rfl rfl rfl rfl) hr (by decide) rfl (pa_cons (pe_op op_sub (pe_op op_mul (pe_ix ix_tup (pv 0) pe_int (fun _ _ => rfl)) (pe_ix ix_tup (pv 1) pe_int (fun _ _ => rfl))) (pe_op op_mul (pe_ix ix_tup (pv 1) pe_int (fun _ _ => rfl)) (pe_ix ix_tup (pv 0) pe_int (fun _ _ => rfl)))) (pa_cons (pe_op op_mul (pe_ix ix_tup (pv 0) pe_int (fun _ _ => rfl)) (pe_ix ix_tup (pv 1) pe_int (fun _ _ => rfl))) pa_nil)))))), ?_⟩
    have cm : ∀ i : Int, CMul i 1 := fun i => .inr ⟨by decide, by decide⟩
    refine ⟨_, rfl, p, _, _, _, rfl, rfl, hp, at0, _, rfl, q, _, _, _, rfl, rfl, hq, at1, _, _, rfl, rfl, cm _, ?_⟩
    refine ⟨_, rfl, q, _, _, _, rfl, rfl, hq, at0, _, rfl, p, _, _, _, rfl, rfl, hp, at1, _, _, rfl, rfl, cm _, _, _, rfl, rfl, ?_⟩
    refine ⟨_, rfl, p, _, _, _, rfl, rfl, hp, at1, _, rfl, q, _, _, _, rfl, rfl, hq, at1, _, _, rfl, rfl, cm _, ?_⟩
    refine ⟨m - n, ?_, k⟩
    show ([V.int (m * 1 - n * 1), V.int (1 * 1)] : List V) = _
    rw [Int.mul_one, Int.mul_one]
    rfl
end
end K53

set_option Elab.async false
set_option linter.all false
set_option maxRecDepth 100000
set_option maxHeartbeats 4000000
namespace K53
open PySem PySem.Spec PyProof.Rows L2 Ew
/-! ### values, links kept -/
mutual
theorem dp_up {K : PySem.W.Frag} {H H' : Hp} (e : Same H H') : ∀ {v : V} {d : PyData}, Dp K H v d → Dp K H' v d
  | _, _, .non => .non
  | _, _, .bl b => .bl b
  | _, _, .int i => .int i
  | _, _, .str x => .str x
  | _, _, .lst h t => .lst (upL e h) (dpAll_up e t)
  | _, _, .tup h t => .tup (upT e h) (dpAll_up e t)
theorem dpAll_up {K : PySem.W.Frag} {H H' : Hp} (e : Same H H') : ∀ {vs : List V} {ds : List PyData}, DpAll K H vs ds → DpAll K H' vs ds
  | _, _, .nil => .nil
  | _, _, .cons h t => .cons (dp_up e h) (dpAll_up e t)
end
theorem keys_dp {K : PySem.W.Frag} {F H : Hp} : ∀ {kvs : List (List Key × V)} {bs : List Addr} {L : Prs}, IsKeys H kvs bs → Kvs K F kvs L → DpAll K H (bs.map V.ref) ((L.map (·.1)).map spD)
  | [], [], _, .nil, .nil => .nil
  | c :: kvs, b :: bs, s :: L, .cons h t, .cons h2 t2 => by
    rw [h2.1] at h
    exact .cons (dp_sp (SqT.of h)) (keys_dp t t2)
theorem fl_names {ps : List Spot} (h : ∀ p ∈ ps, PyData.strOk p.1 = true) : Fl 2 (.list (ps.map spD)) := Fl.lst (FlA.all fun d hd => by
  obtain ⟨p, hp, rfl⟩ := List.mem_map.mp hd
  exact fl_sp (h p hp))
theorem eqv_names (ps qs : List Spot) : PyData.eqv (.list (ps.map spD)) (.list (qs.map spD)) = decide (ps = qs) := by
  rw [PyData.eqv, eqvAll_map eqv_sp]
theorem Sps.all {K : PySem.W.Frag} {t : Bool} {H : Hp} {p : Addr} {ps : List Spot} {us : List V} (h : Paired (fun v q => Spt K H v q) us ps) : DpAll K H us (ps.map spD) := dps h fun _ _ z => z.dp
section
variable {P : Program} {w : World} {K : PySem.W.Frag} {mg : Str → Option Value} {base : Heap} {a : Ad}
def sp__law_values_of (K : PySem.W.Frag) (a : Ad) : Sp := fun vs H Q _ => ∃ (x : V) (l : Addr) (ps : List Spot) (h : Nat → Int), vs = [x, .ref l] ∧ Wd K a.World H x (wv ps h) ∧ Sps K false H l ps ∧ OkS ps ∧
  ∀ H' d kvs, Same H H' → H d = none → H' d = some (.dT kvs) → Kvs K H' kvs (wv ps h) → Q (.ref d) H'
theorem c__law_values_of (T : Txt K mg a) : Cl P w K mg base 5 "_law_values_of" P__law_values_of (sp__law_values_of K a) [] :=
  T.d__law_values_of.cl sc__law_values_of (fun vs H Q E h => by obtain ⟨x, l, ps, h, rfl, _⟩ := h; rfl) fun f cdv A outer s H vs Q E hr h => by
    obtain ⟨_, l, ps, h, rfl, hw, ⟨us, hus, pr⟩, ok, k⟩ := h
    obtain ⟨x, dx, d, o, kvs, rfl, h1, h2, h3⟩ := id hw
    have ul : us.length = ps.length := Paired.length pr
    have le := ok.le
    have wl := wv_len (ps := ps) (h := h)
    refine ⟨_, ((pss_cons (ps_if (PW.pt (pw_or (pt_not (pt_val (pe_callB call_isi (by rfl) T.n_isinstance (by decide +kernel) (pa_cons (pv 0) (pa_cons (pe_glob (v := .ref a.World) rfl T.g_World rfl) pa_nil))))) (pw_or (pt_cmpR op_ne (pe_callB (call_lenC (o_World_len T) hr (by decide)) (by rfl) T.n_len (by decide +kernel) (pa_cons (pv 0) pa_nil)) (pe_callB call_len_seq (by rfl) T.n_len (by decide +kernel) (pa_cons (pv 1) pa_nil)) (nomark _)) (pw_or1 (pt_cmpR (op_neD hr.units) (pe_callTy (call_listC rfl (it_World T) (o_World_len T) hr (by decide)) (by rfl) T.n_list (by decide +kernel) (pa_cons (pv 0) pa_nil)) (pe_callTy call_list_of (by rfl) T.n_list (by decide +kernel) (pa_cons (pv 1) pa_nil)) (nomark _))))))
 (pss_one (ps_ret pe_non))
 pss_nil)
 (pss_cons (ps_set (i := 2) sc__law_values_of.nd rfl (Or.inl rfl) pe_dnewT)
 (pss_cons (ps_for (passes_of rfl) rfl (pi_list (pv 1)) (pg_name (i := 3) sc__law_values_of.nd rfl (Or.inl rfl))
 (pss_cons (ps_set (i := 4) sc__law_values_of.nd rfl (Or.inl rfl) (pe_ixC (o_World_getitem T) (takes_of rfl rfl rfl rfl) hr (by decide) (pv 0) (pv 3) (fun _ _ => rfl)))
 (pss_cons (ps_if (pt_not (pt_val (pe_f (c__law_is_ratio T) (takes_of rfl rfl rfl rfl) hr (by decide) rfl (pa_cons (pv 4) pa_nil))))
 (pss_one (ps_ret pe_non))
 pss_nil)
 (pss_one (ps_dput (hu_of hr) (pv 2) (pv 3) (pv 4) rfl)))))
 (pss_one (ps_ret (pv 2))))))), ?_⟩
    refine ⟨_, rfl, _, _, _, _, true, rfl, .own _, T.wki.ty h1, kit_same, true, rfl, iteF ?_⟩
    refine ⟨_, rfl, x, dx, _, rfl, h1, .ref x, wv ps h, rfl, hw, (wv ps h).length, rfl, by omega, by omega, _, rfl, l, us, rfl, .inl hus, rfl, _, rfl, iteN (by simp [wl, ul]) ?_⟩
    refine ⟨_, rfl, x, dx, _, d, o, kvs, rfl, h1, rfl, h2, ?_, ?_⟩
    · intro q hq
      exact ⟨.ref x, wv ps h, rfl, hw.up (same_new hq), _, rfl, by rw [sizeLine_eq]; omega, rfl⟩
    intro p bs hp hk
    have e1 := same_new (o := .lst (bs.map V.ref)) hp
    refine ⟨_, rfl, l, us, rfl, .inl (upL e1 hus), fun p2 hp2 => ?_⟩
    have e2 := same_new (o := .lst us) hp2
    have e12 := e1.trans e2
    refine ⟨.list (ps.map spD), .list (ps.map spD), .lst (SqL.of (e2 _ _ upd_same)) ?_, .lst (SqL.of upd_same) (Sps.all (t := true) (p := p) (Paired.mapP pr fun _ _ z => z.up e12)), (fl_names ok.ok).sh (by decide), (fl_names ok.ok).sh (by decide), ?_⟩
    · have z := keys_dp hk h3
      rw [wv_spots] at z
      exact dpAll_up e12 z
    rw [eqv_names, decide_eq_true rfl]
    refine ⟨_, rfl, iteF ?_⟩
    generalize upd (upd H p (.lst (bs.map V.ref))) p2 (.lst us) = H1 at e12
    refine fun D hD1 => ?_
    have hD : H D = none := e12.free hD1
    have e3 := e12.trans (same_new (o := .dT []) hD1)
    refine gn ?_
    refine ⟨_, rfl, l, rfl, ⟨us, upL e3 hus⟩, ?_⟩
    refine for_it (walk_list (xs := us)) (fun j σ' H' => ∃ kvs c3 c4, σ' = [some (.ref x), some (.ref l), some (.ref D), c3, c4] ∧ Same H H' ∧ H' D = some (.dT kvs) ∧ Kvs K H' kvs ((wv ps h).take j)) ?_ ?_ ?_ ?_
    · exact ⟨[], none, none, rfl, e3, upd_same, .nil⟩
    · rintro j σ' H' _ ⟨kvs, c3, c4, _, e4, _⟩
      exact upL e4 hus
    · rintro j v _ _ H2 hj ⟨kvs, c3, c4, rfl, e4, hD2, hk2⟩ ⟨rfl, hv⟩
      obtain ⟨sj, hsj, qs, rfl, hqs⟩ := paired_get pr hv
      have jn : j < ps.length := by omega
      have esj : sj = sg ps j := (sg_at hsj).symm
      have look_j := wv_look (h := h) ok jn
      refine gn ?_
      refine ⟨_, rfl, _, rfl, x, dx, _, rfl, e4 _ _ h1, .ref x, .ref qs, wv ps h, sj, _, rfl, hw.up e4, ⟨qs, rfl, e4 _ _ hqs⟩, by rw [esj]; exact look_j, fun u hu => ?_⟩
      refine gn ?_
      refine ⟨_, rfl, _, _, rfl, hu, ⟨Int.le_refl 1, Nat.gcd_one_right _⟩, true, rfl, iteF ?_⟩
      have nin : look ((wv ps h).take j) sj = none := not_yet (wv_ok (h := h) ok).nd (s := (sj, (h j - h 0, 1))) (by rw [esj]; exact wv_at jn)
      have g := hk2.get sj
      rw [nin] at g
      obtain ⟨g, _⟩ | ⟨_, _, _, z, _⟩ := g
      case inr => cases z
      have kl : kvs.length ≤ 1000 := by
        rw [hk2.len, List.length_take]
        omega
      refine ⟨_, rfl, _, rfl, _, rfl, D, _, rfl, DPut.t (k := spK sj) hD2 (e4 _ _ hqs) (by rw [sizeLine_eq]; omega), ?_⟩
      rw [putK_new u g]
      have ts : Ew.TS H2 (upd H2 D (.dT (kvs ++ [(spK sj, u)]))) := Ew.TS.refl.upd fun o e => by rw [hD2] at e; cases e; exact True.intro
      have tk : (wv ps h).take (j + 1) = (wv ps h).take j ++ [(sj, (h j - h 0, 1))] := by
        rw [List.take_add_one, wv_at jn, esj]
        rfl
      refine ⟨_, _, _, rfl, same_mut e4 hD, upd_same, ?_⟩
      rw [tk]
      exact Kvs.snoc (s := (sj, (h j - h 0, 1))) (Paired.mapP hk2 fun _ _ z => ⟨z.1, z.2.ts ts⟩) (hu.ts ts)
    · rintro _ H2 ⟨kvs, c3, c4, rfl, e4, hD2, hk2⟩
      rw [ul, ← wl, List.take_length] at hk2
      exact ⟨_, rfl, k H2 D kvs e4 hD hD2 hk2⟩
/-- a value by its spot -/
theorem Kvs.of {F : Hp} {kvs : List (List Key × V)} {L : Prs} {p : Spot} {r : Int × Int} (h : Kvs K F kvs L) (l : look L p = some r) : ∃ w, valV kvs (spK p) = some w ∧ Rt K F w r := by
  rcases h.get p with ⟨_, g⟩ | ⟨w, r', g1, g2, g3⟩
  · rw [l] at g; cases g
  · rw [l] at g2
    cases g2
    exact ⟨w, g1, g3⟩
def sp__law_keeps (K : PySem.W.Frag) : Sp := fun vs H Q _ => ∃ (d : Addr) (v : V) (kvs : List (List Key × V)) (L : Prs) (l : Lnk) (m n : Int), vs = [.ref d, v] ∧ H d = some (.dT kvs) ∧ Kvs K H kvs L ∧ Lk1 K H v l ∧ look L l.1 = some (m, 1) ∧ look L l.2.1 = some (n, 1) ∧ Q (.bl (decide (n - m ≤ l.2.2))) H
theorem c__law_keeps (T : Txt K mg a) : Cl P w K mg base 1 "_law_keeps" P__law_keeps (sp__law_keeps K) [] :=
  T.d__law_keeps.cl sc__law_keeps (fun vs H Q E h => by obtain ⟨d, v, kvs, L, l, m, n, rfl, _⟩ := h; rfl) fun f cdv A outer s H vs Q E hr h => by
    obtain ⟨d, _, kvs, L, l, m, n, rfl, hd, hk, ⟨q, u1, u2, c, rfl, hq, ⟨q1, rfl, hq1⟩, ⟨q2, rfl, hq2⟩, hc⟩, lm, ln, k⟩ := h
    obtain ⟨w1, g1, p1, rfl, r1⟩ := hk.of lm
    obtain ⟨w2, g2, p2, rfl, r2⟩ := hk.of ln
    refine ⟨_, ((pss_cons (ps_set (i := 2) sc__law_keeps.nd rfl (Or.inl rfl) (pe_dget (hu_of hr) (pv 0) (pe_ix ix_tup (pv 1) pe_int (fun _ _ => rfl)) (fun _ _ => rfl)))
 (pss_cons (ps_set (i := 3) sc__law_keeps.nd rfl (Or.inl rfl) (pe_dget (hu_of hr) (pv 0) (pe_ix ix_tup (pv 1) pe_int (fun _ _ => rfl)) (fun _ _ => rfl)))
 (pss_one (ps_ret (pe_cmpR op_le (pe_op op_sub (pe_op op_mul (pe_ix ix_tup (pv 3) pe_int (fun _ _ => rfl)) (pe_ix ix_tup (pv 2) pe_int (fun _ _ => rfl))) (pe_op op_mul (pe_ix ix_tup (pv 2) pe_int (fun _ _ => rfl)) (pe_ix ix_tup (pv 3) pe_int (fun _ _ => rfl)))) (pe_op op_mul (pe_op op_mul (pe_ix ix_tup (pv 1) pe_int (fun _ _ => rfl)) (pe_ix ix_tup (pv 2) pe_int (fun _ _ => rfl))) (pe_ix ix_tup (pv 3) pe_int (fun _ _ => rfl))) (nomark _))))))), ?_⟩
    have cm : ∀ i : Int, CMul i 1 := fun i => .inr ⟨by decide, by decide⟩
    have dg1 : DGet H d (.ref q1) (some (.ref p1)) := by rw [← g1]; exact DGet.t hd hq1
    have dg2 : DGet H d (.ref q2) (some (.ref p2)) := by rw [← g2]; exact DGet.t hd hq2
    have a0 : atI [V.ref q1, V.ref q2, V.int l.2.2, V.ref c] 0 = some (.ref q1) := rfl
    have a1 : atI [V.ref q1, V.ref q2, V.int l.2.2, V.ref c] 1 = some (.ref q2) := rfl
    have a2 : atI [V.ref q1, V.ref q2, V.int l.2.2, V.ref c] 2 = some (.int l.2.2) := rfl
    refine ⟨_, rfl, _, rfl, q, _, _, _, rfl, rfl, hq, a0, d, _, rfl, dg1, ?_⟩
    refine gn ?_
    refine ⟨_, rfl, _, rfl, q, _, _, _, rfl, rfl, hq, a1, d, _, rfl, dg2, ?_⟩
    refine gn ?_
    refine ⟨_, rfl, p2, _, _, _, rfl, rfl, r2, at0, _, rfl, p1, _, _, _, rfl, rfl, r1, at1, _, _, rfl, rfl, cm _, ?_⟩
    refine ⟨_, rfl, p1, _, _, _, rfl, rfl, r1, at0, _, rfl, p2, _, _, _, rfl, rfl, r2, at1, _, _, rfl, rfl, cm _, _, _, rfl, rfl, ?_⟩
    refine ⟨_, rfl, q, _, _, _, rfl, rfl, hq, a2, _, rfl, p1, _, _, _, rfl, rfl, r1, at1, _, _, rfl, rfl, cm _, _, rfl, p2, _, _, _, rfl, rfl, r2, at1, _, _, rfl, rfl, cm _, _, _, rfl, rfl, ?_⟩
    have e : (n * 1 - m * 1 ≤ l.2.2 * 1 * 1) = (n - m ≤ l.2.2) := by rw [Int.mul_one, Int.mul_one, Int.mul_one, Int.mul_one]
    show Q (.bl (decide (n * 1 - m * 1 ≤ l.2.2 * 1 * 1))) H
    simp only [e]
    exact k
def sp__law_allowed (K : PySem.W.Frag) : Sp := fun vs H Q _ => ∃ (d l : Addr) (kvs : List (List Key × V)) (L : Prs) (ys : List V) (ls : List Lnk), vs = [.ref d, .ref l] ∧ H d = some (.dT kvs) ∧ Kvs K H kvs L ∧ SqL K H l ys ∧ Paired (fun v c => Lk1 K H v c) ys ls ∧ look L ground = some (0, 1) ∧
  (∀ c ∈ ls, ∃ m n, look L c.1 = some (m, 1) ∧ look L c.2.1 = some (n, 1) ∧ n - m ≤ c.2.2) ∧ ∀ H', Same H H' → Q (.bl true) H'
theorem c__law_allowed (T : Txt K mg a) : Cl P w K mg base 2 "_law_allowed" P__law_allowed (sp__law_allowed K) [] :=
  T.d__law_allowed.cl sc__law_allowed (fun vs H Q E h => by obtain ⟨d, l, kvs, L, ys, ls, rfl, _⟩ := h; rfl) fun f cdv A outer s H vs Q E hr h => by
    obtain ⟨d, l, kvs, L, ys, ls, rfl, hd, hk, hl, pr, hg, al, k⟩ := h
    obtain ⟨w1, g1, rt1⟩ := hk.of hg
    refine ⟨_, ((pss_cons (ps_if (PW.pt (pw_or (pt_cmpR op_isN (pv 0) pe_non (nomark _)) (pw_or1 (pt_cmpR (op_neD hr.units) (pe_dget (hu_of hr) (pv 0) (pe_f0 (c__law_ground T) hr (by decide) rfl) (fun _ _ => rfl)) (pe_tup (pa_cons pe_int (pa_cons pe_int pa_nil))) (nomark _)))))
 (pss_one (ps_ret pe_bl))
 pss_nil)
 (pss_cons (ps_for (passes_of rfl) rfl (pi_list (pv 1)) (pg_name (i := 2) sc__law_allowed.nd rfl (Or.inl rfl))
 (pss_one (ps_if (pt_not (pt_val (pe_f (c__law_keeps T) (takes_of rfl rfl rfl rfl) hr (by decide) rfl (pa_cons (pv 0) (pa_cons (pv 2) pa_nil)))))
 (pss_one (ps_ret pe_bl))
 pss_nil)))
 (pss_one (ps_ret pe_bl))))), ?_⟩
    refine ⟨_, rfl, rfl, _, rfl, iteN (by simp) ?_⟩
    refine ⟨_, rfl, rfl, fun p hp => ?_⟩
    have e1 := same_new (o := .tup (spV ground)) hp
    have dg1 : DGet (upd H p (.tup (spV ground))) d (.ref p) (some w1) := by rw [← g1]; exact DGet.t (e1 _ _ hd) upd_same
    refine ⟨d, _, rfl, dg1, by show 2 ≤ sizeLine; decide, fun p2 hp2 => ?_⟩
    have e2 := e1.trans (same_new (o := .tup [.int 0, .int 1]) hp2)
    refine ⟨_, _, (rt1.up e2).dp, dp_ints (ds := [0, 1]) sq_new, shaped_ints _, shaped_ints _, ?_⟩
    rw [eqv_ints, decide_eq_true rfl]
    refine ⟨_, rfl, iteF ?_⟩
    generalize upd (upd H p (.tup (spV ground))) p2 (.tup [.int 0, .int 1]) = H1 at e2
    refine ⟨_, rfl, l, rfl, ⟨ys, upL e2 hl⟩, ?_⟩
    refine for_it (walk_list (xs := ys)) (fun j σ' H' => ∃ c2, σ' = [some (.ref d), some (.ref l), c2] ∧ H1 = H') ?_ ?_ ?_ ?_
    · exact ⟨none, rfl, rfl⟩
    · rintro j σ' H' _ ⟨c2, _, e3⟩
      exact e3 ▸ upL e2 hl
    · rintro j v _ _ H2 hj ⟨c2, rfl, eH⟩ ⟨rfl, hv⟩
      subst eH
      obtain ⟨c, hc, lk⟩ := paired_get pr hv
      obtain ⟨m, n, h1, h2, h3⟩ := al c (List.mem_of_getElem? hc)
      refine gn ?_
      refine ⟨_, rfl, _, rfl, d, v, kvs, L, c, m, n, rfl, e2 _ _ hd, hk.up e2, lk.up e2, h1, h2, ?_⟩
      rw [decide_eq_true h3]
      exact ⟨_, rfl, iteF ⟨_, rfl, rfl⟩⟩
    · rintro _ H2 ⟨c2, rfl, eH⟩
      subst eH
      exact k _ e2
end
end K53

set_option Elab.async false
set_option linter.all false
set_option maxRecDepth 100000
set_option maxHeartbeats 4000000
namespace K53
open PySem PySem.Spec PyProof.Rows L2 Ew
theorem nat_of {i : Int} (h : 0 ≤ i) : ∃ x : Nat, i = (x : Int) := ⟨i.toNat, by omega⟩
/-- the other end of a link -/
theorem other_end {x y n : Nat} (hx : x < n) (hy : y + 1 < n) : ∃ z : Nat, ((x : Int) + 1 + (y : Int)) % (n : Int) = (z : Int) ∧ z < n ∧ x ≠ z := by
  refine ⟨(x + 1 + y) % n, ?_, Nat.mod_lt _ (by omega), ?_⟩
  · rw [show ((x : Int) + 1 + (y : Int)) = ((x + 1 + y : Nat) : Int) by omega]
    exact (Int.natCast_emod _ _).symm
  · rcases Nat.lt_or_ge (x + 1 + y) n with h | h
    · rw [Nat.mod_eq_of_lt h]
      omega
    · rw [Nat.mod_eq_sub_mod h, Nat.mod_eq_of_lt (by omega)]
      omega
section
variable {K : PySem.W.Frag} {b : Addr} {F H H' H2 : Hp} {p : Addr} {qs : List Addr} {n : Nat} {f : Tb2}
theorem allB (hf : Same F H) (B0 : Bag K b F H) (s : Sb b F H F H') (B : Bag K b F H') : Sb b F H (fz F H H') H' ∧ Bag K b (fz F H H') H' := by
  refine ⟨s.all hf, (memB K b).grow B (s.all hf).ff fun x z => ?_⟩
  rw [fz_old (by rw [z]; exact (memB K b).there B0 rfl)]
  exact (memB K b).off B z
/-- a step of the bag leaves the law's own tables -/
theorem Raw.bag (h : Raw H H' p qs n f) (B0 : Bag K b F H) (s : Sb b F H' F H2) : Raw H H2 p qs n f := by
  have hb : H b ≠ none := (memB K b).there B0 rfl
  have np : p ≠ b := fun z => hb (by rw [← z]; exact h.p0)
  have nq : ∀ q ∈ qs, q ≠ b := fun q hq z => hb (by rw [← z]; exact h.q0 q hq)
  exact ⟨s.hh _ _ np h.at_, h.len, h.nd, h.np, h.p0, h.q0, fun i q z => s.hh _ _ (nq q (List.mem_of_getElem? z)) (h.row i q z)⟩
theorem Raw.base (h : Raw H' H2 p qs n f) (s : Sb b F H F H') (B : Bag K b F H') : Raw H H2 p qs n f :=
  ⟨h.at_, h.len, h.nd, h.np, s.fresh (fun x z => (memB K b).there B z) h.p0, fun q hq => s.fresh (fun x z => (memB K b).there B z) (h.q0 q hq), h.row⟩
theorem Raw.cell (h : Raw H H' p qs n f) {i : Nat} (hi : i < n) : ∃ q, qs[i]? = some q ∧ atI (qs.map V.ref) ((i : Nat) : Int) = some (.ref q) ∧ H' q = some (.lst (rowV n (f i))) := by
  obtain ⟨q, h1, h2⟩ := h.get hi
  rw [Int.zero_add] at h2
  exact ⟨q, h1, h2, h.row i q h1⟩
theorem rat {n : Nat} {g : Nat → Int} {i : Nat} (hi : i < n) : atI (rowV n g) ((i : Nat) : Int) = some (.int (g i)) := by
  have := row_at (g := g) hi
  rwa [Int.zero_add] at this
end
section
variable {P : Program} {w : World} {K : PySem.W.Frag} {mg : Str → Option Value} {base : Heap} {a : Ad}
def sp__law_narrowed (K : PySem.W.Frag) : Sp := fun vs H Q _ => ∃ (F : Hp) (b : Addr) (v : V) (n : Nat) (f : Tb2), vs = [.ref b, v] ∧ Bag K b F H ∧ Same F H ∧ Tb K false F v n f ∧ n ≤ 21 ∧ Cld n f ∧ (∀ a b, a < n → b < n → f a b ≤ 10 ^ 20 * 100) ∧
  ∀ F' H' v' g, Sb b F H F' H' → Bag K b F' H' → Tb K false F' v' n g → Cld n g → Q v' H'
theorem c__law_narrowed (T : Txt K mg a) : Cl P w K mg base 3 "_law_narrowed" P__law_narrowed (sp__law_narrowed K) [] :=
  T.d__law_narrowed.cl sc__law_narrowed (fun vs H Q E h => by obtain ⟨F, b, v, n, f, rfl, _⟩ := h; rfl) fun f cdv A outer s H vs Q E hr h => by
    obtain ⟨F, b, _, n, f, rfl, hB, hf, tb, n21, hc, bd, k⟩ := h
    obtain ⟨r, us, rfl, hus, hul, _⟩ := id tb
    refine ⟨_, ((pss_cons (ps_setLc (i := 2) (own := [("_law_row", 7)]) (g := (gName 7)) (by rfl) sc__law_narrowed.nd rfl rfl (sw_true rfl rfl rfl (by decide +kernel)) (pi_list (pv 1)) (blkOk_by (own := [("_law_row", 7)]) (N := N__law_narrowed) (sc := defScope s__law_narrowed) (by decide +kernel)) (fun _ _ _ _ _ => (pg_name (i := 7) sc__law_narrowed.nd rfl (Or.inl rfl) (hf := .inr rfl))) (fun _ _ _ _ _ => pts_nil) (fun _ _ _ _ _ => (pe_callTy (T := "list") (r := rLstS K) call_lstS (by rfl) T.n_list (by decide +kernel) (pa_cons (pv 7) pa_nil))))
 (pss_cons (ps_set (i := 3) sc__law_narrowed.nd rfl (Or.inl rfl) (pe_callB call_len_seq (by rfl) T.n_len (by decide +kernel) (pa_cons (pv 1) pa_nil)))
 (pss_cons (ps_for (passes_of rfl) rfl (pi_range1 (by rfl) T.n_range (pa_cons (pe_op op_add pe_int (pe_f (c__law_pick T) (takes_of rfl rfl rfl rfl) hr (by decide) rfl (pa_cons (pv 0) (pa_cons pe_int pa_nil)))) pa_nil)) (pg_name (i := 4) sc__law_narrowed.nd rfl (Or.inl rfl))
 (pss_one (ps_if (pt_cmpR op_gt (pv 3) pe_int (nomark _))
 (pss_cons (ps_set (i := 5) sc__law_narrowed.nd rfl (Or.inl rfl) (pe_f (c__law_pick T) (takes_of rfl rfl rfl rfl) hr (by decide) rfl (pa_cons (pv 0) (pa_cons (pv 3) pa_nil))))
 (pss_cons (ps_set (i := 6) sc__law_narrowed.nd rfl (Or.inl rfl) (pe_op op_mod (pe_callTy call_int1 (by rfl) T.n_int (by decide +kernel) (pa_cons (pe_op op_add (pe_op op_add (pv 5) pe_int) (pe_f (c__law_pick T) (takes_of rfl rfl rfl rfl) hr (by decide) rfl (pa_cons (pv 0) (pa_cons (pe_op op_sub (pv 3) pe_int) pa_nil)))) pa_nil)) (pv 3)))
 (pss_cons (ps_asg (pe_op op_sub (pe_f (c__law_pick T) (takes_of rfl rfl rfl rfl) hr (by decide) rfl (pa_cons (pv 0) (pa_cons (pe_op op_add (pe_op op_add (pe_ix ix_list (pe_ix ix_list (pv 2) (pv 5) (fun _ _ => rfl)) (pv 6) (fun _ _ => rfl)) (pe_ix ix_list (pe_ix ix_list (pv 2) (pv 6) (fun _ _ => rfl)) (pv 5) (fun _ _ => rfl))) pe_int) pa_nil))) (pe_ix ix_list (pe_ix ix_list (pv 2) (pv 6) (fun _ _ => rfl)) (pv 5) (fun _ _ => rfl))) (pg_sub (pe_ix ix_list (pv 2) (pv 5) (fun _ _ => rfl)) (pv 6) set_list))
 (pss_one (ps_set (i := 2) sc__law_narrowed.nd rfl (Or.inl rfl) (pe_f (c__law_closing T) (takes_of rfl rfl rfl rfl) hr (by decide) rfl (pa_cons (pv 2) pa_nil)))))))
 pss_nil)))
 (pss_one (ps_ret (pv 2))))))), ?_⟩
    refine seq_asg (copy_tab (i := 1) (j := 7) rfl (by intro _; rfl) (by intro _; rfl) (tb.up hf) (by omega) fun H1 p qs e1 r1 => ?_)
    refine gn ?_
    obtain ⟨s1, B1⟩ := pureB (Stm.refl hf : Sb b F H F H) hB (stp_same hf e1)
    refine ⟨_, rfl, r, us, rfl, .inl (upL s1.fh hus), ?_⟩
    rw [hul]
    refine gn ?_
    refine ⟨_, rfl, F, b, 3, rfl, B1, s1.fh, by decide, sz_of 3 (by decide) (by decide), fun H2 c s2 B2 c0 c1 => ?_⟩
    have t2 := seqB s1 B1 s2
    have r2 := r1.bag hB s2
    refine ⟨_, _, rfl, rfl, _, rfl, by omega, by omega, ?_⟩
    refine for_it walk_range (fun i σ' H' => ∃ p qs g c4 c5 c6 c7, σ' = [some (.ref b), some (.ref r), some (.ref p), some (.int (n : Nat)), c4, c5, c6, c7] ∧ Sb b F H F H' ∧ Bag K b F H' ∧ Raw H H' p qs n g ∧ Cld n g ∧ Le n g f) ?_ (fun _ _ _ _ _ => trivial) ?_ ?_
    · exact ⟨p, qs, f, none, none, none, none, rfl, t2, B2, r2, hc, .refl⟩
    · rintro i _ _ _ H3 hi ⟨p, qs, g, c4, c5, c6, c7, rfl, s3, B3, r3, cg, lg⟩ ⟨rfl, rfl⟩
      refine gn ?_
      refine ⟨_, rfl, _, _, rfl, rfl, _, rfl, ?_⟩
      by_cases one : n ≤ 1
      · refine iteN (by rw [decide_eq_false (by omega)]; decide) ?_
        exact ⟨p, qs, g, _, _, _, _, rfl, s3, B3, r3, cg, lg⟩
      refine iteY (decide_eq_true (by omega)) ?_
      refine ⟨_, rfl, _, rfl, F, b, (n : Int), rfl, B3, s3.fh, by omega, sz_len (by omega), fun H4 i4 s4 B4 i0 i1 => ?_⟩
      obtain ⟨x, rfl⟩ := nat_of i0
      have hx : x < n := by omega
      refine gn ?_
      refine ⟨_, rfl, _, _, rfl, rfl, _, rfl, _, rfl, _, _, rfl, rfl, F, b, _, rfl, B4, s4.fh, by omega, (by rw [show ((n : Int) - 1) = ((n - 1 : Nat) : Int) by omega]; exact sz_len (by omega)), fun H5 j s5 B5 j0 j1 => ?_⟩
      obtain ⟨y, rfl⟩ := nat_of j0
      obtain ⟨z, ez, zn, nez⟩ := other_end hx (by omega : y + 1 < n)
      refine ⟨_, _, rfl, rfl, .inl ⟨_, rfl, _, rfl, _, _, rfl, rfl, by omega, ?_⟩⟩
      dsimp only
      rw [ez]
      refine gn ?_
      have t5 := seqB (seqB s3 B3 s4) B4 s5
      have r5 := (r3.bag hB s4).bag hB s5
      obtain ⟨qx, hqx, ax, rx⟩ := r5.cell hx
      obtain ⟨qz, hqz, az, rz⟩ := r5.cell zn
      have g1 := bd x z hx zn
      have g2 := bd z x zn hx
      have g3 := cg.t x z x hx zn hx
      rw [cg.z x hx] at g3
      have g4 := lg x z hx zn
      have g5 := lg z x zn hx
      have p22 : (10 : Int) ^ 20 = 100000000000000000000 := by decide
      refine ⟨_, rfl, _, rfl, _, rfl, p, _, _, _, rfl, rfl, SqL.of r5.at_, ax, _, rfl, qx, _, _, _, rfl, rfl, SqL.of rx, rat zn, ?_⟩
      refine ⟨_, rfl, _, rfl, p, _, _, _, rfl, rfl, SqL.of r5.at_, az, _, rfl, qz, _, _, _, rfl, rfl, SqL.of rz, rat hx, _, _, rfl, rfl, _, _, rfl, rfl, ?_⟩
      refine ⟨F, b, _, rfl, B5, s5.fh, by omega, ?_, fun H6 t s6 B6 t0 t1 => ?_⟩
      · refine sz_of 80 ?_ (by decide)
        have : (2 : Nat) ^ 80 = 1208925819614629174706176 := by decide
        omega
      have r6 := r5.bag hB s6
      have t6 := seqB t5 B5 s6
      obtain ⟨qx, hqx, ax, rx⟩ := r6.cell hx
      obtain ⟨qz, hqz, az, rz⟩ := r6.cell zn
      refine ⟨_, rfl, _, rfl, p, _, _, _, rfl, rfl, SqL.of r6.at_, az, _, rfl, qz, _, _, _, rfl, rfl, SqL.of rz, rat hx, _, _, rfl, rfl, ?_⟩
      have rix : ixN (rowV n (g x)).length ((z : Nat) : Int) = some z := by
        have := row_ix (g := g x) zn
        rwa [Int.zero_add] at this
      refine ⟨_, rfl, _, rfl, p, _, _, _, rfl, rfl, SqL.of r6.at_, ax, _, rfl, qx, _, _, _, rfl, rfl, rx, rix, ?_⟩
      have hqb : qx ≠ b := fun e => (memB K b).there hB rfl (by rw [← e]; exact r6.q0 qx (List.mem_of_getElem? hqx))
      have h0 := r6.q0 qx (List.mem_of_getElem? hqx)
      obtain ⟨t7, B7⟩ := mutB (o := .lst ((rowV n (g x)).set z (.int (t - g z x)))) t6 B6 (hf.free h0) h0 hqb
      have r7 : Raw H (upd H6 qx (.lst ((rowV n (g x)).set z (.int (t - g z x))))) p qs n (put g x z (t - g z x)) := (r6.put (j := z) (x := t - g z x) hqx).congr fun u v hu hv => by
        unfold put
        by_cases e : u = x ∧ v = z
        · rw [if_pos e, if_pos e, if_neg (by omega)]
        · rw [if_neg e, if_neg e]
      generalize upd H6 qx (.lst ((rowV n (g x)).set z (.int (t - g z x)))) = H7 at t7 B7 r7
      refine ⟨_, rfl, _, n, _, rfl, r7.tb, by omega, fun H8 p8 q8 e8 r8 => ?_⟩
      refine gn ?_
      have s8 := stp_same t7.fh e8
      obtain ⟨t8, B8⟩ := pureB t7 B7 s8
      have r8' := (r8.base t7 B7).congr (fw_put cg hx zn (by omega))
      exact ⟨p8, q8, _, _, _, _, _, rfl, t8, B8, r8', low_cld cg hx zn (by omega), low_le.trans lg⟩
    · rintro _ H3 ⟨p, qs, g, c4, c5, c6, c7, rfl, s3, B3, r3, cg, lg⟩
      obtain ⟨s4, B4⟩ := allB hf hB s3 B3
      exact ⟨_, rfl, k _ H3 _ g s4 B4 r3.fz cg⟩
def sp__law_first_of (K : PySem.W.Frag) : Sp := fun vs H Q _ => ∃ (r1 r2 : Addr) (n : Nat) (f g : Tb2), vs = [.ref r1, .ref r2] ∧ Tb K false H (.ref r1) n f ∧ Tb K false H (.ref r2) n g ∧ n ≤ 1000 ∧
  ((∀ i j, i < n → j < n → f i j = g i j) → Q .non H) ∧ ∀ (i j : Nat) H' r, Fst n f g i j → Same H H' → SqT K H' r [.int i, .int j] → Q (.ref r) H'
theorem c__law_first_of (T : Txt K mg a) : Cl P w K mg base 1 "_law_first_of" P__law_first_of (sp__law_first_of K) [] :=
  T.d__law_first_of.cl sc__law_first_of (fun vs H Q E h => by obtain ⟨r1, r2, n, f, g, rfl, _⟩ := h; rfl) fun f cdv A outer s H vs Q E hr h => by
    obtain ⟨r1, r2, n, f, g, rfl, t1, t2, hn, k1, k2⟩ := h
    obtain ⟨_, us, er, hus, hul, _⟩ := id t1
    cases er
    refine ⟨_, ((pss_cons (ps_for (passes_of rfl) rfl (pi_range1 (by rfl) T.n_range (pa_cons (pe_callB call_len_seq (by rfl) T.n_len (by decide +kernel) (pa_cons (pv 0) pa_nil)) pa_nil)) (pg_name (i := 2) sc__law_first_of.nd rfl (Or.inl rfl))
 (pss_one (ps_for (passes_of rfl) rfl (pi_range1 (by rfl) T.n_range (pa_cons (pe_callB call_len_seq (by rfl) T.n_len (by decide +kernel) (pa_cons (pv 0) pa_nil)) pa_nil)) (pg_name (i := 3) sc__law_first_of.nd rfl (Or.inl rfl))
 (pss_one (ps_if (pt_cmpR op_ne (pe_ix ix_list (pe_ix ix_list (pv 0) (pv 2) (fun _ _ => rfl)) (pv 3) (fun _ _ => rfl)) (pe_ix ix_list (pe_ix ix_list (pv 1) (pv 2) (fun _ _ => rfl)) (pv 3) (fun _ _ => rfl)) (nomark _))
 (pss_one (ps_ret (pe_tup (pa_cons (pv 2) (pa_cons (pv 3) pa_nil)))))
 pss_nil)))))
 (pss_one (ps_ret pe_non)))), ?_⟩
    refine ⟨_, rfl, r1, us, rfl, .inl hus, _, rfl, by omega, by omega, ?_⟩
    rw [show (((us.length : Nat) : Int)).toNat = n by omega]
    refine for_it walk_range (fun i σ' H' => ∃ c2 c3, σ' = [some (.ref r1), some (.ref r2), c2, c3] ∧ H = H' ∧ ∀ i' j, i' < i → j < n → f i' j = g i' j) ?_ (fun _ _ _ _ _ => trivial) ?_ ?_
    · exact ⟨none, none, rfl, rfl, fun i' j z => absurd z (Nat.not_lt_zero _)⟩
    · rintro i _ _ _ H2 hi ⟨c2, c3, rfl, eH, hb⟩ ⟨rfl, rfl⟩
      subst eH
      refine gn ?_
      refine ⟨_, rfl, r1, us, rfl, .inl hus, _, rfl, by omega, by omega, ?_⟩
      rw [show (((us.length : Nat) : Int)).toNat = n by omega]
      refine for_it walk_range (fun j σ' H' => ∃ c3, σ' = [some (.ref r1), some (.ref r2), some (.int (0 + (i : Nat))), c3] ∧ H = H' ∧ ∀ j', j' < j → f i j' = g i j') ?_ (fun _ _ _ _ _ => trivial) ?_ ?_
      · exact ⟨_, rfl, rfl, fun j' z => absurd z (Nat.not_lt_zero _)⟩
      · rintro j _ _ _ H3 hj ⟨c3, rfl, eH, hb2⟩ ⟨rfl, rfl⟩
        subst eH
        refine gn ?_
        obtain ⟨us1, q1, a1, _, a2, a3⟩ := t1.at_ hi
        obtain ⟨us2, q2, b1, _, b2, b3⟩ := t2.at_ hi
        refine ⟨_, rfl, _, rfl, r1, us1, _, _, rfl, rfl, a1, a3, _, rfl, q1, _, _, _, rfl, rfl, a2, row_at hj, ?_⟩
        refine ⟨_, rfl, _, rfl, r2, us2, _, _, rfl, rfl, b1, b3, _, rfl, q2, _, _, _, rfl, rfl, b2, row_at hj, rfl, _, rfl, ?_⟩
        by_cases q : f i j = g i j
        · refine iteN (by simp [q]) ?_
          refine ⟨_, rfl, rfl, fun j' z => ?_⟩
          rcases Nat.lt_or_ge j' j with z1 | z1
          · exact hb2 j' z1
          · rw [show j' = j by omega]; exact q
        · refine iteY (by simp [q]) ?_
          have fst : Fst n f g i j := ⟨hi, hj, q, fun x y hy z => by
            rcases z with z | ⟨rfl, z⟩
            · exact hb x y z hy
            · exact hb2 y z⟩
          refine ⟨_, rfl, _, rfl, by show 2 ≤ sizeLine; decide, fun p hp => ?_⟩
          refine k2 i j _ p fst (same_new hp) ?_
          have e1 : (0 : Int) + (i : Nat) = (i : Nat) := Int.zero_add _
          have e2 : (0 : Int) + (j : Nat) = (j : Nat) := Int.zero_add _
          dsimp only
          rw [e1, e2]
          exact sq_new
      · rintro _ H3 ⟨c3, rfl, eH, hb2⟩
        refine ⟨_, _, rfl, eH, fun i' j z hj => ?_⟩
        rcases Nat.lt_or_ge i' i with z1 | z1
        · exact hb i' j z1 hj
        · rw [show i' = i by omega]; exact hb2 j hj
    · rintro _ H2 ⟨c2, c3, rfl, eH, hb⟩
      subst eH
      exact k1 hb
end
end K53

set_option Elab.async false
set_option linter.all false
set_option maxRecDepth 100000
set_option maxHeartbeats 4000000
namespace K53
open PySem PySem.Spec PyProof.Rows L2 Ew
theorem nxt {D : Ends} {σ : L2.St} {H : Hp} (h : D.nx σ H) : tNext D σ H := h
theorem allLk_of {ps : List Spot} {f : Tb2} : ∀ n, ∀ c ∈ allLk ps f n, ∃ x y, x < n ∧ y < ps.length ∧ c = (sg ps x, sg ps y, f x y)
  | 0, _, h => nomatch h
  | n + 1, c, h => by
    rw [allLk, List.mem_append] at h
    rcases h with h | h
    · obtain ⟨x, y, h1, h2, h3⟩ := allLk_of n c h
      exact ⟨x, y, by omega, h2, h3⟩
    · obtain ⟨y, hy, rfl⟩ := List.mem_map.mp h
      exact ⟨n, y, by omega, List.mem_range.mp (List.mem_filter.mp hy).1, rfl⟩
def Narr (f g : Tb2) (i j : Nat) : Tb2 := if f i j > g i j then g else f
theorem wide_cld {n : Nat} {f g : Tb2} {i j : Nat} (hf : Cld n f) (hg : Cld n g) : Cld n (Wide f g i j) := by
  unfold Wide
  split
  · exact hf
  · exact hg
theorem narr_lt {n : Nat} {f g : Tb2} {i j : Nat} (h : Fst n f g i j) : Narr f g i j i j < Wide f g i j i j := by
  have := h.ne
  unfold Narr Wide
  split <;> omega
section
variable {P : Program} {w : World} {K : PySem.W.Frag} {mg : Str → Option Value} {base : Heap} {a : Ad}
theorem Sps.nth {t : Bool} {H : Hp} {p : Addr} {ps : List Spot} (h : Sps K t H p ps) {i : Nat} (hi : i < ps.length) : ∃ us u, Sq K t H p us ∧ Spt K H u (sg ps i) ∧ atI us ((i : Nat) : Int) = some u := by
  obtain ⟨us, u, s, h1, _, h2, h3, h4⟩ := h.at_ hi
  rw [Int.zero_add] at h4
  exact ⟨us, u, h1, by rw [sg_at h2]; exact h3, h4⟩
theorem Tb.nth {t : Bool} {H : Hp} {p : Addr} {n : Nat} {f : Tb2} (h : Tb K t H (.ref p) n f) {i : Nat} (hi : i < n) : ∃ us q, Sq K t H p us ∧ Sq K t H q (rowV n (f i)) ∧ atI us ((i : Nat) : Int) = some (.ref q) := by
  obtain ⟨us, q, h1, _, h2, h3⟩ := h.at_ hi
  rw [Int.zero_add] at h3
  exact ⟨us, q, h1, h2, h3⟩
def sp__law_right (K : PySem.W.Frag) (a : Ad) : Sp := fun vs H Q _ => ∃ (an l r1 r2 : Addr) (v : V) (ps : List Spot) (f g : Tb2), vs = [.ref an, .ref l, .ref r1, .ref r2] ∧ SqT K H an [.str "found", v] ∧ FoundV K a H v ps f g ∧ Sps K false H l ps ∧ OkS ps ∧ Tb K false H (.ref r1) ps.length f ∧ Tb K false H (.ref r2) ps.length g ∧ Cld ps.length f ∧ Cld ps.length g ∧
  ∀ H', Same H H' → Q (.bl true) H'
theorem c__law_right (T : Txt K mg a) : Cl P w K mg base 6 "_law_right" P__law_right (sp__law_right K a) [] :=
  T.d__law_right.cl sc__law_right (fun vs H Q E h => by obtain ⟨an, l, r1, r2, v, ps, f, g, rfl, _⟩ := h; rfl) fun f cdv A outer s H vs Q E hr h => by
    obtain ⟨an, l, r1, r2, v, ps, f, g, rfl, han, fv, hl, ok, t1, t2, cf, cg, k⟩ := h
    have le := ok.le
    refine ⟨_, ((pss_cons (ps_set (i := 4) sc__law_right.nd rfl (Or.inl rfl) (pe_f (c__law_first_of T) (takes_of rfl rfl rfl rfl) hr (by decide) rfl (pa_cons (pv 2) (pa_cons (pv 3) pa_nil))))
 (pss_cons (ps_if (pt_cmpR op_ne (pe_ix ix_tup (pv 0) pe_int (fun _ _ => rfl)) pe_str (nomark _))
 (pss_one (ps_ret pe_bl))
 pss_nil)
 (pss_cons (ps_if (pt_cmpR op_isN (pv 4) pe_non (nomark _))
 (pss_one (ps_ret (pe_cmpR op_isN (pe_ix ix_tup (pv 0) pe_int (fun _ _ => rfl)) pe_non (nomark _))))
 pss_nil)
 (pss_cons (ps_set (i := 5) sc__law_right.nd rfl (Or.inl rfl) (pe_ix ix_tup (pv 0) pe_int (fun _ _ => rfl)))
 (pss_cons (ps_if (PW.pt (pw_or (pt_not (pt_val (pe_callB call_isi (by rfl) T.n_isinstance (by decide +kernel) (pa_cons (pv 5) (pa_cons (pe_bltn (v := .ty "tuple") (by rfl) T.n_tuple (by decide +kernel) rfl) pa_nil))))) (pw_or1 (pt_cmpR op_ne (pe_callB call_len_seq (by rfl) T.n_len (by decide +kernel) (pa_cons (pv 5) pa_nil)) pe_int (nomark _)))))
 (pss_one (ps_ret pe_bl))
 pss_nil)
 (pss_cons (ps_asg (pv 4) (pg_tup rfl (pgs_cons (pg_name (i := 6) sc__law_right.nd rfl (Or.inl rfl)) (pgs_cons (pg_name (i := 7) sc__law_right.nd rfl (Or.inl rfl)) pgs_nil))))
 (pss_cons (ps_if (PW.pt (pw_or (pt_cmpR (op_neD hr.units) (pe_ix ix_tup (pv 5) pe_int (fun _ _ => rfl)) (pe_ix ix_list (pv 1) (pv 6) (fun _ _ => rfl)) (nomark _)) (pw_or1 (pt_cmpR (op_neD hr.units) (pe_ix ix_tup (pv 5) pe_int (fun _ _ => rfl)) (pe_ix ix_list (pv 1) (pv 7) (fun _ _ => rfl)) (nomark _)))))
 (pss_one (ps_ret pe_bl))
 pss_nil)
 (pss_cons (ps_set (i := 8) sc__law_right.nd rfl (Or.inl rfl) (pe_ifExp (pt_cmpR op_gt (pe_ix ix_list (pe_ix ix_list (pv 2) (pv 6) (fun _ _ => rfl)) (pv 7) (fun _ _ => rfl)) (pe_ix ix_list (pe_ix ix_list (pv 3) (pv 6) (fun _ _ => rfl)) (pv 7) (fun _ _ => rfl)) (nomark _)) (pv 2) (pv 3)))
 (pss_cons (ps_set (i := 9) sc__law_right.nd rfl (Or.inl rfl) (pe_ifExp (pt_cmpR op_gt (pe_ix ix_list (pe_ix ix_list (pv 2) (pv 6) (fun _ _ => rfl)) (pv 7) (fun _ _ => rfl)) (pe_ix ix_list (pe_ix ix_list (pv 3) (pv 6) (fun _ _ => rfl)) (pv 7) (fun _ _ => rfl)) (nomark _)) (pv 3) (pv 2)))
 (pss_cons (ps_set (i := 10) sc__law_right.nd rfl (Or.inl rfl) (pe_f (c__law_values_of T) (takes_of rfl rfl rfl rfl) hr (by decide) rfl (pa_cons (pe_ix ix_tup (pv 5) pe_int (fun _ _ => rfl)) (pa_cons (pv 1) pa_nil))))
 (pss_cons (ps_if (pt_not (pt_val (pe_f (c__law_allowed T) (takes_of rfl rfl rfl rfl) hr (by decide) rfl (pa_cons (pv 10) (pa_cons (pe_f (c__law_card_links T) (takes_of rfl rfl rfl rfl) hr (by decide) rfl (pa_cons (pv 1) (pa_cons (pv 8) pa_nil))) pa_nil)))))
 (pss_one (ps_ret pe_bl))
 pss_nil)
 (pss_cons (ps_if (pt_cmpR (op_neD hr.units) (pe_f (c__law_minus T) (takes_of rfl rfl rfl rfl) hr (by decide) rfl (pa_cons (pe_dget (hu_of hr) (pv 10) (pe_ix ix_list (pv 1) (pv 7) (fun _ _ => rfl)) (fun _ _ => rfl)) (pa_cons (pe_dget (hu_of hr) (pv 10) (pe_ix ix_list (pv 1) (pv 6) (fun _ _ => rfl)) (fun _ _ => rfl)) pa_nil))) (pe_tup (pa_cons (pe_ix ix_list (pe_ix ix_list (pv 8) (pv 6) (fun _ _ => rfl)) (pv 7) (fun _ _ => rfl)) (pa_cons pe_int pa_nil))) (nomark _))
 (pss_one (ps_ret pe_bl))
 pss_nil)
 (pss_one (ps_ret (pe_not (pe_f (c__law_keeps T) (takes_of rfl rfl rfl rfl) hr (by decide) rfl (pa_cons (pv 10) (pa_cons (pe_tup (pa_cons (pe_ix ix_list (pv 1) (pv 6) (fun _ _ => rfl)) (pa_cons (pe_ix ix_list (pv 1) (pv 7) (fun _ _ => rfl)) (pa_cons (pe_ix ix_list (pe_ix ix_list (pv 9) (pv 6) (fun _ _ => rfl)) (pv 7) (fun _ _ => rfl)) (pa_cons (pe_tup (pa_cons pe_str pa_nil)) pa_nil))))) pa_nil))))))))))))))))))), ?_⟩
    refine ⟨_, rfl, _, rfl, r1, r2, ps.length, f, g, rfl, t1, t2, le, fun al => ?_, fun i j H1 pp fst e1 hpp => ?_⟩
    · rcases fv with ⟨rfl, _⟩ | ⟨r, u1, u2, x, i, j, _, fst, _⟩
      · refine gn ?_
        refine ⟨_, rfl, an, _, _, _, rfl, rfl, han, at0, rfl, _, rfl, iteN (by simp) ?_⟩
        refine ⟨_, rfl, rfl, _, rfl, iteY (by simp) ?_⟩
        exact ⟨_, rfl, an, _, _, _, rfl, rfl, han, at1, rfl, k H (.refl H)⟩
      · exact absurd (al i j fst.hi fst.hj) fst.ne
    rcases fv with ⟨_, al⟩ | ⟨r, u1, u2, x, i', j', rfl, fst', hr0, hu1, hu2, hw⟩
    · exact absurd (al i j fst.hi fst.hj) fst.ne
    obtain ⟨rfl, rfl⟩ := fst'.uniq fst
    clear fst'
    have hi := fst.hi
    have hj := fst.hj
    have a0 : atI [u1, u2, V.ref x] 0 = some u1 := rfl
    have a1 : atI [u1, u2, V.ref x] 1 = some u2 := rfl
    have a2 : atI [u1, u2, V.ref x] 2 = some (.ref x) := rfl
    have hr1 := upT e1 hr0
    refine gn ?_
    refine ⟨_, rfl, an, _, _, _, rfl, rfl, upT e1 han, at0, rfl, _, rfl, iteN (by simp) ?_⟩
    refine ⟨_, rfl, rfl, _, rfl, iteN (by simp) ?_⟩
    refine ⟨_, rfl, an, _, _, _, rfl, rfl, upT e1 han, at1, ?_⟩
    refine gn ?_
    refine ⟨_, rfl, _, _, _, _, true, rfl, .ty _, ty_sqT hr1, kit_ty (by decide +kernel), true, rfl, iteF ?_⟩
    refine ⟨_, rfl, r, _, rfl, .inr hr1, rfl, _, rfl, iteN (by simp) ?_⟩
    refine ⟨_, rfl, pp, _, rfl, hpp, rfl, _, _, rfl, _, _, rfl, rfl, ?_⟩
    dsimp only [gName, gNil]
    obtain ⟨us1, v1, b1, b2, b3⟩ := (hl.up e1).nth hi
    obtain ⟨us2, v2, c1, c2, c3⟩ := (hl.up e1).nth hj
    refine ⟨_, rfl, r, _, _, _, rfl, rfl, hr1, a0, _, rfl, _, rfl, l, us1, _, _, rfl, rfl, b1, b3, _, _, (hu1.up e1).dp, b2.dp, (fl_sp (sg_ok ok _)).sh (by decide), (fl_sp (sg_ok ok _)).sh (by decide), ?_⟩
    rw [eqv_sp, decide_eq_true rfl]
    refine ⟨_, rfl, iteF ?_⟩
    refine ⟨_, rfl, r, _, _, _, rfl, rfl, hr1, a1, _, rfl, _, rfl, l, us2, _, _, rfl, rfl, c1, c3, _, _, (hu2.up e1).dp, c2.dp, (fl_sp (sg_ok ok _)).sh (by decide), (fl_sp (sg_ok ok _)).sh (by decide), ?_⟩
    rw [eqv_sp, decide_eq_true rfl]
    refine ⟨_, rfl, iteF ?_⟩
    refine nxt ?_
    dsimp only
    have t1' := t1.up e1
    have t2' := t2.up e1
    obtain ⟨wr1, wq1, w1, w2, w3⟩ := t1'.nth hi
    obtain ⟨wr2, wq2, w4, w5, w6⟩ := t2'.nth hi
    have cW := wide_cld (i := i') (j := j') cf cg
    have lt := narr_lt fst
    refine seq_with (fun σ' H' => ∃ rw, σ' = [some (V.ref an), some (.ref l), some (.ref r1), some (.ref r2), some (.ref pp), some (.ref r), some (.int (i' : Nat)), some (.int (j' : Nat)), some (.ref rw), none, none] ∧ H1 = H' ∧ Tb K false H1 (.ref rw) ps.length (Wide f g i' j')) (fun u hu => ?_) ?_
    · refine ⟨_, rfl, _, rfl, r1, wr1, _, _, rfl, rfl, w1, w3, _, rfl, wq1, _, _, _, rfl, rfl, w2, rat hj, ?_⟩
      refine ⟨_, rfl, _, rfl, r2, wr2, _, _, rfl, rfl, w4, w6, _, rfl, wq2, _, _, _, rfl, rfl, w5, rat hj, _, _, rfl, rfl, _, rfl, ?_⟩
      by_cases gt : f i' j' > g i' j'
      · exact iteY (decide_eq_true gt) ⟨_, rfl, hu _ _ ⟨r1, rfl, rfl, by unfold Wide; rw [if_pos gt]; exact t1'⟩⟩
      · exact iteN (by rw [decide_eq_false gt]; decide) ⟨_, rfl, hu _ _ ⟨r2, rfl, rfl, by unfold Wide; rw [if_neg gt]; exact t2'⟩⟩
    rintro _ _ ⟨rw, rfl, rfl, tW⟩
    refine seq_with (fun σ' H' => ∃ rn, σ' = [some (V.ref an), some (.ref l), some (.ref r1), some (.ref r2), some (.ref pp), some (.ref r), some (.int (i' : Nat)), some (.int (j' : Nat)), some (.ref rw), some (.ref rn), none] ∧ H1 = H' ∧ Tb K false H1 (.ref rn) ps.length (Narr f g i' j')) (fun u hu => ?_) ?_
    · refine ⟨_, rfl, _, rfl, r1, wr1, _, _, rfl, rfl, w1, w3, _, rfl, wq1, _, _, _, rfl, rfl, w2, rat hj, ?_⟩
      refine ⟨_, rfl, _, rfl, r2, wr2, _, _, rfl, rfl, w4, w6, _, rfl, wq2, _, _, _, rfl, rfl, w5, rat hj, _, _, rfl, rfl, _, rfl, ?_⟩
      by_cases gt : f i' j' > g i' j'
      · exact iteY (decide_eq_true gt) ⟨_, rfl, hu _ _ ⟨r2, rfl, rfl, by unfold Narr; rw [if_pos gt]; exact t2'⟩⟩
      · exact iteN (by rw [decide_eq_false gt]; decide) ⟨_, rfl, hu _ _ ⟨r1, rfl, rfl, by unfold Narr; rw [if_neg gt]; exact t1'⟩⟩
    rintro _ _ ⟨rn, rfl, rfl, tN⟩
    generalize Wide f g i' j' = W at *
    generalize Narr f g i' j' = N at *
    refine ⟨_, rfl, r, _, _, _, rfl, rfl, hr1, a2, _, rfl, .ref x, l, ps, W i', rfl, hw.up e1, hl.up e1, ok, fun H2 d kvs e2 _ hd hk => ?_⟩
    refine gn ?_
    refine ⟨_, rfl, _, rfl, _, rfl, l, rw, ps, W, rfl, (hl.up e1).up e2, ok, tW.up e2, fun H3 lk ys e3 _ hlk prl => ?_⟩
    have z0 := cW.z i' hi
    refine ⟨d, lk, kvs, wv ps (W i'), ys, _, rfl, e3 _ _ hd, hk.up e3, SqL.of hlk, prl, ?_, ?_, fun H4 e4 => ⟨true, rfl, iteF ?_⟩⟩
    · have := wv_look (h := W i') ok ok.pos
      rw [sg_at ok.g, Int.sub_self] at this
      exact this
    · intro c hc
      obtain ⟨u, v, hu, hv, rfl⟩ := allLk_of _ c hc
      refine ⟨_, _, wv_look ok hu, wv_look ok hv, ?_⟩
      have := cW.t i' u v hi hu hv
      show W i' v - W i' 0 - (W i' u - W i' 0) ≤ W u v
      omega
    have e14 := e2.trans (e3.trans e4)
    have hd4 := (e3.trans e4) _ _ hd
    have hk4 := hk.up (e3.trans e4)
    have hl4 := (hl.up e1).up e14
    have tW4 := tW.up e14
    have tN4 := tN.up e14
    obtain ⟨us1, v1, b1, ⟨q1, rfl, b2⟩, b3⟩ := hl4.nth hi
    obtain ⟨us2, v2, c1, ⟨q2, rfl, c2⟩, c3⟩ := hl4.nth hj
    obtain ⟨x1, g1, rt1⟩ := hk4.of (wv_look (h := W i') ok hi)
    obtain ⟨x2, g2, rt2⟩ := hk4.of (wv_look (h := W i') ok hj)
    have dg1 : DGet H4 d (.ref q1) (some x1) := by rw [← g1]; exact DGet.t hd4 b2
    have dg2 : DGet H4 d (.ref q2) (some x2) := by rw [← g2]; exact DGet.t hd4 c2
    refine ⟨_, rfl, _, rfl, _, rfl, l, us2, _, _, rfl, rfl, c1, c3, d, _, rfl, dg2, _, rfl, _, rfl, _, rfl, l, us1, _, _, rfl, rfl, b1, b3, d, _, rfl, dg1, ?_⟩
    refine ⟨x2, x1, _, _, rfl, rt2, rt1, fun H5 z e5 rz => ?_⟩
    obtain ⟨wr, wq, w7, w8, w9⟩ := (tW4.up e5).nth hi
    refine ⟨_, rfl, _, rfl, rw, wr, _, _, rfl, rfl, w7, w9, _, rfl, wq, _, _, _, rfl, rfl, w8, rat hj, by show 2 ≤ sizeLine; decide, fun p6 hp6 => ?_⟩
    have e6 := same_new (o := .tup [.int (W i' j'), .int 1]) hp6
    refine ⟨_, _, (rz.up e6).dp, dp_ints (ds := [W i' j', 1]) sq_new, shaped_ints _, shaped_ints _, ?_⟩
    have val : W i' j' - W i' 0 - (W i' i' - W i' 0) = W i' j' := by omega
    rw [eqv_ints]
    dsimp only
    rw [val, decide_eq_true rfl]
    refine ⟨_, rfl, iteF ?_⟩
    have e46 := e5.trans e6
    generalize upd H5 p6 (.tup [.int (W i' j'), .int 1]) = H6 at e46
    obtain ⟨us3, v3, d1, d2, d3⟩ := (hl4.up e46).nth hi
    obtain ⟨us4, v4, d4, d5, d6⟩ := (hl4.up e46).nth hj
    obtain ⟨nr, nq, n1, n2, n3⟩ := (tN4.up e46).nth hi
    refine ⟨_, rfl, _, rfl, _, rfl, l, us3, _, _, rfl, rfl, d1, d3, _, rfl, _, rfl, l, us4, _, _, rfl, rfl, d4, d6, ?_⟩
    refine ⟨_, rfl, _, rfl, rn, nr, _, _, rfl, rfl, n1, n3, _, rfl, nq, _, _, _, rfl, rfl, n2, rat hj, by show 1 ≤ sizeLine; decide, fun p7 hp7 => ⟨by show 4 ≤ sizeLine; decide, fun p8 hp8 => ?_⟩⟩
    have e7 := same_new (o := .tup [.str "card"]) hp7
    have e8 := same_new (o := .tup [v3, v4, .int (N i' j'), .ref p7]) hp8
    have e48 := e46.trans (e7.trans e8)
    refine ⟨d, _, kvs, wv ps (W i'), (sg ps i', sg ps j', N i' j'), _, _, rfl, e48 _ _ hd4, hk4.up e48, ⟨p8, v3, v4, p7, rfl, sq_new, d2.up (e7.trans e8), d5.up (e7.trans e8), upT e8 sq_new⟩, wv_look ok hi, wv_look ok hj, ?_⟩
    rw [val, decide_eq_false (by show ¬ W i' j' ≤ N i' j'; omega)]
    exact ⟨_, rfl, k _ (e1.trans (e14.trans e48))⟩
end
end K53

set_option Elab.async false
set_option linter.all false
set_option maxRecDepth 100000
set_option maxHeartbeats 4000000
namespace K53
open PySem PySem.Spec PyProof.Rows L2 Ew
/-! ### a card's spots and rows, some of them, in another order -/
def subT (f : Tb2) (os : List Nat) : Tb2 := fun i j => f (os.getD i 0) (os.getD j 0)
theorem getD_lt {os : List Nat} {n i : Nat} (h : ∀ k ∈ os, k < n) (hi : i < os.length) : os.getD i 0 < n := by
  rw [List.getD_eq_getElem?_getD, List.getElem?_eq_getElem hi]
  exact h _ (List.getElem_mem hi)
theorem sub_cld {n : Nat} {f : Tb2} {os : List Nat} (hc : Cld n f) (h : ∀ k ∈ os, k < n) : Cld os.length (subT f os) :=
  ⟨fun a ha => hc.z _ (getD_lt h ha), fun a b c ha hb hd => hc.t _ _ _ (getD_lt h ha) (getD_lt h hb) (getD_lt h hd)⟩
theorem sg_inj {ps : List Spot} (nd : ps.Nodup) {i j : Nat} (hi : i < ps.length) (hj : j < ps.length) (e : sg ps i = sg ps j) : i = j := by
  have e1 := List.getElem?_eq_getElem hi
  have e2 := List.getElem?_eq_getElem hj
  rw [sg_at e1, sg_at e2] at e
  exact (List.getElem?_inj hi nd).mp (by rw [e1, e2, e])
theorem sub_ok {ps : List Spot} {os : List Nat} (ok : OkS ps) (h : ∀ k ∈ os, k < ps.length) (nd : os.Nodup) (h0 : os[0]? = some 0) (hl : os.length ≤ 1000) : OkS (os.map (sg ps)) where
  nd := by
    rw [List.nodup_iff_pairwise_ne, List.pairwise_map]
    refine List.Pairwise.imp_of_mem (fun {a b} ha hb ne e => ne (sg_inj ok.nd (h a ha) (h b hb) e)) (List.nodup_iff_pairwise_ne.mp nd)
  g := by rw [List.getElem?_map, h0]; exact congrArg some (sg_at ok.g)
  ok := fun p hp => by
    obtain ⟨k, _, rfl⟩ := List.mem_map.mp hp
    exact sg_ok ok k
  le := by rw [List.length_map]; exact hl
section
variable {K : PySem.W.Frag} {H : Hp} {p : Addr} {xs : List V}
theorem lc_l {σ : L2.St} {g : TG} {tt : TT} {te : TE} {vs : List Nat} {Q : VK} {i : Nat} (h0 : σ[i]? = some (some (.ref p))) (hp : SqL K H p xs) (R : Nat → Hp → V → Prop) (hR : ∀ i F F' y, Same F F' → R i F y → R i F' y) (hn : xs.length ≤ 1000000)
    (hs : ∀ i x F' H' H'' (Kt : VK) (Kn : Hp → Prop), i < xs.length → Stp H H F' H' → YAt xs i H' x H'' → (∀ y F4 H4, Stp F' H' F4 H4 → R i F4 y → Kt y H4) →
      g x (wipe σ vs) H'' fun σ2 H2 => wipe σ2 vs = wipe σ vs ∧ tt σ2 H2 fun b H3 => if b = true then te σ2 H3 Kt else Kn H3)
    (hd : ∀ F' H' zs D, Stp H H F' H' → H D = none → F' D = some (.lst zs) → zs.length = xs.length → (∀ j y, zs[j]? = some y → R j F' y) → Q (.ref D) H') : tLc (iList K (tVar i)) g tt te vs σ H Q :=
  ⟨_, h0, p, rfl, ⟨xs, hp⟩, fun D hD => lcM memP walk_list (.refl H) trivial hD R hR hn (fun F' H' e1 e2 => upL (e1.trans e2) hp) (fun i x F' H' H'' Kt Kn hi s1 _ y kk => hs i x F' H' H'' Kt Kn hi s1 y fun y F4 H4 s4 r4 => kk y F4 H4 s4 trivial r4) fun F' H' zs s1 _ hD' hl' hr => hd F' H' zs D s1 hD hD' hl' hr⟩
theorem nat_item {os : List Nat} {i : Nat} {x : V} (h : (os.map fun k : Nat => V.int (k : Int))[i]? = some x) : ∃ k, os[i]? = some k ∧ x = .int (k : Nat) := by
  rw [List.getElem?_map, Option.map_eq_some_iff] at h
  obtain ⟨d, h1, h2⟩ := h
  exact ⟨d, h1, h2.symm⟩
theorem tup2 {t1 t2 : TE} {σ : L2.St} {Q : VK} (h : t1 σ H fun v1 H1 => t2 σ H1 fun v2 H2 => [v1, v2].length ≤ sizeLine ∧ ∀ p, H2 p = none → Q (.ref p) (upd H2 p (.tup [v1, v2]))) : tTup (tCons t1 (tCons t2 tNil)) σ H Q := h
/-- ([spots[k] for k in order], [[rows[j][k] for k in order] for j in order]) -/
theorem sub_ret {q l r i : Nat} {a0 a3 a4 a5 a6 a7 a8 : Option V} {ps : List Spot} {f : Tb2} {os : List Nat} {D : Ends} (hi : (i = 6 ∧ a6 = some (.ref q)) ∨ (i = 8 ∧ a8 = some (.ref q))) (hq : SqL K H q (os.map fun k : Nat => V.int (k : Int))) (hl : Sps K false H l ps) (hr : Tb K false H (.ref r) ps.length f)
    (ho : ∀ k ∈ os, k < ps.length) (le : os.length ≤ 1000)
    (k : ∀ H' p l2 r2, Same H H' → SqT K H' p [.ref l2, .ref r2] → Sps K false H' l2 (os.map (sg ps)) → Tb K false H' (.ref r2) os.length (subT f os) → D.rt (.ref p) H') :
    tRet (tTup (tCons (tLc (iList K (tVar i)) (gName 9) tYes (tOp (rIxL K) (tVar 1) (tVar 9)) [9]) (tCons (tLc (iList K (tVar i)) (gName 10) tYes (tLc (iList K (tVar i)) (gName 9) tYes (tOp (rIxL K) (tOp (rIxL K) (tVar 2) (tVar 10)) (tVar 9)) [9]) [10]) tNil))) D
      [a0, some (.ref l), some (.ref r), a3, a4, a5, a6, a7, a8, none, none] H := by
  have ol : (os.map fun k : Nat => V.int (k : Int)).length = os.length := List.length_map _
  have one : ∀ (σ : L2.St), σ[i]? = some (some (.ref q)) → (∀ x, ((wipe σ [9]).set 9 (some x))[1]? = some (some (.ref l)) ∧ ((wipe σ [9]).set 9 (some x))[9]? = some (some x) ∧ wipe ((wipe σ [9]).set 9 (some x)) [9] = wipe σ [9]) →
      ∀ R : VK, (∀ H' D, Same H H' → Sps K false H' D (os.map (sg ps)) → R (.ref D) H') → tLc (iList K (tVar i)) (gName 9) tYes (tOp (rIxL K) (tVar 1) (tVar 9)) [9] σ H R := by
    intro σ h0 hσ R kk
    refine lc_l h0 hq (fun j F y => ∃ o, os[j]? = some o ∧ Spt K F y (sg ps o)) (fun _ _ _ _ e z => by obtain ⟨o, z1, z2⟩ := z; exact ⟨o, z1, z2.up e⟩) (by omega) ?_ ?_
    · rintro j x F' _ H5 Kt Kn hj s5 ⟨rfl, hx⟩ kt
      obtain ⟨o, hoj, rfl⟩ := nat_item hx
      have e5 := s5.ff.trans s5.fh
      obtain ⟨us, u, h1, h2, h3⟩ := (hl.up s5.ff).nth (ho o (List.mem_of_getElem? hoj))
      obtain ⟨g1, g2, g3⟩ := hσ (.int (o : Nat))
      exact ⟨g3, lc_yes ⟨_, g1, _, g2, l, us, _, _, rfl, rfl, upL s5.fh h1, h3, kt _ _ _ (.refl s5.fh) ⟨o, hoj, h2⟩⟩⟩
    · intro F5 H5 zs D s5 _ hD hz hrz
      refine kk H5 D (s5.ff.trans s5.fh) ⟨zs, SqL.of (s5.fh _ _ hD), ?_⟩
      rw [ol] at hz
      have := paired_range (R := fun v q => Spt K H5 v q) (n := os.length) (f := fun j => sg ps (os.getD j 0)) hz fun j y hy => by
        obtain ⟨o, z1, z2⟩ := hrz j y hy
        rw [List.getD_eq_getElem?_getD, z1]
        exact z2.up s5.fh
      have e : (List.range os.length).map (fun j => sg ps (os.getD j 0)) = os.map (sg ps) := by
        refine List.ext_getElem? fun j => ?_
        rcases Nat.lt_or_ge j os.length with hj | hj
        · rw [List.getElem?_map, List.getElem?_range hj, List.getElem?_map, List.getElem?_eq_getElem hj, Option.map_some, Option.map_some, List.getD_eq_getElem?_getD, List.getElem?_eq_getElem hj]
          rfl
        · rw [List.getElem?_eq_none (by simpa using hj), List.getElem?_eq_none (by simpa using hj)]
      rwa [e] at this
  have row : ∀ (σ : L2.St) (o : Nat) (H1 : Hp), Same H H1 → o < ps.length → σ[i]? = some (some (.ref q)) → (∀ x, ((wipe σ [9]).set 9 (some x))[2]? = some (some (.ref r)) ∧ ((wipe σ [9]).set 9 (some x))[10]? = some (some (.int (o : Nat))) ∧ ((wipe σ [9]).set 9 (some x))[9]? = some (some x) ∧ wipe ((wipe σ [9]).set 9 (some x)) [9] = wipe σ [9]) →
      ∀ R : VK, (∀ H' D, Same H1 H' → H1 D = none → H' D = some (.lst (rowV os.length fun k => f o (os.getD k 0))) → R (.ref D) H') → tLc (iList K (tVar i)) (gName 9) tYes (tOp (rIxL K) (tOp (rIxL K) (tVar 2) (tVar 10)) (tVar 9)) [9] σ H1 R := by
    intro σ o H1 e1 on h0 hσ R kk
    refine lc_l h0 (upL e1 hq) (fun j F y => y = .int (f o (os.getD j 0))) (fun _ _ _ _ _ z => z) (by omega) ?_ ?_
    · rintro j x F' _ H5 Kt Kn hj s5 ⟨rfl, hx⟩ kt
      obtain ⟨c, hcj, rfl⟩ := nat_item hx
      have cn := ho c (List.mem_of_getElem? hcj)
      have e5 := e1.trans (s5.ff.trans s5.fh)
      obtain ⟨us, u, h1, h2, h3⟩ := (hr.up e5).nth on
      obtain ⟨g1, g2, g3, g4⟩ := hσ (.int (c : Nat))
      refine ⟨g4, lc_yes ⟨_, g1, _, g2, r, us, _, _, rfl, rfl, h1, h3, _, g3, u, _, _, _, rfl, rfl, h2, rat cn, kt _ _ _ (.refl s5.fh) ?_⟩⟩
      rw [List.getD_eq_getElem?_getD, hcj]
      rfl
    · intro F5 H5 zs D s5 hD0 hD hz hrz
      rw [ol] at hz
      obtain rfl := rowV_of hz hrz
      exact kk H5 D (s5.ff.trans s5.fh) hD0 (s5.fh _ _ hD)
  have all : ∀ (σ : L2.St) (H1 : Hp), Same H H1 → σ[i]? = some (some (.ref q)) → (∀ x, ((wipe σ [10]).set 10 (some x))[i]? = some (some (.ref q)) ∧ wipe ((wipe σ [10]).set 10 (some x)) [10] = wipe σ [10] ∧
        ∀ y, ((wipe ((wipe σ [10]).set 10 (some x)) [9]).set 9 (some y))[2]? = some (some (.ref r)) ∧ ((wipe ((wipe σ [10]).set 10 (some x)) [9]).set 9 (some y))[10]? = some (some x) ∧ ((wipe ((wipe σ [10]).set 10 (some x)) [9]).set 9 (some y))[9]? = some (some y) ∧ wipe ((wipe ((wipe σ [10]).set 10 (some x)) [9]).set 9 (some y)) [9] = wipe ((wipe σ [10]).set 10 (some x)) [9]) →
      ∀ R : VK, (∀ H' D, Same H1 H' → Tb K false H' (.ref D) os.length (subT f os) → R (.ref D) H') → tLc (iList K (tVar i)) (gName 10) tYes (tLc (iList K (tVar i)) (gName 9) tYes (tOp (rIxL K) (tOp (rIxL K) (tVar 2) (tVar 10)) (tVar 9)) [9]) [10] σ H1 R := by
    intro σ H1 e1 h0 hσ R kk
    refine lc_l h0 (upL e1 hq) (fun j F y => ∃ o q2, os[j]? = some o ∧ y = .ref q2 ∧ F q2 = some (.lst (rowV os.length fun k => f o (os.getD k 0)))) (fun _ _ _ _ e z => by obtain ⟨o, q2, z1, z2, z3⟩ := z; exact ⟨o, q2, z1, z2, e _ _ z3⟩) (by omega) ?_ ?_
    · rintro j x F' _ H5 Kt Kn hj s5 ⟨rfl, hx⟩ kt
      obtain ⟨o, hoj, rfl⟩ := nat_item hx
      obtain ⟨g1, g2, g3⟩ := hσ (.int (o : Nat))
      refine ⟨g2, lc_yes ?_⟩
      refine row _ o _ (e1.trans (s5.ff.trans s5.fh)) (ho o (List.mem_of_getElem? hoj)) g1 g3 _ fun H6 D e6 hD0 hD => ?_
      exact kt _ _ _ (stp_all s5.fh e6) ⟨o, D, hoj, rfl, (fz_new hD0).trans hD⟩
    · intro F5 H5 zs D s5 hD0 hD hz hrz
      rw [ol] at hz
      refine kk H5 D (s5.ff.trans s5.fh) ⟨D, zs, rfl, SqL.of (s5.fh _ _ hD), hz, fun j u hu => ?_⟩
      obtain ⟨o, q2, z1, rfl, z3⟩ := hrz j u hu
      refine ⟨q2, rfl, SqL.of ?_⟩
      rw [s5.fh _ _ z3]
      unfold subT
      rw [List.getD_eq_getElem?_getD (l := os) (i := j), z1]
      rfl
  refine ret1 ?_
  rcases hi with ⟨rfl, rfl⟩ | ⟨rfl, rfl⟩
  all_goals
    refine tup2 ?_
    refine one _ ?_ ?_ _ fun H1 l2 e1 h1 => ?_
    · rfl
    · exact fun x => ⟨rfl, rfl, rfl⟩
    refine all _ H1 e1 ?_ ?_ _ fun H2 r2 e2 h2 => ?_
    · rfl
    · exact fun x => ⟨rfl, rfl, fun y => ⟨rfl, rfl, rfl, rfl⟩⟩
    refine ⟨by show 2 ≤ sizeLine; decide, fun p hp => ?_⟩
    have e3 := same_new (o := .tup [.ref l2, .ref r2]) hp
    exact k _ p l2 r2 (e1.trans (e2.trans e3)) sq_new (h1.up (e2.trans e3)) (h2.up e3)
end
end K53

set_option Elab.async false
set_option linter.all false
set_option maxRecDepth 100000
set_option maxHeartbeats 4000000
namespace K53
open PySem PySem.Spec PyProof.Rows L2 Ew
/-! ### a card of other spots -/
def swp (s i : Nat) : Nat := if i = s then s + 1 else if i = s + 1 then s else i
def swpL (n s : Nat) : List Nat := (List.range n).map (swp s)
theorem swp_lt {n s i : Nat} (hs : s + 1 < n) (hi : i < n) : swp s i < n := by unfold swp; split <;> (try split) <;> omega
theorem swp_inj {s i j : Nat} (h : swp s i = swp s j) : i = j := by
  unfold swp at h
  split at h <;> split at h <;> (try split at h) <;> (try split at h) <;> omega
theorem swpL_nd {n s : Nat} : (swpL n s).Nodup := by
  unfold swpL
  rw [List.nodup_iff_pairwise_ne, List.pairwise_map]
  exact (List.nodup_iff_pairwise_ne.mp List.nodup_range).imp fun ne e => ne (swp_inj e)
theorem swpL_vals {n s : Nat} (hs : s + 1 < n) : ((rgV 0 (n : Nat)).set s (.int (((s : Nat) : Int) + 1))).set (s + 1) (.int (s : Nat)) = (swpL n s).map fun k : Nat => V.int (k : Int) := by
  have rl : (rgV 0 ((n : Nat) : Int)).length = n := by rw [rgV_length]; omega
  refine List.ext_getElem? fun j => ?_
  rw [List.getElem?_set, List.getElem?_set]
  have e1 : (((s : Nat) : Int) + 1) = ((s + 1 : Nat) : Int) := by omega
  rcases Nat.lt_or_ge j n with hj | hj
  · have rr : ((swpL n s).map fun k : Nat => V.int (k : Int))[j]? = some (.int (swp s j : Nat)) := by
      unfold swpL
      rw [List.getElem?_map, List.getElem?_map, List.getElem?_range hj]
      rfl
    rw [rr]
    unfold swp
    by_cases h1 : s + 1 = j
    · rw [if_pos h1, if_pos (by rw [List.length_set, rl]; omega), if_neg (by omega), if_pos h1.symm]
    · rw [if_neg h1]
      by_cases h2 : s = j
      · rw [if_pos h2, if_pos (by rw [rl]; omega), if_pos h2.symm, e1]
      · rw [if_neg h2, if_neg (Ne.symm h2), if_neg (Ne.symm h1)]
        unfold rgV
        rw [List.getElem?_map, show (((n : Nat) : Int) - 0).toNat = n by omega, List.getElem?_range hj]
        show some (V.int (0 + (j : Int))) = _
        rw [Int.zero_add]
  · rw [List.getElem?_eq_none (l := (swpL n s).map _) (by unfold swpL; simpa using hj), if_neg (by omega), if_neg (by omega), List.getElem?_eq_none (by rw [rl]; exact hj)]
def offL (n s : Nat) : List Nat := (List.range n).filter fun j => decide (j ≠ s)
theorem offL_len {n s : Nat} (hs : s < n) : (offL n s).length < n := by
  unfold offL
  have h := List.length_filter_lt_length_iff_exists (p := fun j => decide (j ≠ s)) (l := List.range n)
  rw [List.length_range] at h
  exact h.mpr ⟨s, List.mem_range.mpr hs, by simp⟩
theorem offL_zero {n s : Nat} (hn : 0 < n) (hs : 0 < s) : (offL n s)[0]? = some 0 := by
  unfold offL
  cases n with
  | zero => omega
  | succ n =>
    rw [List.range_succ_eq_map, List.filter_cons, if_pos (by simp; omega)]
    rfl
theorem paired_eq {α : Type} {f : α → V} {ys : List V} {ks : List α} (h : Paired (fun y k => y = f k) ys ks) : ys = ks.map f := by
  induction h with
  | nil => rfl
  | cons h _ ih => rw [List.map_cons, h, ih]
theorem paired_take {α : Type} {R : V → α → Prop} {ys : List V} {xs : List α} (h : Paired R ys xs) : ∀ n, Paired R (ys.take n) (xs.take n) := by
  induction h with
  | nil => exact fun n => by rw [List.take_nil, List.take_nil]; exact .nil
  | cons h _ ih =>
    intro n
    cases n with
    | zero => exact .nil
    | succ n => exact .cons h (ih n)
theorem paired_drop {α : Type} {R : V → α → Prop} {ys : List V} {xs : List α} (h : Paired R ys xs) : ∀ n, Paired R (ys.drop n) (xs.drop n) := by
  induction h with
  | nil => exact fun n => by rw [List.drop_nil, List.drop_nil]; exact .nil
  | cons h t ih =>
    intro n
    cases n with
    | zero => exact .cons h t
    | succ n => exact ih n
theorem rep_ok {ps : List Spot} {s : Spot} {x : Nat} (ok : OkS ps) (hs : PyData.strOk s.1 = true) (no : s ∉ ps) (hx : x + 1 < ps.length) : OkS (ps.take (x + 1) ++ [s] ++ ps.drop (x + 2)) where
  nd := by
    have e : ps.take (x + 1) ++ [s] ++ ps.drop (x + 2) = ps.take (x + 1) ++ s :: ps.drop (x + 2) := by simp
    rw [e, List.Perm.nodup_iff List.perm_middle, List.nodup_cons]
    refine ⟨fun m => ?_, ?_⟩
    · rcases List.mem_append.mp m with m | m
      · exact no (List.mem_of_mem_take m)
      · exact no (List.mem_of_mem_drop m)
    · have sub : (ps.take (x + 1) ++ ps.drop (x + 2)).Sublist ps := by
        have h1 : (ps.drop (x + 2)).Sublist (ps.drop (x + 1)) := by
          have := List.drop_sublist 1 (ps.drop (x + 1))
          rwa [List.drop_drop] at this
        have h2 := List.Sublist.append (List.Sublist.refl (ps.take (x + 1))) h1
        rwa [List.take_append_drop] at h2
      exact sub.nodup ok.nd
  g := by
    rw [List.append_assoc, List.getElem?_append_left (by rw [List.length_take]; omega), List.getElem?_take, if_pos (by omega)]
    exact ok.g
  ok := fun p hp => by
    simp only [List.mem_append, List.mem_singleton] at hp
    rcases hp with (hp | rfl) | hp
    · exact ok.ok p (List.mem_of_mem_take hp)
    · exact hs
    · exact ok.ok p (List.mem_of_mem_drop hp)
  le := by
    have := ok.le
    simp only [List.length_append, List.length_take, List.length_drop]
    show _ + 1 + _ ≤ _
    omega
section
variable {P : Program} {w : World} {K : PySem.W.Frag} {mg : Str → Option Value} {base : Heap} {a : Ad}
def sp__law_unlike (K : PySem.W.Frag) : Sp := fun vs H Q _ => ∃ (F : Hp) (b l r sp : Addr) (ps : List Spot) (f : Tb2) (nm : Str), vs = [.ref b, .ref l, .ref r, .ref sp] ∧ Bag K b F H ∧ Same F H ∧ Spl K F l ps ∧ OkS ps ∧ ps.length ≤ 21 ∧ Tb K false F (.ref r) ps.length f ∧ Cld ps.length f ∧
  Spt K F (.ref sp) (nm, 0, 0) ∧ PyData.strOk nm = true ∧ (nm, 0, 0) ∉ ps ∧
  ∀ H' p l2 v2 ps2 g, Sb b F H F H' → SqT K H' p [.ref l2, v2] → Sps K false H' l2 ps2 → OkS ps2 → Tb K false H' v2 ps2.length g → Cld ps2.length g → ps2 ≠ ps → Q (.ref p) H'
theorem c__law_unlike (T : Txt K mg a) : Cl P w K mg base 3 "_law_unlike" P__law_unlike (sp__law_unlike K) [] :=
  T.d__law_unlike.cl sc__law_unlike (fun vs H Q E h => by obtain ⟨F, b, l, r, sp, ps, f, nm, rfl, _⟩ := h; rfl) fun f cdv A outer s H vs Q E hr h => by
    obtain ⟨F, b, l, r, sp, ps, f, nm, rfl, hB, hf, hl, ok, len, tb, hc, hsp, hnm, hno, k⟩ := h
    obtain ⟨us, hus, pr⟩ := id hl
    have ul : us.length = ps.length := Paired.length pr
    have pos := ok.pos
    refine ⟨_, ((pss_cons (ps_set (i := 4) sc__law_unlike.nd rfl (Or.inl rfl) (pe_callB call_len_seq (by rfl) T.n_len (by decide +kernel) (pa_cons (pv 1) pa_nil)))
 (pss_cons (ps_set (i := 5) sc__law_unlike.nd rfl (Or.inl rfl) (pe_f (c__law_pick T) (takes_of rfl rfl rfl rfl) hr (by decide) rfl (pa_cons (pv 0) (pa_cons pe_int pa_nil))))
 (pss_cons (ps_if (PW.pt (pw_and (pt_cmpR op_eq (pv 5) pe_int (nomark _)) (pw_and1 (pt_cmpR op_gt (pv 4) pe_int (nomark _)))))
 (pss_cons (ps_set (i := 6) sc__law_unlike.nd rfl (Or.inr rfl) (pe_listRg rfl (by rfl) T.n_list (prg_1 (by rfl) T.n_range (pv 4))))
 (pss_cons (ps_set (i := 7) sc__law_unlike.nd rfl (Or.inr rfl) (pe_op op_add pe_int (pe_f (c__law_pick T) (takes_of rfl rfl rfl rfl) hr (by decide) rfl (pa_cons (pv 0) (pa_cons (pe_op op_sub (pv 4) pe_int) pa_nil)))))
 (pss_cons (ps_asg (pe_op op_add (pv 7) pe_int) (pg_sub (pv 6) (pv 7) set_list))
 (pss_cons (ps_asg (pv 7) (pg_sub (pv 6) (pe_op op_add (pv 7) pe_int) set_list))
 (pss_one (ps_ret (pe_tup (pa_cons (pe_lc (own := [("_law_k", 9)]) (g := (gName 9)) (by rfl) sc__law_unlike.nd (pi_list (pv 6)) (blkOk_by (own := [("_law_k", 9)]) (N := N__law_unlike) (sc := defScope s__law_unlike) (by decide +kernel)) (fun _ _ _ _ _ => (pg_name (i := 9) sc__law_unlike.nd rfl (Or.inl rfl) (hf := .inr rfl))) (fun _ _ _ _ _ => pts_nil) (fun _ _ _ _ _ => (pe_ix (r := rIxL K) ix_list (pv 1) (pv 9) (fun _ _ => rfl)))) (pa_cons (pe_lc (own := [("_law_j", 10)]) (g := (gName 10)) (by rfl) sc__law_unlike.nd (pi_list (pv 6)) (blkOk_by (own := [("_law_j", 10)]) (N := N__law_unlike) (sc := defScope s__law_unlike) (by decide +kernel)) (fun _ _ _ _ _ => (pg_name (i := 10) sc__law_unlike.nd rfl (Or.inr rfl) (hf := .inl rfl))) (fun _ _ _ _ _ => pts_nil) (fun _ _ _ _ _ => (by show PE _ _ (tLc (iList K (tVar 6)) (gName 9) tYes (tOp (rIxL K) (tOp (rIxL K) (tVar 2) (tVar 10)) (tVar 9)) [9]); exact (pe_lc (own := [("_law_k", 9)]) (g := (gName 9)) (by rfl) sc__law_unlike.nd (pi_list (pv 6)) (blkOk_by (own := [("_law_k", 9)]) (N := N__law_unlike) (by rfl)) (fun _ _ _ _ _ => (pg_name (i := 9) sc__law_unlike.nd rfl (Or.inl rfl) (hf := .inr rfl))) (fun _ _ _ _ _ => pts_nil) (fun _ _ _ _ _ => (pe_ix (r := rIxL K) ix_list (pe_ix (r := rIxL K) ix_list (pv 2) (pv 10) (fun _ _ => rfl)) (pv 9) (fun _ _ => rfl))))))) pa_nil)))))))))
 pss_nil)
 (pss_cons (ps_if (PW.pt (pw_and (pt_cmpR op_eq (pv 5) pe_int (nomark _)) (pw_and1 (pt_cmpR op_gt (pv 4) pe_int (nomark _)))))
 (pss_cons (ps_set (i := 7) sc__law_unlike.nd rfl (Or.inr rfl) (pe_op op_add pe_int (pe_f (c__law_pick T) (takes_of rfl rfl rfl rfl) hr (by decide) rfl (pa_cons (pv 0) (pa_cons (pe_op op_sub (pv 4) pe_int) pa_nil)))))
 (pss_cons (ps_set (i := 8) sc__law_unlike.nd rfl (Or.inr rfl) (pe_lc (own := [("_law_k", 9)]) (g := (gName 9)) (by rfl) sc__law_unlike.nd (pi_range1 (by rfl) T.n_range (pa_cons (pv 4) pa_nil)) (blkOk_by (own := [("_law_k", 9)]) (N := N__law_unlike) (sc := defScope s__law_unlike) (by decide +kernel)) (fun _ _ _ _ _ => (pg_name (i := 9) sc__law_unlike.nd rfl (Or.inl rfl) (hf := .inr rfl))) (fun _ _ _ _ _ => (pts_one (pt_cmpR op_ne (pv 9) (pv 7) (nomark _)))) (fun _ _ _ _ _ => (pv 9))))
 (pss_one (ps_ret (pe_tup (pa_cons (pe_lc (own := [("_law_k", 9)]) (g := (gName 9)) (by rfl) sc__law_unlike.nd (pi_list (pv 8)) (blkOk_by (own := [("_law_k", 9)]) (N := N__law_unlike) (sc := defScope s__law_unlike) (by decide +kernel)) (fun _ _ _ _ _ => (pg_name (i := 9) sc__law_unlike.nd rfl (Or.inl rfl) (hf := .inr rfl))) (fun _ _ _ _ _ => pts_nil) (fun _ _ _ _ _ => (pe_ix (r := rIxL K) ix_list (pv 1) (pv 9) (fun _ _ => rfl)))) (pa_cons (pe_lc (own := [("_law_j", 10)]) (g := (gName 10)) (by rfl) sc__law_unlike.nd (pi_list (pv 8)) (blkOk_by (own := [("_law_j", 10)]) (N := N__law_unlike) (sc := defScope s__law_unlike) (by decide +kernel)) (fun _ _ _ _ _ => (pg_name (i := 10) sc__law_unlike.nd rfl (Or.inr rfl) (hf := .inl rfl))) (fun _ _ _ _ _ => pts_nil) (fun _ _ _ _ _ => (by show PE _ _ (tLc (iList K (tVar 8)) (gName 9) tYes (tOp (rIxL K) (tOp (rIxL K) (tVar 2) (tVar 10)) (tVar 9)) [9]); exact (pe_lc (own := [("_law_k", 9)]) (g := (gName 9)) (by rfl) sc__law_unlike.nd (pi_list (pv 8)) (blkOk_by (own := [("_law_k", 9)]) (N := N__law_unlike) (by rfl)) (fun _ _ _ _ _ => (pg_name (i := 9) sc__law_unlike.nd rfl (Or.inl rfl) (hf := .inr rfl))) (fun _ _ _ _ _ => pts_nil) (fun _ _ _ _ _ => (pe_ix (r := rIxL K) ix_list (pe_ix (r := rIxL K) ix_list (pv 2) (pv 10) (fun _ _ => rfl)) (pv 9) (fun _ _ => rfl))))))) pa_nil)))))))
 pss_nil)
 (pss_cons (ps_if (pt_cmpR op_gt (pv 4) pe_int (nomark _))
 (pss_cons (ps_set (i := 7) sc__law_unlike.nd rfl (Or.inr rfl) (pe_op op_add pe_int (pe_f (c__law_pick T) (takes_of rfl rfl rfl rfl) hr (by decide) rfl (pa_cons (pv 0) (pa_cons (pe_op op_sub (pv 4) pe_int) pa_nil)))))
 (pss_one (ps_ret (pe_tup (pa_cons (pe_op op_cat (pe_op op_cat (pe_slice sl_list (pv 1) po_none (po_some (pv 7))) (pe_lst (pa_cons (pv 3) pa_nil))) (pe_slice sl_list (pv 1) (po_some (pe_op op_add (pv 7) pe_int)) po_none)) (pa_cons (pv 2) pa_nil))))))
 pss_nil)
 (pss_one (ps_ret (pe_tup (pa_cons (pe_op op_cat (pv 1) (pe_lst (pa_cons (pv 3) pa_nil))) (pa_cons (pe_lst (pa_cons (pe_lst (pa_cons pe_int (pa_cons pe_int pa_nil))) (pa_cons (pe_lst (pa_cons pe_int (pa_cons pe_int pa_nil))) pa_nil))) pa_nil))))))))))), ?_⟩
    refine ⟨_, rfl, l, us, rfl, .inl (SqL.of (hf _ _ hus)), ?_⟩
    rw [ul]
    refine gn ?_
    refine ⟨_, rfl, F, b, 3, rfl, hB, hf, by decide, sz_of 3 (by decide) (by decide), fun H2 wy s2 B2 w0 w1 => ?_⟩
    refine gn ?_
    -- what is left when the new spots and rows are there
    have fin : ∀ {H5 : Hp} {os : List Nat}, Sb b F H F H5 → Bag K b F H5 → (∀ k ∈ os, k < ps.length) → os.Nodup → os[0]? = some 0 → os.length ≤ 1000 → os.map (sg ps) ≠ ps → ∀ H' p l2 r2, Same H5 H' → SqT K H' p [.ref l2, .ref r2] → Sps K false H' l2 (os.map (sg ps)) → Tb K false H' (.ref r2) os.length (subT f os) → Q (.ref p) H' := by
      intro H5 os s5 B5 h1 h2 h3 h4 h5 H' p l2 r2 e z1 z2 z3
      have lm : (os.map (sg ps)).length = os.length := List.length_map _
      exact k H' p l2 (.ref r2) (os.map (sg ps)) (subT f os) (pureB s5 B5 (stp_same s5.fh e)).1 z1 z2 (sub_ok ok h1 h2 h3 h4) (by rw [lm]; exact z3) (by rw [lm]; exact sub_cld hc h1) h5
    dsimp only
    refine seq_with (fun σ' H' => σ' = [some (V.ref b), some (.ref l), some (.ref r), some (.ref sp), some (.int (ps.length : Nat)), some (.int wy), none, none, none, none, none] ∧ H2 = H') (fun u hu => ?_) ?_
    · refine ⟨_, rfl, rfl, _, rfl, ?_⟩
      by_cases q0 : wy = 0
      · refine iteY (vint_eq q0) ⟨_, rfl, _, _, rfl, rfl, _, rfl, ?_⟩
        by_cases n2 : 2 < ps.length
        · refine iteY (decide_eq_true (by omega)) ?_
          refine ⟨_, rfl, _, rfl, RgOk.of_le (by decide) (by omega) (by decide) (by omega), fun q hq => ?_⟩
          have nqb : q ≠ b := fun z => (memB K b).there B2 z hq
          have h0q : H q = none := s2.fresh (fun x z => (memB K b).there B2 z) hq
          have fq := hf.free h0q
          obtain ⟨s3, B3⟩ := rawB (o := .lst (rgV 0 (ps.length : Nat))) s2 B2 hq
          have hq3 : (upd H2 q (.lst (rgV 0 (ps.length : Nat)))) q = some (.lst (rgV 0 (ps.length : Nat))) := upd_same
          generalize upd H2 q (.lst (rgV 0 (ps.length : Nat))) = H3 at s3 B3 hq3 ⊢
          refine gn ?_
          refine ⟨_, rfl, _, rfl, _, _, rfl, rfl, F, b, _, rfl, B3, s3.fh, by omega, (by rw [show ((ps.length : Int) - 2) = ((ps.length - 2 : Nat) : Int) by omega]; exact sz_len (by omega)), fun H4 x4 s4 B4 x0 x1 => ?_⟩
          obtain ⟨x, rfl⟩ := nat_of x0
          have hx : x + 1 + 1 < ps.length := by omega
          refine ⟨_, _, rfl, rfl, ?_⟩
          dsimp only
          rw [show ((1 : Int) + (x : Int)) = ((x + 1 : Nat) : Int) by omega]
          refine gn ?_
          have rl : (rgV 0 ((ps.length : Nat) : Int)).length = ps.length := by rw [rgV_length]; omega
          have hq4 := s4.hh q _ nqb hq3
          have t4 := seqB s3 B3 s4
          have ix : ∀ {xs : List V} {i : Nat}, i < xs.length → ixN xs.length ((i : Nat) : Int) = some i := fun {xs i} h => by
            unfold ixN
            rw [if_pos (by omega), if_pos (by omega)]
            congr 1
          refine ⟨_, rfl, _, _, rfl, rfl, _, rfl, _, rfl, q, _, _, _, rfl, rfl, hq4, ix (by omega), ?_⟩
          obtain ⟨t5, B5⟩ := mutB (o := .lst ((rgV 0 (ps.length : Nat)).set (x + 1) (.int (((x + 1 : Nat) : Int) + 1)))) t4 B4 fq h0q nqb
          have hq5 : (upd H4 q (.lst ((rgV 0 (ps.length : Nat)).set (x + 1) (.int (((x + 1 : Nat) : Int) + 1))))) q = some (.lst ((rgV 0 (ps.length : Nat)).set (x + 1) (.int (((x + 1 : Nat) : Int) + 1)))) := upd_same
          generalize upd H4 q (.lst ((rgV 0 (ps.length : Nat)).set (x + 1) (.int (((x + 1 : Nat) : Int) + 1)))) = H5 at t5 B5 hq5 ⊢
          refine ⟨_, rfl, _, rfl, _, rfl, _, _, rfl, rfl, ?_⟩
          dsimp only
          rw [show (((x + 1 : Nat) : Int) + 1) = ((x + 1 + 1 : Nat) : Int) by omega]
          refine ⟨q, _, _, _, rfl, rfl, hq5, ix (by rw [List.length_set]; omega), ?_⟩
          obtain ⟨t6, B6⟩ := mutB (o := .lst (((rgV 0 (ps.length : Nat)).set (x + 1) (.int (((x + 1 : Nat) : Int) + 1))).set (x + 1 + 1) (.int ((x + 1 : Nat) : Int)))) t5 B5 fq h0q nqb
          rw [swpL_vals hx] at t6 B6 ⊢
          have hq6 : (upd H5 q (.lst ((swpL ps.length (x + 1)).map fun k : Nat => V.int (k : Int)))) q = some (.lst ((swpL ps.length (x + 1)).map fun k : Nat => V.int (k : Int))) := upd_same
          generalize upd H5 q (.lst ((swpL ps.length (x + 1)).map fun k : Nat => V.int (k : Int))) = H6 at t6 B6 hq6 ⊢
          have mem : ∀ k ∈ swpL ps.length (x + 1), k < ps.length := fun k hk => by
            obtain ⟨j, hj, rfl⟩ := List.mem_map.mp hk
            exact swp_lt hx (List.mem_range.mp hj)
          have sl : (swpL ps.length (x + 1)).length ≤ 1000 := by unfold swpL; simp; omega
          refine sub_ret (.inl ⟨rfl, rfl⟩) (SqL.of hq6) (hl.sps.up t6.fh) (tb.up t6.fh) mem sl (fin t6 B6 mem swpL_nd ?_ sl ?_)
          · unfold swpL
            rw [List.getElem?_map, List.getElem?_range pos]
            show some (swp (x + 1) 0) = some 0
            unfold swp
            rw [if_neg (by omega), if_neg (by omega)]
          · intro z
            have e1 := congrArg (fun l => l[x + 1]?) z
            have hx1 : x + 1 < ps.length := by omega
            unfold swpL at e1
            simp only [List.getElem?_map, List.getElem?_range hx1, Option.map_some] at e1
            rw [List.getElem?_eq_getElem hx1] at e1
            have e2 := sg_at (List.getElem?_eq_getElem hx1)
            have e3 : swp (x + 1) (x + 1) = x + 1 + 1 := by unfold swp; rw [if_pos rfl]
            rw [e3, ← e2] at e1
            have := sg_inj ok.nd hx hx1 (Option.some.inj e1)
            omega
        · exact iteN (by rw [decide_eq_false (by omega)]; decide) (hu _ _ ⟨rfl, rfl⟩)
      · exact iteN (vint_ne q0) (hu _ _ ⟨rfl, rfl⟩)
    rintro _ _ ⟨rfl, rfl⟩
    refine seq_with (fun σ' H' => (σ' = [some (V.ref b), some (.ref l), some (.ref r), some (.ref sp), some (.int (ps.length : Nat)), some (.int wy), none, none, none, none, none] ∧ H2 = H')) (fun u hu => ?_) ?_
    · refine ⟨_, rfl, rfl, _, rfl, ?_⟩
      by_cases q0 : wy = 1
      · refine iteY (vint_eq q0) ⟨_, rfl, _, _, rfl, rfl, _, rfl, ?_⟩
        by_cases n2 : 1 < ps.length
        · refine iteY (decide_eq_true (by omega)) ?_
          refine ⟨_, rfl, _, rfl, _, _, rfl, rfl, F, b, _, rfl, B2, s2.fh, by omega, (by rw [show ((ps.length : Int) - 1) = ((ps.length - 1 : Nat) : Int) by omega]; exact sz_len (by omega)), fun H4 x4 s4 B4 x0 x1 => ?_⟩
          obtain ⟨x, rfl⟩ := nat_of x0
          have hx : x + 1 < ps.length := by omega
          refine ⟨_, _, rfl, rfl, ?_⟩
          dsimp only
          rw [show ((1 : Int) + (x : Int)) = ((x + 1 : Nat) : Int) by omega]
          refine gn ?_
          have t4 := seqB s2 B2 s4
          refine ⟨_, rfl, (ps.length : Int), rfl, by omega, by omega, fun D hD => ?_⟩
          rw [show ((ps.length : Int)).toNat = ps.length by omega]
          refine lcF walk_range (fun j => decide (j ≠ x + 1)) (.refl H4) hD (fun j _ y => y = V.int (j : Nat)) (fun _ _ _ _ _ z => z) (by omega) (fun _ _ _ _ => trivial) ?_ ?_
          · rintro j y F' _ H5 Kt Kn hj s5 ⟨rfl, rfl⟩ kt kn
            refine ⟨rfl, _, rfl, _, rfl, rfl, _, rfl, ?_⟩
            by_cases ji : j = x + 1
            · refine iteN (by simp [ji]) ?_
              exact kn (by simp [ji]) _ _ (.refl s5.fh)
            · refine iteY (by simp; omega) ?_
              exact ⟨_, rfl, kt (by simp [ji]) _ _ _ (.refl s5.fh) (congrArg V.int (Int.zero_add _))⟩
          · intro F3 H3 zs s3 hD3 pr3
            have ez := paired_eq (f := fun j : Nat => V.int (j : Int)) pr3
            have e3 := s3.ff.trans s3.fh
            obtain ⟨t5, B5⟩ := pureB t4 B4 (stp_same t4.fh e3)
            have mem : ∀ k ∈ offL ps.length (x + 1), k < ps.length := fun k hk => List.mem_range.mp (List.mem_filter.mp hk).1
            have sl := offL_len hx
            refine gn ?_
            refine sub_ret (os := offL ps.length (x + 1)) (.inr ⟨rfl, rfl⟩) (SqL.of ((s3.fh _ _ hD3).trans (congrArg (fun z => some (HO.lst z)) ez))) (hl.sps.up t5.fh) (tb.up t5.fh) mem (by omega) (fin t5 B5 mem ?_ (offL_zero pos (by omega)) (by omega) ?_)
            · exact List.Pairwise.filter _ List.nodup_range
            · intro z
              have := congrArg List.length z
              rw [List.length_map] at this
              omega
        · exact iteN (by rw [decide_eq_false (by omega)]; decide) (hu _ _ ⟨rfl, rfl⟩)
      · exact iteN (vint_ne q0) (hu _ _ ⟨rfl, rfl⟩)
    rintro _ _ ⟨rfl, rfl⟩
    have hus2 := s2.fh _ _ hus
    have spt : ∀ {H' : Hp}, Same F H' → Spt K H' (.ref sp) (nm, 0, 0) := fun e => hsp.up e
    refine seq_with (fun σ' H' => (σ' = [some (V.ref b), some (.ref l), some (.ref r), some (.ref sp), some (.int (ps.length : Nat)), some (.int wy), none, none, none, none, none] ∧ H2 = H' ∧ ps.length = 1)) (fun u hu => ?_) ?_
    · refine ⟨_, rfl, _, _, rfl, rfl, _, rfl, ?_⟩
      by_cases n2 : 1 < ps.length
      · refine iteY (decide_eq_true (by omega)) ?_
        refine ⟨_, rfl, _, rfl, _, _, rfl, rfl, F, b, _, rfl, B2, s2.fh, by omega, (by rw [show ((ps.length : Int) - 1) = ((ps.length - 1 : Nat) : Int) by omega]; exact sz_len (by omega)), fun H4 x4 s4 B4 x0 x1 => ?_⟩
        obtain ⟨x, rfl⟩ := nat_of x0
        have hx : x + 1 < ps.length := by omega
        refine ⟨_, _, rfl, rfl, ?_⟩
        dsimp only
        rw [show ((1 : Int) + (x : Int)) = ((x + 1 : Nat) : Int) by omega]
        refine gn ?_
        have t4 := seqB s2 B2 s4
        have hus4 := t4.fh _ _ hus
        refine ⟨_, rfl, _, rfl, _, rfl, l, us, rfl, SqL.of hus4, fun p1 hp1 => ?_⟩
        rw [cut_to]
        have e1 := same_new (o := .lst (us.take (x + 1))) hp1
        refine ⟨_, rfl, by show 1 ≤ sizeLine; decide, fun p2 hp2 => ?_⟩
        have e2 := same_new (o := .lst [.ref sp]) hp2
        refine ⟨p1, p2, _, _, rfl, rfl, e2 _ _ upd_same, upd_same, by rw [List.length_take, sizeLine_eq]; show _ + 1 ≤ _; omega, fun p3 hp3 => ?_⟩
        have e3 := same_new (o := .lst (us.take (x + 1) ++ [.ref sp])) hp3
        refine ⟨_, rfl, _, rfl, _, _, rfl, rfl, _, rfl, l, us, rfl, SqL.of ((e1.trans (e2.trans e3)) _ _ hus4), fun p4 hp4 => ?_⟩
        have ec : cutV us (some (((x + 1 : Nat) : Int) + 1)) none = us.drop (x + 2) := by
          rw [show (((x + 1 : Nat) : Int) + 1) = ((x + 2 : Nat) : Int) by omega]
          exact cut_from _ (by omega)
        rw [ec]
        have e4 := same_new (o := .lst (us.drop (x + 2))) hp4
        refine ⟨p3, p4, _, _, rfl, rfl, e4 _ _ upd_same, upd_same, by simp only [List.length_append, List.length_take, List.length_drop, sizeLine_eq]; show _ + 1 + _ ≤ _; omega, fun p5 hp5 => ?_⟩
        have e5 := same_new (o := .lst (us.take (x + 1) ++ [.ref sp] ++ us.drop (x + 2))) hp5
        refine ⟨_, rfl, by show 2 ≤ sizeLine; decide, fun p6 hp6 => ?_⟩
        have e6 := same_new (o := .tup [.ref p5, .ref r]) hp6
        have e46 := e1.trans (e2.trans (e3.trans (e4.trans (e5.trans e6))))
        have f46 := t4.fh.trans e46
        have l2 : (ps.take (x + 1) ++ [(nm, 0, 0)] ++ ps.drop (x + 2)).length = ps.length := by
          simp only [List.length_append, List.length_take, List.length_drop]
          show _ + 1 + _ = _
          omega
        refine k _ p6 p5 (.ref r) (ps.take (x + 1) ++ [(nm, 0, 0)] ++ ps.drop (x + 2)) f (pureB t4 B4 (stp_same t4.fh e46)).1 sq_new ⟨_, SqL.of (e6 _ _ upd_same), ?_⟩ (rep_ok ok hnm hno hx) (by rw [l2]; exact tb.up f46) (by rw [l2]; exact hc) fun z => hno ?_
        · exact paired_app (paired_app (paired_take (Paired.mapP pr fun _ _ z => z.up f46) _) (.cons (spt f46) .nil)) (paired_drop (Paired.mapP pr fun _ _ z => z.up f46) _)
        · rw [← z]
          simp
      · exact iteN (by rw [decide_eq_false (by omega)]; decide) (hu _ _ ⟨rfl, rfl, by omega⟩)
    rintro _ _ ⟨rfl, rfl, n1⟩
    refine ⟨_, rfl, _, rfl, by show 1 ≤ sizeLine; decide, fun p1 hp1 => ?_⟩
    have e1 := same_new (o := .lst [.ref sp]) hp1
    refine ⟨l, p1, us, _, rfl, rfl, e1 _ _ hus2, upd_same, by rw [sizeLine_eq]; show _ + 1 ≤ _; omega, fun p2 hp2 => ?_⟩
    have e2 := same_new (o := .lst (us ++ [.ref sp])) hp2
    refine ⟨by show 2 ≤ sizeLine; decide, fun p3 hp3 => ⟨by show 2 ≤ sizeLine; decide, fun p4 hp4 => ⟨by show 2 ≤ sizeLine; decide, fun p5 hp5 => ⟨by show 2 ≤ sizeLine; decide, fun p6 hp6 => ?_⟩⟩⟩⟩
    have e3 := same_new (o := .lst [.int 0, .int 4]) hp3
    have e4 := same_new (o := .lst [.int 4, .int 0]) hp4
    have e5 := same_new (o := .lst [.ref p3, .ref p4]) hp5
    have e6 := same_new (o := .tup [.ref p2, .ref p5]) hp6
    have e26 := e3.trans (e4.trans (e5.trans e6))
    have e06 := e1.trans (e2.trans e26)
    have f06 := s2.fh.trans e06
    have l2 : (ps ++ [(nm, 0, 0)]).length = 2 := by rw [List.length_append, n1]; rfl
    refine k _ p6 p2 (.ref p5) (ps ++ [(nm, 0, 0)]) (fun i j => if i = j then 0 else 4) (pureB s2 B2 (stp_same s2.fh e06)).1 sq_new ⟨_, SqL.of (e26 _ _ upd_same), paired_app (Paired.mapP pr fun _ _ z => z.up f06) (.cons (spt f06) .nil)⟩ ?_ ?_ ?_ fun z => hno ?_
    · refine ⟨?_, ?_, fun p hp => ?_, by omega⟩
      · rw [List.nodup_append]
        refine ⟨ok.nd, by simp, fun x hx y hy => ?_⟩
        rw [List.mem_singleton] at hy
        subst hy
        exact fun z => hno (z ▸ hx)
      · rw [List.getElem?_append_left pos]
        exact ok.g
      · rcases List.mem_append.mp hp with hp | hp
        · exact ok.ok p hp
        · rw [List.mem_singleton.mp hp]
          exact hnm
    · rw [l2]
      refine ⟨p5, [.ref p3, .ref p4], rfl, SqL.of (e6 _ _ upd_same), rfl, fun i u hu => ?_⟩
      match i, hu with
      | 0, hu =>
        cases hu
        exact ⟨p3, rfl, SqL.of ((e4.trans (e5.trans e6)) _ _ upd_same)⟩
      | 1, hu =>
        cases hu
        exact ⟨p4, rfl, SqL.of ((e5.trans e6) _ _ upd_same)⟩
    · rw [l2]
      refine ⟨fun a _ => if_pos rfl, fun a b c _ _ _ => ?_⟩
      split <;> split <;> split <;> omega
    · rw [← z]
      simp
end
end K53

set_option Elab.async false
set_option linter.all false
set_option maxRecDepth 100000
set_option maxHeartbeats 4000000
namespace K53
open PySem PySem.Spec PyProof.Rows L2 Ew
/-- only a dict with plain keys may have changed -/
def NB (H H' : Hp) : Prop := ∀ p o, H p = some o → (∀ kvs, o ≠ HO.dK kvs) → H' p = some o
section
variable {K : PySem.W.Frag} {H H' : Hp} {p : Addr} {xs : List V}
theorem rd_nb {u : HO} (e : NB H H') (h : Rd H p u) (n : ∀ kvs, u ≠ HO.dK kvs) : Rd H' p u := by
  rcases h with h | ⟨o, h⟩
  · exact .inl (e p _ h n)
  · exact .inr ⟨o, e p _ h fun _ z => nomatch z⟩
theorem sqT_nb (e : NB H H') (h : SqT K H p xs) : SqT K H' p xs := h.imp (fun z => rd_nb e z fun _ q => nomatch q) id
theorem Sps.nb {ps : List Spot} (h : Sps K true H p ps) (e : NB H H') : Sps K true H' p ps := by
  obtain ⟨us, h1, h2⟩ := h
  exact ⟨us, sqT_nb e h1, Paired.mapP h2 fun v q z => by obtain ⟨r, z1, z2⟩ := z; exact ⟨r, z1, e _ _ z2 fun _ q => nomatch q⟩⟩
theorem Tb.nb {v : V} {n : Nat} {f : Tb2} (h : Tb K true H v n f) (e : NB H H') : Tb K true H' v n f := by
  obtain ⟨p, us, h1, h2, h3, h4⟩ := h
  exact ⟨p, us, h1, sqT_nb e h2, h3, fun i u hu => by obtain ⟨q, z1, z2⟩ := h4 i u hu; exact ⟨q, z1, sqT_nb e z2⟩⟩
theorem Dtx_nb {P : Program} {w : World} {d : Addr} {kvs : List (List Key × V)} (h : Dtx P w K H d kvs) (e : NB H H') : Dtx P w K H' d kvs := by
  obtain ⟨h1, ys, h2, h3⟩ := h
  exact ⟨h1, ys, Paired.mapP h2 fun _ _ z => ⟨z.1, sqT_nb e z.2.1, z.2.2⟩, e _ _ h3 fun _ q => nomatch q⟩
theorem Cd.nb {P : Program} {w : World} {C : Addr} {v : V} {ps : List Spot} {f : Tb2} (h : Cd P w K C H v ps f) (e : NB H H') : Cd P w K C H' v ps f := by
  obtain ⟨x, dx, sp, d, rw, h1, h2, h3, h4, h5⟩ := h
  exact ⟨x, dx, sp, d, rw, h1, e _ _ h2 (fun _ q => nomatch q), h3.nb e, Dtx_nb h4 e, h5.nb e⟩
theorem bag_nb {b : Addr} {F F' : Hp} (B : Bag K b F H) (s : Sb b F H F' H') : NB H H' := fun x o hx no => by
  refine s.hh x o (fun z => ?_) hx
  obtain ⟨_, la, nns, at_, rest, mixed, count, _, _, _, q4⟩ := B
  rw [z, q4] at hx
  cases hx
  exact no _ rfl
end
section
variable {P : Program} {w : World} {K : PySem.W.Frag} {mg : Str → Option Value} {base : Heap} {a : Ad}
def sp_law (K : PySem.W.Frag) : Sp := fun vs H Q _ => ∃ (F : Hp) (p : Addr) (ns : List Int), vs = [.ref p] ∧ SqL K F p (ns.map V.int) ∧ ns.length ≤ 1000 ∧ Same F H ∧ ∀ H', Q (.bl true) H'
theorem b_law (T : Txt K mg a) : BodyG P w K mg base N_law "law" s_law 11 (sp_law K) := fun f cdv A outer s0 H vs Q E hgd hr h => by
    obtain ⟨F, p, ns, rfl, hp, hn, hf, k⟩ := h
    refine ⟨_, ((pss_cons (ps_set (i := 1) sc_law.nd rfl (Or.inl rfl) (pe_f (c__law_bag_of T) (takes_of rfl rfl rfl rfl) hr (by decide) rfl (pa_cons (pv 0) pa_nil)))
 (pss_cons (ps_set (i := 2) sc_law.nd rfl (Or.inl rfl) (pe_f (c__law_pick T) (takes_of rfl rfl rfl rfl) hr (by decide) rfl (pa_cons (pv 1) (pa_cons pe_int pa_nil))))
 (pss_cons (ps_if (pt_val (pe_f (c__law_one_in T) (takes_of rfl rfl rfl rfl) hr (by decide) rfl (pa_cons (pv 1) (pa_cons pe_int pa_nil))))
 (pss_one (ps_set (i := 2) sc_law.nd rfl (Or.inl rfl) (pe_op op_add pe_int (pe_f (c__law_pick T) (takes_of rfl rfl rfl rfl) hr (by decide) rfl (pa_cons (pv 1) (pa_cons pe_int pa_nil))))))
 pss_nil)
 (pss_cons (ps_asg (pe_f (c__law_some_spots T) (takes_of rfl rfl rfl rfl) hr (by decide) rfl (pa_cons (pv 1) (pa_cons (pv 2) pa_nil))) (pg_tup rfl (pgs_cons (pg_name (i := 3) sc_law.nd rfl (Or.inl rfl)) (pgs_cons (pg_name (i := 4) sc_law.nd rfl (Or.inl rfl)) pgs_nil))))
 (pss_cons (ps_set (i := 5) sc_law.nd rfl (Or.inl rfl) (pe_f (c__law_drawn_rows T) (takes_of rfl rfl rfl rfl) hr (by decide) rfl (pa_cons (pv 1) (pa_cons (pe_callB call_len_seq (by rfl) T.n_len (by decide +kernel) (pa_cons (pv 3) pa_nil)) pa_nil))))
 (pss_cons (ps_set (i := 6) sc_law.nd rfl (Or.inl rfl) (pe_f (c__law_pick T) (takes_of rfl rfl rfl rfl) hr (by decide) rfl (pa_cons (pv 1) (pa_cons pe_int pa_nil))))
 (pss_cons (ps_setLc (i := 7) (own := [("_law_row", 15)]) (g := (gName 15)) (by rfl) sc_law.nd rfl rfl (sw_true rfl rfl rfl (by decide +kernel)) (pi_list (pv 5)) (blkOk_by (own := [("_law_row", 15)]) (N := N_law) (sc := defScope s_law) (by decide +kernel)) (fun _ _ _ _ _ => (pg_name (i := 15) sc_law.nd rfl (Or.inl rfl) (hf := .inr rfl))) (fun _ _ _ _ _ => pts_nil) (fun _ _ _ _ _ => (pe_callTy (T := "list") (r := rLstS K) call_lstS (by rfl) T.n_list (by decide +kernel) (pa_cons (pv 15) pa_nil))))
 (pss_cons (ps_if (pt_cmpR op_gt (pv 6) pe_int (nomark _))
 (pss_one (ps_set (i := 7) sc_law.nd rfl (Or.inl rfl) (pe_f (c__law_drawn_rows T) (takes_of rfl rfl rfl rfl) hr (by decide) rfl (pa_cons (pv 1) (pa_cons (pe_callB call_len_seq (by rfl) T.n_len (by decide +kernel) (pa_cons (pv 3) pa_nil)) pa_nil)))))
 (pss_one (ps_if (pt_cmpR op_gt (pv 6) pe_int (nomark _))
 (pss_one (ps_set (i := 7) sc_law.nd rfl (Or.inl rfl) (pe_f (c__law_narrowed T) (takes_of rfl rfl rfl rfl) hr (by decide) rfl (pa_cons (pv 1) (pa_cons (pv 5) pa_nil)))))
 pss_nil)))
 (pss_cons (ps_set (i := 8) sc_law.nd rfl (Or.inl rfl) (pe_mkW (mk_Card T) (takes_of rfl rfl rfl rfl) hr (by decide) rfl (pa_cons (pv 3) (pa_cons (pv 5) pa_nil))))
 (pss_cons (ps_set (i := 9) sc_law.nd rfl (Or.inl rfl) (pe_mkW (mk_Card T) (takes_of rfl rfl rfl rfl) hr (by decide) rfl (pa_cons (pv 3) (pa_cons (pv 7) pa_nil))))
 (pss_cons (ps_for (passes_of rfl) rfl (pi_range1 (by rfl) T.n_range (pa_cons pe_int pa_nil)) (pg_name (i := 10) sc_law.nd rfl (Or.inl rfl))
 (pss_cons (ps_if (pt_not (pt_val (pe_f (c__law_right T) (takes_of rfl rfl rfl rfl) hr (by decide) rfl (pa_cons (pe_f (c__law_parted T) (takes_of rfl rfl rfl rfl) hr (by decide) rfl (pa_cons (pv 8) (pa_cons (pv 9) pa_nil))) (pa_cons (pv 3) (pa_cons (pv 5) (pa_cons (pv 7) pa_nil)))))))
 (pss_one (ps_ret pe_bl))
 pss_nil)
 (pss_one (ps_if (pt_not (pt_val (pe_f (c__law_right T) (takes_of rfl rfl rfl rfl) hr (by decide) rfl (pa_cons (pe_f (c__law_parted T) (takes_of rfl rfl rfl rfl) hr (by decide) rfl (pa_cons (pv 9) (pa_cons (pv 8) pa_nil))) (pa_cons (pv 3) (pa_cons (pv 7) (pa_cons (pv 5) pa_nil)))))))
 (pss_one (ps_ret pe_bl))
 pss_nil))))
 (pss_cons (ps_set (i := 11) sc_law.nd rfl (Or.inl rfl) (pe_f (c__law_parted T) (takes_of rfl rfl rfl rfl) hr (by decide) rfl (pa_cons (pv 8) (pa_cons (pe_mkW (mk_Card T) (takes_of rfl rfl rfl rfl) hr (by decide) rfl (pa_cons (pv 3) (pa_cons (pv 5) pa_nil))) pa_nil))))
 (pss_cons (ps_if (PW.pt (pw_or (pt_cmpR op_ne (pe_ix ix_tup (pv 11) pe_int (fun _ _ => rfl)) pe_str (nomark _)) (pw_or (pt_cmpR op_notN (pe_ix ix_tup (pv 11) pe_int (fun _ _ => rfl)) pe_non (nomark _)) (pw_or1 (pt_not (pt_cmp (pc_eqC (o_Card_eq T) T.nf (takes_of rfl rfl rfl rfl) hr (by decide) (pv 8) (pe_mkW (mk_Card T) (takes_of rfl rfl rfl rfl) hr (by decide) rfl (pa_cons (pv 3) (pa_cons (pv 5) pa_nil)))) rfl))))))
 (pss_one (ps_ret pe_bl))
 pss_nil)
 (pss_cons (ps_asg (pe_f (c__law_unlike T) (takes_of rfl rfl rfl rfl) hr (by decide) rfl (pa_cons (pv 1) (pa_cons (pv 3) (pa_cons (pv 5) (pa_cons (pv 4) pa_nil))))) (pg_tup rfl (pgs_cons (pg_name (i := 12) sc_law.nd rfl (Or.inl rfl)) (pgs_cons (pg_name (i := 13) sc_law.nd rfl (Or.inl rfl)) pgs_nil))))
 (pss_cons (ps_set (i := 14) sc_law.nd rfl (Or.inl rfl) (pe_f (c__law_parted T) (takes_of rfl rfl rfl rfl) hr (by decide) rfl (pa_cons (pv 8) (pa_cons (pe_mkW (mk_Card T) (takes_of rfl rfl rfl rfl) hr (by decide) rfl (pa_cons (pv 12) (pa_cons (pv 13) pa_nil))) pa_nil))))
 (pss_one (ps_ret (pe_and (pe_cmpR op_eq (pe_ix ix_tup (pv 14) pe_int (fun _ _ => rfl)) pe_str (nomark _)) (pe_and (pe_f (c__law_integer T) (takes_of rfl rfl rfl rfl) hr (by decide) rfl (pa_cons (pe_ix ix_tup (pv 14) pe_int (fun _ _ => rfl)) pa_nil)) (pe_one (pe_cmpR op_eq (pe_ix ix_tup (pv 14) pe_int (fun _ _ => rfl)) (pe_un un_neg pe_int) (nomark _))))))))))))))))))))))), ?_⟩
    refine ⟨_, rfl, F, p, ns, rfl, hp, hn, hf, fun F1 H1 b st1 B1 => ?_⟩
    refine gn ?_
    refine ⟨_, rfl, F1, b, 7, rfl, B1, st1.fh, by decide, sz_of 3 (by decide) (by decide), fun H2 m s2 B2 m0 m1 => ?_⟩
    refine gn ?_
    try dsimp only
    refine seq_with (fun σ' H' => ∃ m', σ' = [some (.ref p), some (.ref b), some (.int m'), none, none, none, none, none, none, none, none, none, none, none, none, none] ∧ Sb b F1 H1 F1 H' ∧ Bag K b F1 H' ∧ 0 ≤ m' ∧ m' ≤ 20) (fun u hu => ?_) ?_
    · refine ⟨_, rfl, F1, b, 8, rfl, B2, s2.fh, by decide, sz_of 4 (by decide) (by decide), fun H3 c s3 B3 => ⟨c, rfl, ?_⟩⟩
      cases c with
      | false => exact iteF (hu _ _ ⟨m, rfl, seqB s2 B2 s3, B3, by omega, by omega⟩)
      | true =>
        refine iteT ⟨_, rfl, F1, b, 4, rfl, B3, s3.fh, by decide, sz_of 3 (by decide) (by decide), fun H4 c s4 B4 c0 c1 => ?_⟩
        exact ⟨_, _, rfl, rfl, hu _ _ ⟨8 + c, rfl, seqB (seqB s2 B2 s3) B3 s4, B4, by omega, by omega⟩⟩
    rintro _ H3 ⟨m', rfl, s3, B3, n0, n20⟩
    refine ⟨_, rfl, _, rfl, F1, b, m', rfl, B3, s3.fh, n0, n20, fun F4 H4 r l t nm ps s4 B4 hr4 hps ok len ht hnm no1 no2 => ?_⟩
    refine ⟨r, _, rfl, upT s4.fh hr4, rfl, _, _, rfl, _, _, rfl, rfl, ?_⟩
    obtain ⟨us, hus, hpr⟩ := id hps
    have hul : us.length = ps.length := Paired.length hpr
    have pos := ok.pos
    refine ⟨_, rfl, _, rfl, l, us, rfl, .inl (SqL.of (s4.fh _ _ hus)), F4, b, ps.length, by rw [hul]; rfl, B4, s4.fh, by omega, len, fun F5 H5 v f s5 B5 tb hc bd => ?_⟩
    refine gn ?_
    obtain ⟨rp, _, rfl, _⟩ := id tb
    have hps5 := hps.up s5.ff
    have ht5 := ht.up s5.ff
    refine ⟨_, rfl, F5, b, 5, rfl, B5, s5.fh, by decide, sz_of 3 (by decide) (by decide), fun H6 wy s6 B6 w0 w1 => ?_⟩
    refine gn ?_
    try dsimp only
    refine seq_asg (copy_tab (i := 5) (j := 15) rfl (by intro _; rfl) (by intro _; rfl) (tb.up s6.fh) (by omega) fun H7 q qs e7 r7 => ?_)
    refine gn ?_
    try dsimp only
    obtain ⟨s7, B7⟩ := pureB s6 B6 (stp_same s6.fh e7)
    refine seq_with (fun σ' H' => ∃ F' v2 g, σ' = [some (.ref p), some (.ref b), some (.int m'), some (.ref l), some (.ref t), some (.ref rp), some (.int wy), some v2, none, none, none, none, none, none, none, none] ∧ Bag K b F' H' ∧ Same F' H' ∧ Same F5 F' ∧ Tb K false F' v2 ps.length g ∧ Cld ps.length g) (fun u hu => ?_) ?_
    · refine ⟨_, rfl, _, _, rfl, rfl, _, rfl, ?_⟩
      have hus7 : H7 l = some (.lst us) := s7.fh _ _ (s5.ff _ _ hus)
      by_cases c2 : 2 < wy
      · refine iteY (decide_eq_true (by omega)) ?_
        refine ⟨_, rfl, _, rfl, l, us, rfl, .inl (SqL.of hus7), F5, b, ps.length, by rw [hul]; rfl, B7, s7.fh, by omega, len, fun F8 H8 v2 g s8 B8 tb2 hc2 bd2 => ?_⟩
        exact hu _ _ ⟨F8, v2, g, rfl, B8, s8.fh, s8.ff, tb2, hc2⟩
      refine iteN (by rw [decide_eq_false (by omega)]; decide) ?_
      refine ⟨_, rfl, _, _, rfl, rfl, _, rfl, ?_⟩
      by_cases c0 : 0 < wy
      · refine iteY (decide_eq_true (by omega)) ?_
        refine ⟨_, rfl, _, rfl, F5, b, _, ps.length, f, rfl, B7, s7.fh, tb, len, hc, bd, fun F8 H8 v2 g s8 B8 tb2 hc2 => ?_⟩
        exact hu _ _ ⟨F8, v2, g, rfl, B8, s8.fh, s8.ff, tb2, hc2⟩
      · refine iteN (by rw [decide_eq_false (by omega)]; decide) ?_
        obtain ⟨s8, B8⟩ := pureB s6 B6 (stp_all s6.fh e7)
        exact hu _ _ ⟨_, _, f, rfl, B8, s8.fh, (stp_all s6.fh e7).ff, r7.fz, hc⟩
    rintro _ H8 ⟨F8, v2, g, rfl, B8, f8, f58, tb2, hc2⟩
    obtain ⟨rg, _, rfl, _⟩ := id tb2
    have hl8 := (hps5.up f58).up f8
    have t18 := (tb.up f58).up f8
    have t28 := tb2.up f8
    refine ⟨_, rfl, _, rfl, mk_cd (t1 := false) (t2 := false) hl8.sps ok t18 hc fun H9 x1 e9 _ cd1 => ?_⟩
    refine gn ?_
    refine ⟨_, rfl, _, rfl, mk_cd (t1 := false) (t2 := false) (hl8.up e9).sps ok (t28.up e9) hc2 fun H10 x2 e10 _ cd2 => ?_⟩
    refine gn ?_
    have e810 := e9.trans e10
    have cd1' := cd1.up e10
    have hl10 := hl8.up e810
    have t110 := t18.up e810
    have t210 := t28.up e810
    refine ⟨2, rfl, by decide, by decide, ?_⟩
    refine for_it walk_range (fun i σ' H' => ∃ c10, σ' = [some (.ref p), some (.ref b), some (.int m'), some (.ref l), some (.ref t), some (.ref rp), some (.int wy), some (.ref rg), some (.ref x1), some (.ref x2), c10, none, none, none, none, none] ∧ Same H10 H') ⟨none, rfl, .refl _⟩ (fun _ _ _ _ _ => trivial) ?_ ?_
    · rintro i _ _ _ H11 hi ⟨c10, rfl, e11⟩ ⟨rfl, rfl⟩
      refine gn ?_
      refine ⟨_, rfl, _, rfl, .ref x1, .ref x2, ps, ps, f, g, rfl, cd1'.up e11, cd2.up e11, ok, ok, fun _ H12 r1 v1 e12 h1 fv => ?_, fun z => absurd rfl z⟩
      have e1112 := e11.trans e12
      refine ⟨_, rfl, _, rfl, _, rfl, r1, l, rp, rg, v1, ps, f, g, rfl, h1, fv, (hl10.up e1112).sps, ok, t110.up e1112, t210.up e1112, hc, hc2, fun H13 e13 => ⟨true, rfl, iteF ?_⟩⟩
      have e1113 := e1112.trans e13
      refine ⟨_, rfl, _, rfl, .ref x2, .ref x1, ps, ps, g, f, rfl, cd2.up e1113, cd1'.up e1113, ok, ok, fun _ H14 r2 v2 e14 h2 fv2 => ?_, fun z => absurd rfl z⟩
      have e1114 := e1113.trans e14
      refine ⟨_, rfl, _, rfl, _, rfl, r2, l, rg, rp, v2, ps, g, f, rfl, h2, fv2, (hl10.up e1114).sps, ok, t210.up e1114, t110.up e1114, hc2, hc, fun H15 e15 => ⟨true, rfl, iteF ?_⟩⟩
      exact ⟨_, rfl, e1114.trans e15⟩
    rintro _ H11 ⟨c10, rfl, e11⟩
    refine ⟨_, rfl, _, rfl, _, rfl, mk_cd (t1 := false) (t2 := false) (hl10.up e11).sps ok (t110.up e11) hc fun H12 x3 e12 _ cd3 => ?_⟩
    have e1112 := e11.trans e12
    refine ⟨.ref x1, .ref x3, ps, ps, f, f, rfl, cd1'.up e1112, cd3, ok, ok, fun _ H13 r3 v3 e13 h3 fv3 => ?_, fun z => absurd rfl z⟩
    have e1113 := e1112.trans e13
    refine gn ?_
    obtain rfl : v3 = .non := by
      rcases fv3 with ⟨z, _⟩ | ⟨_, _, _, _, _, _, _, fst, _⟩
      · exact z
      · exact absurd rfl fst.ne
    refine ⟨_, rfl, r3, _, _, _, rfl, rfl, h3, at0, rfl, _, rfl, iteN (by simp) ?_⟩
    refine ⟨_, rfl, r3, _, _, _, rfl, rfl, h3, at1, rfl, _, rfl, iteN (by simp) ?_⟩
    refine ⟨_, rfl, _, rfl, _, rfl, mk_cd (t1 := false) (t2 := false) (hl10.up e1113).sps ok (t110.up e1113) hc fun H14 x4 e14 _ cd4 => ?_⟩
    have e1114 := e1113.trans e14
    have cd14 := cd1'.up e1114
    obtain ⟨x1', dx1, _, _, _, ex1, hx1, _⟩ := id cd14
    obtain ⟨x4', dx4, _, _, _, ex4, hx4, _⟩ := id cd4
    cases ex1
    cases ex4
    refine ⟨x1, _, _, rfl, hx1, .inr (.inr (.inr (.inr ⟨x4, rfl, .inl ⟨_, _, hx4⟩⟩))), ?_⟩
    refine ⟨_, _, ps, f, f, rfl, cd14, cd4, ok, ?_⟩
    rw [eqv_tab.mpr fun _ _ _ _ => rfl]
    refine ⟨true, rfl, iteF ?_⟩
    have e814 := e810.trans e1114
    obtain ⟨_, B14⟩ := pureB (Stm.refl f8 : Sb b F8 H8 F8 H8) B8 (stp_same f8 e814)
    have f14 : Same F8 H14 := f8.trans e814
    refine ⟨_, rfl, _, rfl, _, rfl, _, rfl, F8, b, l, rp, t, ps, f, nm, rfl, B14, f14, hps5.up f58, ok, len, tb.up f58, hc, ht5.up f58, hnm, no1, fun H15 r5 l2 v5 ps2 g2 s15 h15 hl2 ok2 t2 hc3 ne => ?_⟩
    refine ⟨r5, _, rfl, h15, rfl, _, _, rfl, _, _, rfl, rfl, ?_⟩
    have cd15 := cd14.nb (bag_nb B14 s15)
    dsimp only [gName, gNil]
    refine ⟨_, rfl, _, rfl, _, rfl, mk_cd (t1 := false) (t2 := false) hl2 ok2 t2 hc3 fun H16 x6 e16 _ cd6 => ?_⟩
    refine ⟨.ref x1, .ref x6, ps, ps2, f, g2, rfl, cd15.up e16, cd6, ok, ok2, fun z => absurd z.symm ne, fun _ H17 r6 e17 h6 => ?_⟩
    refine gn ?_
    refine ⟨_, rfl, r6, _, _, _, rfl, rfl, h6, at0, rfl, _, rfl, iteY (by simp) ?_⟩
    refine ⟨_, rfl, r6, _, _, _, rfl, rfl, h6, at1, _, rfl, .inl ⟨_, rfl, _, rfl, iteT ?_⟩⟩
    refine ⟨_, rfl, r6, _, _, _, rfl, rfl, h6, at1, _, rfl, rfl, ?_⟩
    exact k _
end
end K53

set_option Elab.async false
set_option linter.all false
set_option maxRecDepth 100000
set_option maxHeartbeats 4000000
namespace K53
open PySem PySem.Spec PyProof.Rows L2 Ew
theorem kit_cls0 {K : PySem.W.Frag} {t : Value} {C : Addr} {b : Bool} (h2 : PySem.W.isClsIn K C = true) (h3 : PySem.W.typeIn K (.ref C) = some (.type "type")) (h4 : PySem.W.subIn K t (.ref C) = some b) : PySem.W.kitCls K t (.ref C) = some b := by
  have e2 : ((PySem.W.clsIn K C).isSome && PySem.W.typeIn K (.ref C) == some (.type "type")) = true := by
    have h2' : (PySem.W.clsIn K C).isSome = true := h2
    rw [h2', h3] <;> rfl
  show (if ((PySem.W.clsIn K C).isSome && PySem.W.typeIn K (.ref C) == some (.type "type")) = true then PySem.W.subIn K t (.ref C) else none) = some b
  rw [if_pos e2]
  exact h4
theorem nf_of {K : PySem.W.Frag} {C : Addr} {T : String} (h : PySem.W.subIn K (.type T) (.ref C) = some false) : PySem.W.notFirst K C (.type T) = true := by
  unfold PySem.W.notFirst
  rw [h]
  simp
theorem fn_at {K : PySem.W.Frag} {f : Addr} {oc : Value} {od : Option Addr} {fd : FuncData} {sl : Array (Option Value)} (l : K.lookup f = some ⟨oc, od, .func fd, sl⟩) : PySem.W.fnIn K f = true := by
  unfold PySem.W.fnIn
  rw [l]
theorem all6 {p : String → Prop} (h1 : p "NoneType") (h2 : p "bool") (h3 : p "int") (h4 : p "str") (h5 : p "list") (h6 : p "tuple") : ∀ T ∈ (["NoneType", "bool", "int", "str", "list", "tuple"] : List String), p T := by
  intro T h
  simp only [List.mem_cons, List.not_mem_nil, or_false] at h
  rcases h with rfl | rfl | rfl | rfl | rfl | rfl
  · exact h1
  · exact h2
  · exact h3
  · exact h4
  · exact h5
  · exact h6
theorem ground_at {K : PySem.W.Frag} {aG : Addr} {odW : Option Addr} {nW : Nat} {slW : Array (Option Value)} {w0 w1 w2 : Tok} (l : K.lookup aG = some ⟨.type "tuple", odW, .seq #[.str "ground" w0, .int 0 w1, .int 0 w2] nW, slW⟩) : ∀ H, SqT K H aG [.str "ground", .int 0, .int 0] := fun H =>
  .inr ⟨_, _, nW, l, rfl, rfl, by show 3 ≤ sizeLine; decide, .cons ⟨_, rfl⟩ (.cons ⟨_, rfl⟩ (.cons ⟨_, rfl⟩ .nil))⟩
theorem kit_no1 {K : PySem.W.Frag} {C : Addr} {T : String} (h2 : PySem.W.isClsIn K C = true) (h3 : PySem.W.typeIn K (.ref C) = some (.type "type")) (h4 : PySem.W.subIn K (.type T) (.ref C) = some false) : PySem.W.kitOne K (.type T) (.ref C) = some false := by
  unfold PySem.W.kitOne
  rw [if_neg (by simp)]
  exact kit_cls0 h2 h3 h4
theorem kit_ty2 {K : PySem.W.Frag} {C : Addr} (h4 : PySem.W.subIn K (.ref C) (.type "ValueError") = some true) : PySem.W.kitOne K (.ref C) (.type "ValueError") = some true := by
  unfold PySem.W.kitOne
  rw [if_neg (by simp)]
  show (if PySem.W.kitMeta "ValueError" = true then PySem.W.subIn K (.ref C) (.type "ValueError") else none) = some true
  rw [if_pos (by decide +kernel)]
  exact h4
theorem kit_no0 {K : PySem.W.Frag} {D C : Addr} (n : D ≠ C) (h2 : PySem.W.isClsIn K C = true) (h3 : PySem.W.typeIn K (.ref C) = some (.type "type")) (h4 : PySem.W.subIn K (.ref D) (.ref C) = some false) : PySem.W.kitOne K (.ref D) (.ref C) = some false := by
  unfold PySem.W.kitOne
  rw [if_neg (by simpa using n)]
  exact kit_cls0 h2 h3 h4
theorem kit_yes {K : PySem.W.Frag} {t : Value} {C : Addr} (h2 : PySem.W.isClsIn K C = true) (h3 : PySem.W.typeIn K (.ref C) = some (.type "type")) (h4 : PySem.W.subIn K t (.ref C) = some true) : PySem.W.kitOne K t (.ref C) = some true := by
  unfold PySem.W.kitOne
  split
  · rfl
  · exact kit_cls0 h2 h3 h4
theorem exm_of {K : PySem.W.Frag} {D C : Addr} {b : Bool} (e : PySem.W.subIn K (.ref C) (.type "BaseException") = some true) (h2 : PySem.W.isClsIn K C = true) (h3 : PySem.W.typeIn K (.ref C) = some (.type "type")) (h4 : PySem.W.subIn K (.ref D) (.ref C) = some b) : PySem.W.exmOne K (.ref D) (.ref C) = some b := by
  unfold PySem.W.exmOne
  have e1 : (PySem.W.subIn K (.ref C) (.type "BaseException") == some true) = true := by rw [e] <;> rfl
  rw [if_pos e1]
  exact kit_cls0 h2 h3 h4
theorem why_at {K : PySem.W.Frag} {aW : Addr} {odH : Option Addr} {nH : Nat} {slH : Array (Option Value)} {w3 : Tok} (l : K.lookup aW = some ⟨.type "tuple", odH, .seq #[.str "card" w3] nH, slH⟩) : ∀ H, SqT K H aW [.str "card"] := fun H =>
  .inr ⟨_, _, nH, l, rfl, rfl, by show 1 ≤ sizeLine; decide, .cons ⟨_, rfl⟩ .nil⟩
theorem all_mk {P : Program} {w : World} {K : PySem.W.Frag} {h : Heap} {mg : Str → Option Value} {fa : Addr} (X : K.In h) (G : h.Ns mainGlobals mg) (hfa : mg "law" = some (.ref fa))
    {aG aWH : Addr} {odW odH : Option Addr} {nW nH : Nat} {slW slH : Array (Option Value)} {w0 w1 w2 w3 : Tok}
    {C_EllError : Addr}
    {C_BadSpot : Addr} {nm_BadSpot q_BadSpot : Str} {N_BadSpot : Addr} {bs_BadSpot : List Value} {sn_BadSpot : List Str} {sub_BadSpot : List Value} {ab_BadSpot : Bool} {col_BadSpot : Option Bool} {dd_BadSpot : Option Addr} {m0_BadSpot m1_BadSpot m2_BadSpot m3_BadSpot m5_BadSpot : Option Value}
    {f1 : Addr} {od1 an1 : Option Addr} {sl1 : Array (Option Value)} {oc1 kV1 dc1 pm1 cd1 ct1 : Value}
    {C_NoSpot : Addr} {nm_NoSpot q_NoSpot : Str} {N_NoSpot : Addr} {bs_NoSpot : List Value} {sn_NoSpot : List Str} {sub_NoSpot : List Value} {ab_NoSpot : Bool} {col_NoSpot : Option Bool} {dd_NoSpot : Option Addr} {m0_NoSpot m1_NoSpot m2_NoSpot m3_NoSpot m5_NoSpot : Option Value}
    {f2 : Addr} {od2 an2 : Option Addr} {sl2 : Array (Option Value)} {oc2 kV2 dc2 pm2 cd2 ct2 : Value}
    {C_Clash : Addr} {nm_Clash q_Clash : Str} {N_Clash : Addr} {bs_Clash : List Value} {sn_Clash : List Str} {sub_Clash : List Value} {ab_Clash : Bool} {col_Clash : Option Bool} {dd_Clash : Option Addr} {m0_Clash m1_Clash m2_Clash m3_Clash m5_Clash : Option Value}
    {f3 : Addr} {od3 an3 : Option Addr} {sl3 : Array (Option Value)} {oc3 kV3 dc3 pm3 cd3 ct3 : Value}
    {C_BadCard : Addr} {nm_BadCard q_BadCard : Str} {N_BadCard : Addr} {bs_BadCard : List Value} {sn_BadCard : List Str} {sub_BadCard : List Value} {ab_BadCard : Bool} {col_BadCard : Option Bool} {dd_BadCard : Option Addr} {m0_BadCard m1_BadCard m2_BadCard m3_BadCard m5_BadCard : Option Value}
    {f4 : Addr} {od4 an4 : Option Addr} {sl4 : Array (Option Value)} {oc4 kV4 dc4 pm4 cd4 ct4 : Value}
    {C_BadWorld : Addr} {nm_BadWorld q_BadWorld : Str} {N_BadWorld : Addr} {bs_BadWorld : List Value} {sn_BadWorld : List Str} {sub_BadWorld : List Value} {ab_BadWorld : Bool} {col_BadWorld : Option Bool} {dd_BadWorld : Option Addr} {m0_BadWorld m1_BadWorld m2_BadWorld m3_BadWorld m5_BadWorld : Option Value}
    {f5 : Addr} {od5 an5 : Option Addr} {sl5 : Array (Option Value)} {oc5 kV5 dc5 pm5 cd5 ct5 : Value}
    {C_World : Addr}
    {f6 : Addr} {od6 an6 : Option Addr} {sl6 : Array (Option Value)} {oc6 kV6 dc6 pm6 cd6 ct6 : Value}
    {f7 : Addr} {od7 an7 : Option Addr} {sl7 : Array (Option Value)} {oc7 kV7 dc7 pm7 cd7 ct7 : Value}
    {f8 : Addr} {od8 an8 : Option Addr} {sl8 : Array (Option Value)} {oc8 kV8 dc8 pm8 cd8 ct8 : Value}
    {f9 : Addr} {od9 an9 : Option Addr} {sl9 : Array (Option Value)} {oc9 kV9 dc9 pm9 cd9 ct9 : Value}
    {C_Card : Addr}
    {f10 : Addr} {od10 an10 : Option Addr} {sl10 : Array (Option Value)} {oc10 kV10 dc10 pm10 cd10 ct10 : Value}
    {f11 : Addr} {od11 an11 : Option Addr} {sl11 : Array (Option Value)} {oc11 kV11 dc11 pm11 cd11 ct11 : Value}
    {f12 : Addr} {od12 an12 : Option Addr} {sl12 : Array (Option Value)} {oc12 kV12 dc12 pm12 cd12 ct12 : Value}
    {f13 : Addr} {od13 an13 : Option Addr} {sl13 : Array (Option Value)} {oc13 kV13 dc13 pm13 cd13 ct13 : Value}
    {f14 : Addr} {od14 an14 : Option Addr} {sl14 : Array (Option Value)} {oc14 kV14 dc14 pm14 cd14 ct14 : Value}
    {f15 : Addr} {od15 an15 : Option Addr} {sl15 : Array (Option Value)} {oc15 kV15 dc15 pm15 cd15 ct15 : Value}
    {f16 : Addr} {od16 an16 : Option Addr} {sl16 : Array (Option Value)} {oc16 kV16 dc16 pm16 cd16 ct16 : Value}
    {f17 : Addr} {od17 an17 : Option Addr} {sl17 : Array (Option Value)} {oc17 kV17 dc17 pm17 cd17 ct17 : Value}
    {f18 : Addr} {od18 an18 : Option Addr} {sl18 : Array (Option Value)} {oc18 kV18 dc18 pm18 cd18 ct18 : Value}
    {f19 : Addr} {od19 an19 : Option Addr} {sl19 : Array (Option Value)} {oc19 kV19 dc19 pm19 cd19 ct19 : Value}
    {f20 : Addr} {od20 an20 : Option Addr} {sl20 : Array (Option Value)} {oc20 kV20 dc20 pm20 cd20 ct20 : Value}
    {f21 : Addr} {od21 an21 : Option Addr} {sl21 : Array (Option Value)} {oc21 kV21 dc21 pm21 cd21 ct21 : Value}
    {f22 : Addr} {od22 an22 : Option Addr} {sl22 : Array (Option Value)} {oc22 kV22 dc22 pm22 cd22 ct22 : Value}
    {f23 : Addr} {od23 an23 : Option Addr} {sl23 : Array (Option Value)} {oc23 kV23 dc23 pm23 cd23 ct23 : Value}
    {f24 : Addr} {od24 an24 : Option Addr} {sl24 : Array (Option Value)} {oc24 kV24 dc24 pm24 cd24 ct24 : Value}
    {f25 : Addr} {od25 an25 : Option Addr} {sl25 : Array (Option Value)} {oc25 kV25 dc25 pm25 cd25 ct25 : Value}
    {f26 : Addr} {od26 an26 : Option Addr} {sl26 : Array (Option Value)} {oc26 kV26 dc26 pm26 cd26 ct26 : Value}
    {f27 : Addr} {od27 an27 : Option Addr} {sl27 : Array (Option Value)} {oc27 kV27 dc27 pm27 cd27 ct27 : Value}
    {f28 : Addr} {od28 an28 : Option Addr} {sl28 : Array (Option Value)} {oc28 kV28 dc28 pm28 cd28 ct28 : Value}
    {f29 : Addr} {od29 an29 : Option Addr} {sl29 : Array (Option Value)} {oc29 kV29 dc29 pm29 cd29 ct29 : Value}
    {f30 : Addr} {od30 an30 : Option Addr} {sl30 : Array (Option Value)} {oc30 kV30 dc30 pm30 cd30 ct30 : Value}
    {f31 : Addr} {od31 an31 : Option Addr} {sl31 : Array (Option Value)} {oc31 kV31 dc31 pm31 cd31 ct31 : Value}
    {f32 : Addr} {od32 an32 : Option Addr} {sl32 : Array (Option Value)} {oc32 kV32 dc32 pm32 cd32 ct32 : Value}
    {f33 : Addr} {od33 an33 : Option Addr} {sl33 : Array (Option Value)} {oc33 kV33 dc33 pm33 cd33 ct33 : Value}
    {f34 : Addr} {od34 an34 : Option Addr} {sl34 : Array (Option Value)} {oc34 kV34 dc34 pm34 cd34 ct34 : Value}
    {f35 : Addr} {od35 an35 : Option Addr} {sl35 : Array (Option Value)} {oc35 kV35 dc35 pm35 cd35 ct35 : Value}
    {f36 : Addr} {od36 an36 : Option Addr} {sl36 : Array (Option Value)} {oc36 kV36 dc36 pm36 cd36 ct36 : Value}
    {f37 : Addr} {od37 an37 : Option Addr} {sl37 : Array (Option Value)} {oc37 kV37 dc37 pm37 cd37 ct37 : Value}
    {f38 : Addr} {od38 an38 : Option Addr} {sl38 : Array (Option Value)} {oc38 kV38 dc38 pm38 cd38 ct38 : Value}
    {f39 : Addr} {od39 an39 : Option Addr} {sl39 : Array (Option Value)} {oc39 kV39 dc39 pm39 cd39 ct39 : Value}
    {f40 : Addr} {od40 an40 : Option Addr} {sl40 : Array (Option Value)} {oc40 kV40 dc40 pm40 cd40 ct40 : Value}
    {f41 : Addr} {od41 an41 : Option Addr} {sl41 : Array (Option Value)} {oc41 kV41 dc41 pm41 cd41 ct41 : Value}
    {f42 : Addr} {od42 an42 : Option Addr} {sl42 : Array (Option Value)} {oc42 kV42 dc42 pm42 cd42 ct42 : Value}
    {f43 : Addr} {od43 an43 : Option Addr} {sl43 : Array (Option Value)} {oc43 kV43 dc43 pm43 cd43 ct43 : Value}
    {f44 : Addr} {od44 an44 : Option Addr} {sl44 : Array (Option Value)} {oc44 kV44 dc44 pm44 cd44 ct44 : Value}
    {f45 : Addr} {od45 an45 : Option Addr} {sl45 : Array (Option Value)} {oc45 kV45 dc45 pm45 cd45 ct45 : Value}
    {f46 : Addr} {od46 an46 : Option Addr} {sl46 : Array (Option Value)} {oc46 kV46 dc46 pm46 cd46 ct46 : Value}
    {f47 : Addr} {od47 an47 : Option Addr} {sl47 : Array (Option Value)} {oc47 kV47 dc47 pm47 cd47 ct47 : Value}
    {f48 : Addr} {od48 an48 : Option Addr} {sl48 : Array (Option Value)} {oc48 kV48 dc48 pm48 cd48 ct48 : Value}
    {f49 : Addr} {od49 an49 : Option Addr} {sl49 : Array (Option Value)} {oc49 kV49 dc49 pm49 cd49 ct49 : Value}
    {f50 : Addr} {od50 an50 : Option Addr} {sl50 : Array (Option Value)} {oc50 kV50 dc50 pm50 cd50 ct50 : Value}
    {f51 : Addr} {od51 an51 : Option Addr} {sl51 : Array (Option Value)} {oc51 kV51 dc51 pm51 cd51 ct51 : Value}
    {f52 : Addr} {od52 an52 : Option Addr} {sl52 : Array (Option Value)} {oc52 kV52 dc52 pm52 cd52 ct52 : Value}
    {f53 : Addr} {od53 an53 : Option Addr} {sl53 : Array (Option Value)} {oc53 kV53 dc53 pm53 cd53 ct53 : Value}
    {f54 : Addr} {od54 an54 : Option Addr} {sl54 : Array (Option Value)} {oc54 kV54 dc54 pm54 cd54 ct54 : Value}
    {f55 : Addr} {od55 an55 : Option Addr} {sl55 : Array (Option Value)} {oc55 kV55 dc55 pm55 cd55 ct55 : Value}
    {f56 : Addr} {od56 an56 : Option Addr} {sl56 : Array (Option Value)} {oc56 kV56 dc56 pm56 cd56 ct56 : Value}
    {f57 : Addr} {od57 an57 : Option Addr} {sl57 : Array (Option Value)} {oc57 kV57 dc57 pm57 cd57 ct57 : Value}
    {f58 : Addr} {od58 an58 : Option Addr} {sl58 : Array (Option Value)} {oc58 kV58 dc58 pm58 cd58 ct58 : Value}
    {f59 : Addr} {od59 an59 : Option Addr} {sl59 : Array (Option Value)} {oc59 kV59 dc59 pm59 cd59 ct59 : Value}
    {f60 : Addr} {od60 an60 : Option Addr} {sl60 : Array (Option Value)} {oc60 kV60 dc60 pm60 cd60 ct60 : Value}
    {f61 : Addr} {od61 an61 : Option Addr} {sl61 : Array (Option Value)} {oc61 kV61 dc61 pm61 cd61 ct61 : Value}
    {f62 : Addr} {od62 an62 : Option Addr} {sl62 : Array (Option Value)} {oc62 kV62 dc62 pm62 cd62 ct62 : Value}
    {f63 : Addr} {od63 an63 : Option Addr} {sl63 : Array (Option Value)} {oc63 kV63 dc63 pm63 cd63 ct63 : Value}
    {f64 : Addr} {od64 an64 : Option Addr} {sl64 : Array (Option Value)} {oc64 kV64 dc64 pm64 cd64 ct64 : Value}
    {f65 : Addr} {od65 an65 : Option Addr} {sl65 : Array (Option Value)} {oc65 kV65 dc65 pm65 cd65 ct65 : Value}
    (z_isinstance : PySem.W.nsIn K mainGlobals "isinstance" = some none)
    (z_int : PySem.W.nsIn K mainGlobals "int" = some none)
    (z_bool : PySem.W.nsIn K mainGlobals "bool" = some none)
    (z_tuple : PySem.W.nsIn K mainGlobals "tuple" = some none)
    (z_str : PySem.W.nsIn K mainGlobals "str" = some none)
    (z_list : PySem.W.nsIn K mainGlobals "list" = some none)
    (z_len : PySem.W.nsIn K mainGlobals "len" = some none)
    (z_any : PySem.W.nsIn K mainGlobals "any" = some none)
    (z_all : PySem.W.nsIn K mainGlobals "all" = some none)
    (z_range : PySem.W.nsIn K mainGlobals "range" = some none)
    (z_enumerate : PySem.W.nsIn K mainGlobals "enumerate" = some none)
    (z_zip : PySem.W.nsIn K mainGlobals "zip" = some none)
    (z_min : PySem.W.nsIn K mainGlobals "min" = some none)
    (z_ValueError : PySem.W.nsIn K mainGlobals "ValueError" = some none)
    (z_abs : PySem.W.nsIn K mainGlobals "abs" = some none)
    (z_iter : PySem.W.nsIn K mainGlobals "iter" = some none)
    (zz_GROUND : PySem.W.nsIn K mainGlobals "GROUND" = some (some (.ref aG)))
    (lGG : K.lookup aG = some ⟨.type "tuple", odW, .seq #[.str "ground" w0, .int 0 w1, .int 0 w2] nW, slW⟩)
    (zz_WHY : PySem.W.nsIn K mainGlobals "WHY" = some (some (.ref aWH)))
    (lWH : K.lookup aWH = some ⟨.type "tuple", odH, .seq #[.str "card" w3] nH, slH⟩)
    (zgcd : PySem.W.nsIn K mainGlobals "gcd" = some (some (.builtin "math.gcd")))
    (gg0 : PySem.W.specialIn K (.builtin "object.__class__") "__get__" = some (some (.builtin "getset_descriptor.__get__")))
    (tk0 : PySem.W.takesIn K (.builtin "object.__class__") = some true)
    (a_EllError : PySem.W.nsIn K mainGlobals "EllError" = some (some (.ref C_EllError)))
    (ic_EllError : PySem.W.isClsIn K C_EllError = true)
    (tC_EllError : PySem.W.typeIn K (.ref C_EllError) = some (.type "type"))
    (a_BadSpot : PySem.W.nsIn K mainGlobals "BadSpot" = some (some (.ref C_BadSpot)))
    (x_BadSpot : K.lookup C_BadSpot = some (excClassObj nm_BadSpot q_BadSpot C_BadSpot N_BadSpot bs_BadSpot [.ref C_EllError, .type "ValueError", .type "Exception", .type "BaseException", .type "object"] true sn_BadSpot sub_BadSpot ab_BadSpot col_BadSpot dd_BadSpot m0_BadSpot m1_BadSpot m2_BadSpot m3_BadSpot m5_BadSpot "ValueError.__new__"))
    (sa_BadSpot : PySem.W.findIn K (.ref C_BadSpot) "__setattr__" = some (some (.builtin "object.__setattr__")))
    (ga_BadSpot : PySem.W.findIn K (.ref C_BadSpot) "__getattribute__" = some (some (.builtin "BaseException.__getattribute__")))
    (gt_BadSpot : PySem.W.findIn K (.ref C_BadSpot) "__getattr__" = some none)
    (ca_BadSpot : PySem.W.findIn K (.ref C_BadSpot) "__class__" = some (some (.builtin "object.__class__")))
    (kC_BadSpot : PySem.W.keepIn K (.ref C_BadSpot) = true)
    (eC_BadSpot : PySem.W.subIn K (.ref C_BadSpot) (.type "BaseException") = some true)
    (tC_BadSpot : PySem.W.typeIn K (.ref C_BadSpot) = some (.type "type"))
    (hC_BadSpot : PySem.W.hasDictIn K C_BadSpot = true)
    (ic_BadSpot : PySem.W.isClsIn K C_BadSpot = true)
    (mo_BadSpot : PySem.W.mroIn K C_BadSpot (.type "object") = some true)
    (no_BadSpot_place : PySem.W.findIn K (.ref C_BadSpot) "place" = some none)
    (a1 : PySem.W.findIn K (.ref C_BadSpot) "__init__" = some (some (.ref f1)))
    (t1 : PySem.W.typeIn K (.ref f1) = some (.type "function"))
    (l1 : K.lookup f1 = some ⟨oc1, od1, .func (PySem.W.fnOf "__init__" "BadSpot.__init__" (defArgs s_BadSpotD_initD) (defBody s_BadSpotD_initD) (defScope s_BadSpotD_initD) .none kV1 dc1 pm1 an1 cd1 ct1), sl1⟩)
    (c1 : PySem.W.codeIn K cd1 "BadSpot.__init__" = true)
    (k1 : PySem.W.keepIn K (.ref f1) = true)
    (a_NoSpot : PySem.W.nsIn K mainGlobals "NoSpot" = some (some (.ref C_NoSpot)))
    (x_NoSpot : K.lookup C_NoSpot = some (excClassObj nm_NoSpot q_NoSpot C_NoSpot N_NoSpot bs_NoSpot [.ref C_EllError, .type "ValueError", .type "Exception", .type "BaseException", .type "object"] true sn_NoSpot sub_NoSpot ab_NoSpot col_NoSpot dd_NoSpot m0_NoSpot m1_NoSpot m2_NoSpot m3_NoSpot m5_NoSpot "ValueError.__new__"))
    (sa_NoSpot : PySem.W.findIn K (.ref C_NoSpot) "__setattr__" = some (some (.builtin "object.__setattr__")))
    (ga_NoSpot : PySem.W.findIn K (.ref C_NoSpot) "__getattribute__" = some (some (.builtin "BaseException.__getattribute__")))
    (gt_NoSpot : PySem.W.findIn K (.ref C_NoSpot) "__getattr__" = some none)
    (ca_NoSpot : PySem.W.findIn K (.ref C_NoSpot) "__class__" = some (some (.builtin "object.__class__")))
    (kC_NoSpot : PySem.W.keepIn K (.ref C_NoSpot) = true)
    (eC_NoSpot : PySem.W.subIn K (.ref C_NoSpot) (.type "BaseException") = some true)
    (tC_NoSpot : PySem.W.typeIn K (.ref C_NoSpot) = some (.type "type"))
    (hC_NoSpot : PySem.W.hasDictIn K C_NoSpot = true)
    (ic_NoSpot : PySem.W.isClsIn K C_NoSpot = true)
    (mo_NoSpot : PySem.W.mroIn K C_NoSpot (.type "object") = some true)
    (no_NoSpot_spot : PySem.W.findIn K (.ref C_NoSpot) "spot" = some none)
    (a2 : PySem.W.findIn K (.ref C_NoSpot) "__init__" = some (some (.ref f2)))
    (t2 : PySem.W.typeIn K (.ref f2) = some (.type "function"))
    (l2 : K.lookup f2 = some ⟨oc2, od2, .func (PySem.W.fnOf "__init__" "NoSpot.__init__" (defArgs s_NoSpotD_initD) (defBody s_NoSpotD_initD) (defScope s_NoSpotD_initD) .none kV2 dc2 pm2 an2 cd2 ct2), sl2⟩)
    (c2 : PySem.W.codeIn K cd2 "NoSpot.__init__" = true)
    (k2 : PySem.W.keepIn K (.ref f2) = true)
    (a_Clash : PySem.W.nsIn K mainGlobals "Clash" = some (some (.ref C_Clash)))
    (x_Clash : K.lookup C_Clash = some (excClassObj nm_Clash q_Clash C_Clash N_Clash bs_Clash [.ref C_EllError, .type "ValueError", .type "Exception", .type "BaseException", .type "object"] true sn_Clash sub_Clash ab_Clash col_Clash dd_Clash m0_Clash m1_Clash m2_Clash m3_Clash m5_Clash "ValueError.__new__"))
    (sa_Clash : PySem.W.findIn K (.ref C_Clash) "__setattr__" = some (some (.builtin "object.__setattr__")))
    (ga_Clash : PySem.W.findIn K (.ref C_Clash) "__getattribute__" = some (some (.builtin "BaseException.__getattribute__")))
    (gt_Clash : PySem.W.findIn K (.ref C_Clash) "__getattr__" = some none)
    (ca_Clash : PySem.W.findIn K (.ref C_Clash) "__class__" = some (some (.builtin "object.__class__")))
    (kC_Clash : PySem.W.keepIn K (.ref C_Clash) = true)
    (eC_Clash : PySem.W.subIn K (.ref C_Clash) (.type "BaseException") = some true)
    (tC_Clash : PySem.W.typeIn K (.ref C_Clash) = some (.type "type"))
    (hC_Clash : PySem.W.hasDictIn K C_Clash = true)
    (ic_Clash : PySem.W.isClsIn K C_Clash = true)
    (mo_Clash : PySem.W.mroIn K C_Clash (.type "object") = some true)
    (no_Clash_ring : PySem.W.findIn K (.ref C_Clash) "ring" = some none)
    (a3 : PySem.W.findIn K (.ref C_Clash) "__init__" = some (some (.ref f3)))
    (t3 : PySem.W.typeIn K (.ref f3) = some (.type "function"))
    (l3 : K.lookup f3 = some ⟨oc3, od3, .func (PySem.W.fnOf "__init__" "Clash.__init__" (defArgs s_ClashD_initD) (defBody s_ClashD_initD) (defScope s_ClashD_initD) .none kV3 dc3 pm3 an3 cd3 ct3), sl3⟩)
    (c3 : PySem.W.codeIn K cd3 "Clash.__init__" = true)
    (k3 : PySem.W.keepIn K (.ref f3) = true)
    (a_BadCard : PySem.W.nsIn K mainGlobals "BadCard" = some (some (.ref C_BadCard)))
    (x_BadCard : K.lookup C_BadCard = some (excClassObj nm_BadCard q_BadCard C_BadCard N_BadCard bs_BadCard [.ref C_EllError, .type "ValueError", .type "Exception", .type "BaseException", .type "object"] true sn_BadCard sub_BadCard ab_BadCard col_BadCard dd_BadCard m0_BadCard m1_BadCard m2_BadCard m3_BadCard m5_BadCard "ValueError.__new__"))
    (sa_BadCard : PySem.W.findIn K (.ref C_BadCard) "__setattr__" = some (some (.builtin "object.__setattr__")))
    (ga_BadCard : PySem.W.findIn K (.ref C_BadCard) "__getattribute__" = some (some (.builtin "BaseException.__getattribute__")))
    (gt_BadCard : PySem.W.findIn K (.ref C_BadCard) "__getattr__" = some none)
    (ca_BadCard : PySem.W.findIn K (.ref C_BadCard) "__class__" = some (some (.builtin "object.__class__")))
    (kC_BadCard : PySem.W.keepIn K (.ref C_BadCard) = true)
    (eC_BadCard : PySem.W.subIn K (.ref C_BadCard) (.type "BaseException") = some true)
    (tC_BadCard : PySem.W.typeIn K (.ref C_BadCard) = some (.type "type"))
    (hC_BadCard : PySem.W.hasDictIn K C_BadCard = true)
    (ic_BadCard : PySem.W.isClsIn K C_BadCard = true)
    (mo_BadCard : PySem.W.mroIn K C_BadCard (.type "object") = some true)
    (no_BadCard_place : PySem.W.findIn K (.ref C_BadCard) "place" = some none)
    (a4 : PySem.W.findIn K (.ref C_BadCard) "__init__" = some (some (.ref f4)))
    (t4 : PySem.W.typeIn K (.ref f4) = some (.type "function"))
    (l4 : K.lookup f4 = some ⟨oc4, od4, .func (PySem.W.fnOf "__init__" "BadCard.__init__" (defArgs s_BadCardD_initD) (defBody s_BadCardD_initD) (defScope s_BadCardD_initD) .none kV4 dc4 pm4 an4 cd4 ct4), sl4⟩)
    (c4 : PySem.W.codeIn K cd4 "BadCard.__init__" = true)
    (k4 : PySem.W.keepIn K (.ref f4) = true)
    (a_BadWorld : PySem.W.nsIn K mainGlobals "BadWorld" = some (some (.ref C_BadWorld)))
    (x_BadWorld : K.lookup C_BadWorld = some (excClassObj nm_BadWorld q_BadWorld C_BadWorld N_BadWorld bs_BadWorld [.ref C_EllError, .type "ValueError", .type "Exception", .type "BaseException", .type "object"] true sn_BadWorld sub_BadWorld ab_BadWorld col_BadWorld dd_BadWorld m0_BadWorld m1_BadWorld m2_BadWorld m3_BadWorld m5_BadWorld "ValueError.__new__"))
    (sa_BadWorld : PySem.W.findIn K (.ref C_BadWorld) "__setattr__" = some (some (.builtin "object.__setattr__")))
    (ga_BadWorld : PySem.W.findIn K (.ref C_BadWorld) "__getattribute__" = some (some (.builtin "BaseException.__getattribute__")))
    (gt_BadWorld : PySem.W.findIn K (.ref C_BadWorld) "__getattr__" = some none)
    (ca_BadWorld : PySem.W.findIn K (.ref C_BadWorld) "__class__" = some (some (.builtin "object.__class__")))
    (kC_BadWorld : PySem.W.keepIn K (.ref C_BadWorld) = true)
    (eC_BadWorld : PySem.W.subIn K (.ref C_BadWorld) (.type "BaseException") = some true)
    (tC_BadWorld : PySem.W.typeIn K (.ref C_BadWorld) = some (.type "type"))
    (hC_BadWorld : PySem.W.hasDictIn K C_BadWorld = true)
    (ic_BadWorld : PySem.W.isClsIn K C_BadWorld = true)
    (mo_BadWorld : PySem.W.mroIn K C_BadWorld (.type "object") = some true)
    (no_BadWorld_place : PySem.W.findIn K (.ref C_BadWorld) "place" = some none)
    (a5 : PySem.W.findIn K (.ref C_BadWorld) "__init__" = some (some (.ref f5)))
    (t5 : PySem.W.typeIn K (.ref f5) = some (.type "function"))
    (l5 : K.lookup f5 = some ⟨oc5, od5, .func (PySem.W.fnOf "__init__" "BadWorld.__init__" (defArgs s_BadWorldD_initD) (defBody s_BadWorldD_initD) (defScope s_BadWorldD_initD) .none kV5 dc5 pm5 an5 cd5 ct5), sl5⟩)
    (c5 : PySem.W.codeIn K cd5 "BadWorld.__init__" = true)
    (k5 : PySem.W.keepIn K (.ref f5) = true)
    (vC_BadCard : PySem.W.subIn K (.ref C_BadCard) (.type "ValueError") = some true)
    (lC_BadCard : PySem.W.subIn K (.ref C_BadCard) (.ref C_EllError) = some true)
    (s_BadCard_BadSpot : PySem.W.subIn K (.ref C_BadCard) (.ref C_BadSpot) = some false)
    (ne_BadCard_BadSpot : C_BadCard ≠ C_BadSpot)
    (s_BadCard_BadCard : PySem.W.subIn K (.ref C_BadCard) (.ref C_BadCard) = some true)
    (a_World : PySem.W.nsIn K mainGlobals "World" = some (some (.ref C_World)))
    (wpg : PySem.W.plainGet K C_World Str.empty = true)
    (whd : PySem.W.hasDictIn K C_World = true)
    (wpo : PySem.W.plainOver K C_World = true)
    (wsa : PySem.W.findIn K (.ref C_World) "__setattr__" = some (some (.builtin "object.__setattr__")))
    (wca : PySem.W.findIn K (.ref C_World) "__class__" = some (some (.builtin "object.__class__")))
    (wmo : PySem.W.mroIn K C_World (.type "object") = some true)
    (wnV : PySem.W.findIn K (.ref C_World) "_values" = some none)
    (wmk : PySem.W.makesIn K C_World = true)
    (wkc : PySem.W.keepIn K (.ref C_World) = true)
    (a6 : PySem.W.findIn K (.ref C_World) "__init__" = some (some (.ref f6)))
    (i6 : PySem.W.isFn K (.ref f6) = true)
    (l6 : K.lookup f6 = some ⟨oc6, od6, .func (PySem.W.fnOf "__init__" "World.__init__" (defArgs s_WorldD_initD) (defBody s_WorldD_initD) (defScope s_WorldD_initD) .none kV6 dc6 pm6 an6 cd6 ct6), sl6⟩)
    (c6 : PySem.W.codeIn K cd6 "World.__init__" = true)
    (k6 : PySem.W.keepIn K (.ref f6) = true)
    (a7 : PySem.W.findIn K (.ref C_World) "__getitem__" = some (some (.ref f7)))
    (i7 : PySem.W.isFn K (.ref f7) = true)
    (l7 : K.lookup f7 = some ⟨oc7, od7, .func (PySem.W.fnOf "__getitem__" "World.__getitem__" (defArgs s_WorldD_getitemD) (defBody s_WorldD_getitemD) (defScope s_WorldD_getitemD) .none kV7 dc7 pm7 an7 cd7 ct7), sl7⟩)
    (c7 : PySem.W.codeIn K cd7 "World.__getitem__" = true)
    (k7 : PySem.W.keepIn K (.ref f7) = true)
    (a8 : PySem.W.findIn K (.ref C_World) "__len__" = some (some (.ref f8)))
    (i8 : PySem.W.isFn K (.ref f8) = true)
    (l8 : K.lookup f8 = some ⟨oc8, od8, .func (PySem.W.fnOf "__len__" "World.__len__" (defArgs s_WorldD_lenD) (defBody s_WorldD_lenD) (defScope s_WorldD_lenD) .none kV8 dc8 pm8 an8 cd8 ct8), sl8⟩)
    (c8 : PySem.W.codeIn K cd8 "World.__len__" = true)
    (k8 : PySem.W.keepIn K (.ref f8) = true)
    (a9 : PySem.W.findIn K (.ref C_World) "__iter__" = some (some (.ref f9)))
    (i9 : PySem.W.isFn K (.ref f9) = true)
    (l9 : K.lookup f9 = some ⟨oc9, od9, .func (PySem.W.fnOf "__iter__" "World.__iter__" (defArgs s_WorldD_iterD) (defBody s_WorldD_iterD) (defScope s_WorldD_iterD) .none kV9 dc9 pm9 an9 cd9 ct9), sl9⟩)
    (c9 : PySem.W.codeIn K cd9 "World.__iter__" = true)
    (k9 : PySem.W.keepIn K (.ref f9) = true)
    (a_Card : PySem.W.nsIn K mainGlobals "Card" = some (some (.ref C_Card)))
    (pg : PySem.W.plainGet K C_Card Str.empty = true)
    (hd : PySem.W.hasDictIn K C_Card = true)
    (po : PySem.W.plainOver K C_Card = true)
    (sa : PySem.W.findIn K (.ref C_Card) "__setattr__" = some (some (.builtin "object.__setattr__")))
    (ca : PySem.W.findIn K (.ref C_Card) "__class__" = some (some (.builtin "object.__class__")))
    (mo : PySem.W.mroIn K C_Card (.type "object") = some true)
    (nS : PySem.W.findIn K (.ref C_Card) "spots" = some none)
    (nP : PySem.W.findIn K (.ref C_Card) "_places" = some none)
    (nR : PySem.W.findIn K (.ref C_Card) "rows" = some none)
    (ic : PySem.W.isClsIn K C_Card = true)
    (tC : PySem.W.typeIn K (.ref C_Card) = some (.type "type"))
    (mk : PySem.W.makesIn K C_Card = true)
    (kc : PySem.W.keepIn K (.ref C_Card) = true)
    (sf : PySem.W.selfFirst K C_Card = true)
    (sb_NoneType : PySem.W.subIn K (.type "NoneType") (.ref C_Card) = some false)
    (sb_bool : PySem.W.subIn K (.type "bool") (.ref C_Card) = some false)
    (sb_int : PySem.W.subIn K (.type "int") (.ref C_Card) = some false)
    (sb_str : PySem.W.subIn K (.type "str") (.ref C_Card) = some false)
    (sb_list : PySem.W.subIn K (.type "list") (.ref C_Card) = some false)
    (sb_tuple : PySem.W.subIn K (.type "tuple") (.ref C_Card) = some false)
    (a10 : PySem.W.findIn K (.ref C_Card) "__init__" = some (some (.ref f10)))
    (i10 : PySem.W.isFn K (.ref f10) = true)
    (l10 : K.lookup f10 = some ⟨oc10, od10, .func (PySem.W.fnOf "__init__" "Card.__init__" (defArgs s_CardD_initD) (defBody s_CardD_initD) (defScope s_CardD_initD) .none kV10 dc10 pm10 an10 cd10 ct10), sl10⟩)
    (c10 : PySem.W.codeIn K cd10 "Card.__init__" = true)
    (k10 : PySem.W.keepIn K (.ref f10) = true)
    (a11 : PySem.W.findIn K (.ref C_Card) "__getitem__" = some (some (.ref f11)))
    (i11 : PySem.W.isFn K (.ref f11) = true)
    (l11 : K.lookup f11 = some ⟨oc11, od11, .func (PySem.W.fnOf "__getitem__" "Card.__getitem__" (defArgs s_CardD_getitemD) (defBody s_CardD_getitemD) (defScope s_CardD_getitemD) .none kV11 dc11 pm11 an11 cd11 ct11), sl11⟩)
    (c11 : PySem.W.codeIn K cd11 "Card.__getitem__" = true)
    (k11 : PySem.W.keepIn K (.ref f11) = true)
    (a12 : PySem.W.findIn K (.ref C_Card) "__len__" = some (some (.ref f12)))
    (i12 : PySem.W.isFn K (.ref f12) = true)
    (l12 : K.lookup f12 = some ⟨oc12, od12, .func (PySem.W.fnOf "__len__" "Card.__len__" (defArgs s_CardD_lenD) (defBody s_CardD_lenD) (defScope s_CardD_lenD) .none kV12 dc12 pm12 an12 cd12 ct12), sl12⟩)
    (c12 : PySem.W.codeIn K cd12 "Card.__len__" = true)
    (k12 : PySem.W.keepIn K (.ref f12) = true)
    (a13 : PySem.W.findIn K (.ref C_Card) "__contains__" = some (some (.ref f13)))
    (i13 : PySem.W.isFn K (.ref f13) = true)
    (l13 : K.lookup f13 = some ⟨oc13, od13, .func (PySem.W.fnOf "__contains__" "Card.__contains__" (defArgs s_CardD_containsD) (defBody s_CardD_containsD) (defScope s_CardD_containsD) .none kV13 dc13 pm13 an13 cd13 ct13), sl13⟩)
    (c13 : PySem.W.codeIn K cd13 "Card.__contains__" = true)
    (k13 : PySem.W.keepIn K (.ref f13) = true)
    (a14 : PySem.W.findIn K (.ref C_Card) "__eq__" = some (some (.ref f14)))
    (i14 : PySem.W.isFn K (.ref f14) = true)
    (l14 : K.lookup f14 = some ⟨oc14, od14, .func (PySem.W.fnOf "__eq__" "Card.__eq__" (defArgs s_CardD_eqD) (defBody s_CardD_eqD) (defScope s_CardD_eqD) .none kV14 dc14 pm14 an14 cd14 ct14), sl14⟩)
    (c14 : PySem.W.codeIn K cd14 "Card.__eq__" = true)
    (k14 : PySem.W.keepIn K (.ref f14) = true)
    (a15 : PySem.W.findIn K (.ref C_Card) "_place" = some (some (.ref f15)))
    (i15 : PySem.W.isFn K (.ref f15) = true)
    (l15 : K.lookup f15 = some ⟨oc15, od15, .func (PySem.W.fnOf "_place" "Card._place" (defArgs s_Card__place) (defBody s_Card__place) (defScope s_Card__place) .none kV15 dc15 pm15 an15 cd15 ct15), sl15⟩)
    (c15 : PySem.W.codeIn K cd15 "Card._place" = true)
    (k15 : PySem.W.keepIn K (.ref f15) = true)
    (a16 : PySem.W.nsIn K mainGlobals "_wall" = some (some (.ref f16)))
    (l16 : K.lookup f16 = some ⟨oc16, od16, .func (PySem.W.fnOf "_wall" "_wall" (defArgs s__wall) (defBody s__wall) (defScope s__wall) .none kV16 dc16 pm16 an16 cd16 ct16), sl16⟩)
    (c16 : PySem.W.codeIn K cd16 "_wall" = true)
    (k16 : PySem.W.keepIn K (.ref f16) = true)
    (a17 : PySem.W.nsIn K mainGlobals "is_integer" = some (some (.ref f17)))
    (l17 : K.lookup f17 = some ⟨oc17, od17, .func (PySem.W.fnOf "is_integer" "is_integer" (defArgs s_is_integer) (defBody s_is_integer) (defScope s_is_integer) .none kV17 dc17 pm17 an17 cd17 ct17), sl17⟩)
    (c17 : PySem.W.codeIn K cd17 "is_integer" = true)
    (k17 : PySem.W.keepIn K (.ref f17) = true)
    (a18 : PySem.W.nsIn K mainGlobals "is_row" = some (some (.ref f18)))
    (l18 : K.lookup f18 = some ⟨oc18, od18, .func (PySem.W.fnOf "is_row" "is_row" (defArgs s_is_row) (defBody s_is_row) (defScope s_is_row) .none kV18 dc18 pm18 an18 cd18 ct18), sl18⟩)
    (c18 : PySem.W.codeIn K cd18 "is_row" = true)
    (k18 : PySem.W.keepIn K (.ref f18) = true)
    (a19 : PySem.W.nsIn K mainGlobals "is_tuple_of" = some (some (.ref f19)))
    (l19 : K.lookup f19 = some ⟨oc19, od19, .func (PySem.W.fnOf "is_tuple_of" "is_tuple_of" (defArgs s_is_tuple_of) (defBody s_is_tuple_of) (defScope s_is_tuple_of) .none kV19 dc19 pm19 an19 cd19 ct19), sl19⟩)
    (c19 : PySem.W.codeIn K cd19 "is_tuple_of" = true)
    (k19 : PySem.W.keepIn K (.ref f19) = true)
    (a20 : PySem.W.nsIn K mainGlobals "is_ratio" = some (some (.ref f20)))
    (l20 : K.lookup f20 = some ⟨oc20, od20, .func (PySem.W.fnOf "is_ratio" "is_ratio" (defArgs s_is_ratio) (defBody s_is_ratio) (defScope s_is_ratio) .none kV20 dc20 pm20 an20 cd20 ct20), sl20⟩)
    (c20 : PySem.W.codeIn K cd20 "is_ratio" = true)
    (k20 : PySem.W.keepIn K (.ref f20) = true)
    (a21 : PySem.W.nsIn K mainGlobals "is_spot" = some (some (.ref f21)))
    (l21 : K.lookup f21 = some ⟨oc21, od21, .func (PySem.W.fnOf "is_spot" "is_spot" (defArgs s_is_spot) (defBody s_is_spot) (defScope s_is_spot) .none kV21 dc21 pm21 an21 cd21 ct21), sl21⟩)
    (c21 : PySem.W.codeIn K cd21 "is_spot" = true)
    (k21 : PySem.W.keepIn K (.ref f21) = true)
    (a22 : PySem.W.nsIn K mainGlobals "_values_of" = some (some (.ref f22)))
    (l22 : K.lookup f22 = some ⟨oc22, od22, .func (PySem.W.fnOf "_values_of" "_values_of" (defArgs s__values_of) (defBody s__values_of) (defScope s__values_of) .none kV22 dc22 pm22 an22 cd22 ct22), sl22⟩)
    (c22 : PySem.W.codeIn K cd22 "_values_of" = true)
    (k22 : PySem.W.keepIn K (.ref f22) = true)
    (a23 : PySem.W.nsIn K mainGlobals "parted" = some (some (.ref f23)))
    (l23 : K.lookup f23 = some ⟨oc23, od23, .func (PySem.W.fnOf "parted" "parted" (defArgs s_parted) (defBody s_parted) (defScope s_parted) .none kV23 dc23 pm23 an23 cd23 ct23), sl23⟩)
    (c23 : PySem.W.codeIn K cd23 "parted" = true)
    (k23 : PySem.W.keepIn K (.ref f23) = true)
    (a24 : PySem.W.nsIn K mainGlobals "_reaching" = some (some (.ref f24)))
    (l24 : K.lookup f24 = some ⟨oc24, od24, .func (PySem.W.fnOf "_reaching" "_reaching" (defArgs s__reaching) (defBody s__reaching) (defScope s__reaching) .none kV24 dc24 pm24 an24 cd24 ct24), sl24⟩)
    (c24 : PySem.W.codeIn K cd24 "_reaching" = true)
    (k24 : PySem.W.keepIn K (.ref f24) = true)
    (a25 : PySem.W.nsIn K mainGlobals "ways_from" = some (some (.ref f25)))
    (l25 : K.lookup f25 = some ⟨oc25, od25, .func (PySem.W.fnOf "ways_from" "ways_from" (defArgs s_ways_from) (defBody s_ways_from) (defScope s_ways_from) .none kV25 dc25 pm25 an25 cd25 ct25), sl25⟩)
    (c25 : PySem.W.codeIn K cd25 "ways_from" = true)
    (k25 : PySem.W.keepIn K (.ref f25) = true)
    (a26 : PySem.W.nsIn K mainGlobals "_ring_of" = some (some (.ref f26)))
    (l26 : K.lookup f26 = some ⟨oc26, od26, .func (PySem.W.fnOf "_ring_of" "_ring_of" (defArgs s__ring_of) (defBody s__ring_of) (defScope s__ring_of) .none kV26 dc26 pm26 an26 cd26 ct26), sl26⟩)
    (c26 : PySem.W.codeIn K cd26 "_ring_of" = true)
    (k26 : PySem.W.keepIn K (.ref f26) = true)
    (a27 : PySem.W.nsIn K mainGlobals "_followed_back" = some (some (.ref f27)))
    (l27 : K.lookup f27 = some ⟨oc27, od27, .func (PySem.W.fnOf "_followed_back" "_followed_back" (defArgs s__followed_back) (defBody s__followed_back) (defScope s__followed_back) .none kV27 dc27 pm27 an27 cd27 ct27), sl27⟩)
    (c27 : PySem.W.codeIn K cd27 "_followed_back" = true)
    (k27 : PySem.W.keepIn K (.ref f27) = true)
    (a28 : PySem.W.nsIn K mainGlobals "arrows_of" = some (some (.ref f28)))
    (l28 : K.lookup f28 = some ⟨oc28, od28, .func (PySem.W.fnOf "arrows_of" "arrows_of" (defArgs s_arrows_of) (defBody s_arrows_of) (defScope s_arrows_of) .none kV28 dc28 pm28 an28 cd28 ct28), sl28⟩)
    (c28 : PySem.W.codeIn K cd28 "arrows_of" = true)
    (k28 : PySem.W.keepIn K (.ref f28) = true)
    (a29 : PySem.W.nsIn K mainGlobals "places_of" = some (some (.ref f29)))
    (l29 : K.lookup f29 = some ⟨oc29, od29, .func (PySem.W.fnOf "places_of" "places_of" (defArgs s_places_of) (defBody s_places_of) (defScope s_places_of) .none kV29 dc29 pm29 an29 cd29 ct29), sl29⟩)
    (c29 : PySem.W.codeIn K cd29 "places_of" = true)
    (k29 : PySem.W.keepIn K (.ref f29) = true)
    (a30 : PySem.W.nsIn K mainGlobals "is_closed" = some (some (.ref f30)))
    (l30 : K.lookup f30 = some ⟨oc30, od30, .func (PySem.W.fnOf "is_closed" "is_closed" (defArgs s_is_closed) (defBody s_is_closed) (defScope s_is_closed) .none kV30 dc30 pm30 an30 cd30 ct30), sl30⟩)
    (c30 : PySem.W.codeIn K cd30 "is_closed" = true)
    (k30 : PySem.W.keepIn K (.ref f30) = true)
    (a31 : PySem.W.nsIn K mainGlobals "joined_tables" = some (some (.ref f31)))
    (l31 : K.lookup f31 = some ⟨oc31, od31, .func (PySem.W.fnOf "joined_tables" "joined_tables" (defArgs s_joined_tables) (defBody s_joined_tables) (defScope s_joined_tables) .none kV31 dc31 pm31 an31 cd31 ct31), sl31⟩)
    (c31 : PySem.W.codeIn K cd31 "joined_tables" = true)
    (k31 : PySem.W.keepIn K (.ref f31) = true)
    (a32 : PySem.W.nsIn K mainGlobals "_by_way" = some (some (.ref f32)))
    (l32 : K.lookup f32 = some ⟨oc32, od32, .func (PySem.W.fnOf "_by_way" "_by_way" (defArgs s__by_way) (defBody s__by_way) (defScope s__by_way) .none kV32 dc32 pm32 an32 cd32 ct32), sl32⟩)
    (c32 : PySem.W.codeIn K cd32 "_by_way" = true)
    (k32 : PySem.W.keepIn K (.ref f32) = true)
    (a33 : PySem.W.nsIn K mainGlobals "_side_by_side" = some (some (.ref f33)))
    (l33 : K.lookup f33 = some ⟨oc33, od33, .func (PySem.W.fnOf "_side_by_side" "_side_by_side" (defArgs s__side_by_side) (defBody s__side_by_side) (defScope s__side_by_side) .none kV33 dc33 pm33 an33 cd33 ct33), sl33⟩)
    (c33 : PySem.W.codeIn K cd33 "_side_by_side" = true)
    (k33 : PySem.W.keepIn K (.ref f33) = true)
    (a34 : PySem.W.nsIn K mainGlobals "_with_least" = some (some (.ref f34)))
    (l34 : K.lookup f34 = some ⟨oc34, od34, .func (PySem.W.fnOf "_with_least" "_with_least" (defArgs s__with_least) (defBody s__with_least) (defScope s__with_least) .none kV34 dc34 pm34 an34 cd34 ct34), sl34⟩)
    (c34 : PySem.W.codeIn K cd34 "_with_least" = true)
    (k34 : PySem.W.keepIn K (.ref f34) = true)
    (a35 : PySem.W.nsIn K mainGlobals "_joints" = some (some (.ref f35)))
    (l35 : K.lookup f35 = some ⟨oc35, od35, .func (PySem.W.fnOf "_joints" "_joints" (defArgs s__joints) (defBody s__joints) (defScope s__joints) .none kV35 dc35 pm35 an35 cd35 ct35), sl35⟩)
    (c35 : PySem.W.codeIn K cd35 "_joints" = true)
    (k35 : PySem.W.keepIn K (.ref f35) = true)
    (a36 : PySem.W.nsIn K mainGlobals "card_links" = some (some (.ref f36)))
    (l36 : K.lookup f36 = some ⟨oc36, od36, .func (PySem.W.fnOf "card_links" "card_links" (defArgs s_card_links) (defBody s_card_links) (defScope s_card_links) .none kV36 dc36 pm36 an36 cd36 ct36), sl36⟩)
    (c36 : PySem.W.codeIn K cd36 "card_links" = true)
    (k36 : PySem.W.keepIn K (.ref f36) = true)
    (a37 : PySem.W.nsIn K mainGlobals "_trusted" = some (some (.ref f37)))
    (l37 : K.lookup f37 = some ⟨oc37, od37, .func (PySem.W.fnOf "_trusted" "_trusted" (defArgs s__trusted) (defBody s__trusted) (defScope s__trusted) .none kV37 dc37 pm37 an37 cd37 ct37), sl37⟩)
    (c37 : PySem.W.codeIn K cd37 "_trusted" = true)
    (k37 : PySem.W.keepIn K (.ref f37) = true)
    (a38 : PySem.W.nsIn K mainGlobals "_judge_rows" = some (some (.ref f38)))
    (l38 : K.lookup f38 = some ⟨oc38, od38, .func (PySem.W.fnOf "_judge_rows" "_judge_rows" (defArgs s__judge_rows) (defBody s__judge_rows) (defScope s__judge_rows) .none kV38 dc38 pm38 an38 cd38 ct38), sl38⟩)
    (c38 : PySem.W.codeIn K cd38 "_judge_rows" = true)
    (k38 : PySem.W.keepIn K (.ref f38) = true)
    (a39 : PySem.W.nsIn K mainGlobals "_clash_ring" = some (some (.ref f39)))
    (l39 : K.lookup f39 = some ⟨oc39, od39, .func (PySem.W.fnOf "_clash_ring" "_clash_ring" (defArgs s__clash_ring) (defBody s__clash_ring) (defScope s__clash_ring) .none kV39 dc39 pm39 an39 cd39 ct39), sl39⟩)
    (c39 : PySem.W.codeIn K cd39 "_clash_ring" = true)
    (k39 : PySem.W.keepIn K (.ref f39) = true)
    (a40 : PySem.W.nsIn K mainGlobals "_law_bag_of" = some (some (.ref f40)))
    (l40 : K.lookup f40 = some ⟨oc40, od40, .func (PySem.W.fnOf "_law_bag_of" "_law_bag_of" (defArgs s__law_bag_of) (defBody s__law_bag_of) (defScope s__law_bag_of) .none kV40 dc40 pm40 an40 cd40 ct40), sl40⟩)
    (c40 : PySem.W.codeIn K cd40 "_law_bag_of" = true)
    (k40 : PySem.W.keepIn K (.ref f40) = true)
    (a41 : PySem.W.nsIn K mainGlobals "_law_pick" = some (some (.ref f41)))
    (l41 : K.lookup f41 = some ⟨oc41, od41, .func (PySem.W.fnOf "_law_pick" "_law_pick" (defArgs s__law_pick) (defBody s__law_pick) (defScope s__law_pick) .none kV41 dc41 pm41 an41 cd41 ct41), sl41⟩)
    (c41 : PySem.W.codeIn K cd41 "_law_pick" = true)
    (k41 : PySem.W.keepIn K (.ref f41) = true)
    (a42 : PySem.W.nsIn K mainGlobals "_law_choice" = some (some (.ref f42)))
    (l42 : K.lookup f42 = some ⟨oc42, od42, .func (PySem.W.fnOf "_law_choice" "_law_choice" (defArgs s__law_choice) (defBody s__law_choice) (defScope s__law_choice) .none kV42 dc42 pm42 an42 cd42 ct42), sl42⟩)
    (c42 : PySem.W.codeIn K cd42 "_law_choice" = true)
    (k42 : PySem.W.keepIn K (.ref f42) = true)
    (a43 : PySem.W.nsIn K mainGlobals "_law_one_in" = some (some (.ref f43)))
    (l43 : K.lookup f43 = some ⟨oc43, od43, .func (PySem.W.fnOf "_law_one_in" "_law_one_in" (defArgs s__law_one_in) (defBody s__law_one_in) (defScope s__law_one_in) .none kV43 dc43 pm43 an43 cd43 ct43), sl43⟩)
    (c43 : PySem.W.codeIn K cd43 "_law_one_in" = true)
    (k43 : PySem.W.keepIn K (.ref f43) = true)
    (a44 : PySem.W.nsIn K mainGlobals "_law_integer" = some (some (.ref f44)))
    (l44 : K.lookup f44 = some ⟨oc44, od44, .func (PySem.W.fnOf "_law_integer" "_law_integer" (defArgs s__law_integer) (defBody s__law_integer) (defScope s__law_integer) .none kV44 dc44 pm44 an44 cd44 ct44), sl44⟩)
    (c44 : PySem.W.codeIn K cd44 "_law_integer" = true)
    (k44 : PySem.W.keepIn K (.ref f44) = true)
    (a45 : PySem.W.nsIn K mainGlobals "_law_letters_of" = some (some (.ref f45)))
    (l45 : K.lookup f45 = some ⟨oc45, od45, .func (PySem.W.fnOf "_law_letters_of" "_law_letters_of" (defArgs s__law_letters_of) (defBody s__law_letters_of) (defScope s__law_letters_of) .none kV45 dc45 pm45 an45 cd45 ct45), sl45⟩)
    (c45 : PySem.W.codeIn K cd45 "_law_letters_of" = true)
    (k45 : PySem.W.keepIn K (.ref f45) = true)
    (a46 : PySem.W.nsIn K mainGlobals "_law_words" = some (some (.ref f46)))
    (l46 : K.lookup f46 = some ⟨oc46, od46, .func (PySem.W.fnOf "_law_words" "_law_words" (defArgs s__law_words) (defBody s__law_words) (defScope s__law_words) .none kV46 dc46 pm46 an46 cd46 ct46), sl46⟩)
    (c46 : PySem.W.codeIn K cd46 "_law_words" = true)
    (k46 : PySem.W.keepIn K (.ref f46) = true)
    (a47 : PySem.W.nsIn K mainGlobals "_law_names_of" = some (some (.ref f47)))
    (l47 : K.lookup f47 = some ⟨oc47, od47, .func (PySem.W.fnOf "_law_names_of" "_law_names_of" (defArgs s__law_names_of) (defBody s__law_names_of) (defScope s__law_names_of) .none kV47 dc47 pm47 an47 cd47 ct47), sl47⟩)
    (c47 : PySem.W.codeIn K cd47 "_law_names_of" = true)
    (k47 : PySem.W.keepIn K (.ref f47) = true)
    (a48 : PySem.W.nsIn K mainGlobals "_law_gcd" = some (some (.ref f48)))
    (l48 : K.lookup f48 = some ⟨oc48, od48, .func (PySem.W.fnOf "_law_gcd" "_law_gcd" (defArgs s__law_gcd) (defBody s__law_gcd) (defScope s__law_gcd) .none kV48 dc48 pm48 an48 cd48 ct48), sl48⟩)
    (c48 : PySem.W.codeIn K cd48 "_law_gcd" = true)
    (k48 : PySem.W.keepIn K (.ref f48) = true)
    (a49 : PySem.W.nsIn K mainGlobals "_law_ratio" = some (some (.ref f49)))
    (l49 : K.lookup f49 = some ⟨oc49, od49, .func (PySem.W.fnOf "_law_ratio" "_law_ratio" (defArgs s__law_ratio) (defBody s__law_ratio) (defScope s__law_ratio) .none kV49 dc49 pm49 an49 cd49 ct49), sl49⟩)
    (c49 : PySem.W.codeIn K cd49 "_law_ratio" = true)
    (k49 : PySem.W.keepIn K (.ref f49) = true)
    (a50 : PySem.W.nsIn K mainGlobals "_law_is_ratio" = some (some (.ref f50)))
    (l50 : K.lookup f50 = some ⟨oc50, od50, .func (PySem.W.fnOf "_law_is_ratio" "_law_is_ratio" (defArgs s__law_is_ratio) (defBody s__law_is_ratio) (defScope s__law_is_ratio) .none kV50 dc50 pm50 an50 cd50 ct50), sl50⟩)
    (c50 : PySem.W.codeIn K cd50 "_law_is_ratio" = true)
    (k50 : PySem.W.keepIn K (.ref f50) = true)
    (a51 : PySem.W.nsIn K mainGlobals "_law_minus" = some (some (.ref f51)))
    (l51 : K.lookup f51 = some ⟨oc51, od51, .func (PySem.W.fnOf "_law_minus" "_law_minus" (defArgs s__law_minus) (defBody s__law_minus) (defScope s__law_minus) .none kV51 dc51 pm51 an51 cd51 ct51), sl51⟩)
    (c51 : PySem.W.codeIn K cd51 "_law_minus" = true)
    (k51 : PySem.W.keepIn K (.ref f51) = true)
    (a52 : PySem.W.nsIn K mainGlobals "_law_ground" = some (some (.ref f52)))
    (l52 : K.lookup f52 = some ⟨oc52, od52, .func (PySem.W.fnOf "_law_ground" "_law_ground" (defArgs s__law_ground) (defBody s__law_ground) (defScope s__law_ground) .none kV52 dc52 pm52 an52 cd52 ct52), sl52⟩)
    (c52 : PySem.W.codeIn K cd52 "_law_ground" = true)
    (k52 : PySem.W.keepIn K (.ref f52) = true)
    (a53 : PySem.W.nsIn K mainGlobals "_law_values_of" = some (some (.ref f53)))
    (l53 : K.lookup f53 = some ⟨oc53, od53, .func (PySem.W.fnOf "_law_values_of" "_law_values_of" (defArgs s__law_values_of) (defBody s__law_values_of) (defScope s__law_values_of) .none kV53 dc53 pm53 an53 cd53 ct53), sl53⟩)
    (c53 : PySem.W.codeIn K cd53 "_law_values_of" = true)
    (k53 : PySem.W.keepIn K (.ref f53) = true)
    (a54 : PySem.W.nsIn K mainGlobals "_law_keeps" = some (some (.ref f54)))
    (l54 : K.lookup f54 = some ⟨oc54, od54, .func (PySem.W.fnOf "_law_keeps" "_law_keeps" (defArgs s__law_keeps) (defBody s__law_keeps) (defScope s__law_keeps) .none kV54 dc54 pm54 an54 cd54 ct54), sl54⟩)
    (c54 : PySem.W.codeIn K cd54 "_law_keeps" = true)
    (k54 : PySem.W.keepIn K (.ref f54) = true)
    (a55 : PySem.W.nsIn K mainGlobals "_law_allowed" = some (some (.ref f55)))
    (l55 : K.lookup f55 = some ⟨oc55, od55, .func (PySem.W.fnOf "_law_allowed" "_law_allowed" (defArgs s__law_allowed) (defBody s__law_allowed) (defScope s__law_allowed) .none kV55 dc55 pm55 an55 cd55 ct55), sl55⟩)
    (c55 : PySem.W.codeIn K cd55 "_law_allowed" = true)
    (k55 : PySem.W.keepIn K (.ref f55) = true)
    (a56 : PySem.W.nsIn K mainGlobals "_law_some_spots" = some (some (.ref f56)))
    (l56 : K.lookup f56 = some ⟨oc56, od56, .func (PySem.W.fnOf "_law_some_spots" "_law_some_spots" (defArgs s__law_some_spots) (defBody s__law_some_spots) (defScope s__law_some_spots) .none kV56 dc56 pm56 an56 cd56 ct56), sl56⟩)
    (c56 : PySem.W.codeIn K cd56 "_law_some_spots" = true)
    (k56 : PySem.W.keepIn K (.ref f56) = true)
    (a57 : PySem.W.nsIn K mainGlobals "_law_closing" = some (some (.ref f57)))
    (l57 : K.lookup f57 = some ⟨oc57, od57, .func (PySem.W.fnOf "_law_closing" "_law_closing" (defArgs s__law_closing) (defBody s__law_closing) (defScope s__law_closing) .none kV57 dc57 pm57 an57 cd57 ct57), sl57⟩)
    (c57 : PySem.W.codeIn K cd57 "_law_closing" = true)
    (k57 : PySem.W.keepIn K (.ref f57) = true)
    (a58 : PySem.W.nsIn K mainGlobals "_law_drawn_rows" = some (some (.ref f58)))
    (l58 : K.lookup f58 = some ⟨oc58, od58, .func (PySem.W.fnOf "_law_drawn_rows" "_law_drawn_rows" (defArgs s__law_drawn_rows) (defBody s__law_drawn_rows) (defScope s__law_drawn_rows) .none kV58 dc58 pm58 an58 cd58 ct58), sl58⟩)
    (c58 : PySem.W.codeIn K cd58 "_law_drawn_rows" = true)
    (k58 : PySem.W.keepIn K (.ref f58) = true)
    (a59 : PySem.W.nsIn K mainGlobals "_law_narrowed" = some (some (.ref f59)))
    (l59 : K.lookup f59 = some ⟨oc59, od59, .func (PySem.W.fnOf "_law_narrowed" "_law_narrowed" (defArgs s__law_narrowed) (defBody s__law_narrowed) (defScope s__law_narrowed) .none kV59 dc59 pm59 an59 cd59 ct59), sl59⟩)
    (c59 : PySem.W.codeIn K cd59 "_law_narrowed" = true)
    (k59 : PySem.W.keepIn K (.ref f59) = true)
    (a60 : PySem.W.nsIn K mainGlobals "_law_card_links" = some (some (.ref f60)))
    (l60 : K.lookup f60 = some ⟨oc60, od60, .func (PySem.W.fnOf "_law_card_links" "_law_card_links" (defArgs s__law_card_links) (defBody s__law_card_links) (defScope s__law_card_links) .none kV60 dc60 pm60 an60 cd60 ct60), sl60⟩)
    (c60 : PySem.W.codeIn K cd60 "_law_card_links" = true)
    (k60 : PySem.W.keepIn K (.ref f60) = true)
    (a61 : PySem.W.nsIn K mainGlobals "_law_first_of" = some (some (.ref f61)))
    (l61 : K.lookup f61 = some ⟨oc61, od61, .func (PySem.W.fnOf "_law_first_of" "_law_first_of" (defArgs s__law_first_of) (defBody s__law_first_of) (defScope s__law_first_of) .none kV61 dc61 pm61 an61 cd61 ct61), sl61⟩)
    (c61 : PySem.W.codeIn K cd61 "_law_first_of" = true)
    (k61 : PySem.W.keepIn K (.ref f61) = true)
    (a62 : PySem.W.nsIn K mainGlobals "_law_parted" = some (some (.ref f62)))
    (l62 : K.lookup f62 = some ⟨oc62, od62, .func (PySem.W.fnOf "_law_parted" "_law_parted" (defArgs s__law_parted) (defBody s__law_parted) (defScope s__law_parted) .none kV62 dc62 pm62 an62 cd62 ct62), sl62⟩)
    (c62 : PySem.W.codeIn K cd62 "_law_parted" = true)
    (k62 : PySem.W.keepIn K (.ref f62) = true)
    (a63 : PySem.W.nsIn K mainGlobals "_law_right" = some (some (.ref f63)))
    (l63 : K.lookup f63 = some ⟨oc63, od63, .func (PySem.W.fnOf "_law_right" "_law_right" (defArgs s__law_right) (defBody s__law_right) (defScope s__law_right) .none kV63 dc63 pm63 an63 cd63 ct63), sl63⟩)
    (c63 : PySem.W.codeIn K cd63 "_law_right" = true)
    (k63 : PySem.W.keepIn K (.ref f63) = true)
    (a64 : PySem.W.nsIn K mainGlobals "_law_unlike" = some (some (.ref f64)))
    (l64 : K.lookup f64 = some ⟨oc64, od64, .func (PySem.W.fnOf "_law_unlike" "_law_unlike" (defArgs s__law_unlike) (defBody s__law_unlike) (defScope s__law_unlike) .none kV64 dc64 pm64 an64 cd64 ct64), sl64⟩)
    (c64 : PySem.W.codeIn K cd64 "_law_unlike" = true)
    (k64 : PySem.W.keepIn K (.ref f64) = true)
    (a65 : PySem.W.nsIn K mainGlobals "law" = some (some (.ref f65)))
    (l65 : K.lookup f65 = some ⟨oc65, od65, .func (PySem.W.fnOf "law" "law" (defArgs s_law) (defBody s_law) (defScope s_law) .none kV65 dc65 pm65 an65 cd65 ct65), sl65⟩)
    (c65 : PySem.W.codeIn K cd65 "law" = true)
    (k65 : PySem.W.keepIn K (.ref f65) = true) :
    ∃ fd : FuncData, (∀ (s : Shared) (v : Value), BindsTo s fd ⟨[v], []⟩ [("_law_script", v)]) ∧ ∀ base : Heap, K.In base → base.Ns mainGlobals mg → FnG P w K mg base 12 fa fd ["_law_script"] (sp_law K) := by
  have e := hfa.symm.trans (PySem.W.mg_of X G a65)
  cases e
  have T : Txt K mg ⟨C_Card, C_BadSpot, C_NoSpot, C_Clash, C_BadCard, C_EllError, C_World, C_BadWorld, aG, aWH⟩ :=
    { n_isinstance := PySem.W.mg_none_of X G z_isinstance,
      n_int := PySem.W.mg_none_of X G z_int,
      n_bool := PySem.W.mg_none_of X G z_bool,
      n_tuple := PySem.W.mg_none_of X G z_tuple,
      n_str := PySem.W.mg_none_of X G z_str,
      n_list := PySem.W.mg_none_of X G z_list,
      n_len := PySem.W.mg_none_of X G z_len,
      n_any := PySem.W.mg_none_of X G z_any,
      n_all := PySem.W.mg_none_of X G z_all,
      n_range := PySem.W.mg_none_of X G z_range,
      n_enumerate := PySem.W.mg_none_of X G z_enumerate,
      n_zip := PySem.W.mg_none_of X G z_zip,
      n_min := PySem.W.mg_none_of X G z_min,
      n_ValueError := PySem.W.mg_none_of X G z_ValueError,
      n_abs := PySem.W.mg_none_of X G z_abs,
      n_iter := PySem.W.mg_none_of X G z_iter,
      k_GROUND := PySem.W.mg_of X G zz_GROUND,
      t_GROUND := ground_at lGG,
      k_WHY := PySem.W.mg_of X G zz_WHY,
      t_WHY := why_at lWH,
      gcd := PySem.W.mg_of X G zgcd,
      g_EllError := PySem.W.mg_of X G a_EllError,
      g_BadSpot := PySem.W.mg_of X G a_BadSpot,
      no_BadSpot_place := no_BadSpot_place,
      i_BadSpot := ⟨_, _, a1, t1, (fun_mk (st := s_BadSpotD_initD) l1 c1 k1), ((fun_mk (st := s_BadSpotD_initD) l1 c1 k1).binds (ps := P_BadSpotD_initD) fun _ _ _ _ _ _ us hl => match us, hl with | [_, _], _ => rfl)⟩,
      ox_BadSpot := ⟨⟨nm_BadSpot, q_BadSpot, N_BadSpot, bs_BadSpot, _, sn_BadSpot, sub_BadSpot, ab_BadSpot, col_BadSpot, dd_BadSpot, m0_BadSpot, m1_BadSpot, m2_BadSpot, m3_BadSpot, m5_BadSpot, x_BadSpot, rfl⟩, sa_BadSpot, eC_BadSpot, tC_BadSpot, kC_BadSpot⟩,
      e_BadSpot := ⟨ic_BadSpot, ga_BadSpot, gt_BadSpot, eC_BadSpot, ca_BadSpot, gg0, tk0, mo_BadSpot⟩,
      xf_BadSpot := ⟨ga_BadSpot, gt_BadSpot, eC_BadSpot, hC_BadSpot⟩,
      g_NoSpot := PySem.W.mg_of X G a_NoSpot,
      no_NoSpot_spot := no_NoSpot_spot,
      i_NoSpot := ⟨_, _, a2, t2, (fun_mk (st := s_NoSpotD_initD) l2 c2 k2), ((fun_mk (st := s_NoSpotD_initD) l2 c2 k2).binds (ps := P_NoSpotD_initD) fun _ _ _ _ _ _ us hl => match us, hl with | [_, _], _ => rfl)⟩,
      ox_NoSpot := ⟨⟨nm_NoSpot, q_NoSpot, N_NoSpot, bs_NoSpot, _, sn_NoSpot, sub_NoSpot, ab_NoSpot, col_NoSpot, dd_NoSpot, m0_NoSpot, m1_NoSpot, m2_NoSpot, m3_NoSpot, m5_NoSpot, x_NoSpot, rfl⟩, sa_NoSpot, eC_NoSpot, tC_NoSpot, kC_NoSpot⟩,
      e_NoSpot := ⟨ic_NoSpot, ga_NoSpot, gt_NoSpot, eC_NoSpot, ca_NoSpot, gg0, tk0, mo_NoSpot⟩,
      xf_NoSpot := ⟨ga_NoSpot, gt_NoSpot, eC_NoSpot, hC_NoSpot⟩,
      g_Clash := PySem.W.mg_of X G a_Clash,
      no_Clash_ring := no_Clash_ring,
      i_Clash := ⟨_, _, a3, t3, (fun_mk (st := s_ClashD_initD) l3 c3 k3), ((fun_mk (st := s_ClashD_initD) l3 c3 k3).binds (ps := P_ClashD_initD) fun _ _ _ _ _ _ us hl => match us, hl with | [_, _], _ => rfl)⟩,
      ox_Clash := ⟨⟨nm_Clash, q_Clash, N_Clash, bs_Clash, _, sn_Clash, sub_Clash, ab_Clash, col_Clash, dd_Clash, m0_Clash, m1_Clash, m2_Clash, m3_Clash, m5_Clash, x_Clash, rfl⟩, sa_Clash, eC_Clash, tC_Clash, kC_Clash⟩,
      e_Clash := ⟨ic_Clash, ga_Clash, gt_Clash, eC_Clash, ca_Clash, gg0, tk0, mo_Clash⟩,
      xf_Clash := ⟨ga_Clash, gt_Clash, eC_Clash, hC_Clash⟩,
      g_BadCard := PySem.W.mg_of X G a_BadCard,
      no_BadCard_place := no_BadCard_place,
      i_BadCard := ⟨_, _, a4, t4, (fun_mk (st := s_BadCardD_initD) l4 c4 k4), ((fun_mk (st := s_BadCardD_initD) l4 c4 k4).binds (ps := P_BadCardD_initD) fun _ _ _ _ _ _ us hl => match us, hl with | [_, _], _ => rfl)⟩,
      ox_BadCard := ⟨⟨nm_BadCard, q_BadCard, N_BadCard, bs_BadCard, _, sn_BadCard, sub_BadCard, ab_BadCard, col_BadCard, dd_BadCard, m0_BadCard, m1_BadCard, m2_BadCard, m3_BadCard, m5_BadCard, x_BadCard, rfl⟩, sa_BadCard, eC_BadCard, tC_BadCard, kC_BadCard⟩,
      e_BadCard := ⟨ic_BadCard, ga_BadCard, gt_BadCard, eC_BadCard, ca_BadCard, gg0, tk0, mo_BadCard⟩,
      xf_BadCard := ⟨ga_BadCard, gt_BadCard, eC_BadCard, hC_BadCard⟩,
      g_BadWorld := PySem.W.mg_of X G a_BadWorld,
      no_BadWorld_place := no_BadWorld_place,
      i_BadWorld := ⟨_, _, a5, t5, (fun_mk (st := s_BadWorldD_initD) l5 c5 k5), ((fun_mk (st := s_BadWorldD_initD) l5 c5 k5).binds (ps := P_BadWorldD_initD) fun _ _ _ _ _ _ us hl => match us, hl with | [_, _], _ => rfl)⟩,
      ox_BadWorld := ⟨⟨nm_BadWorld, q_BadWorld, N_BadWorld, bs_BadWorld, _, sn_BadWorld, sub_BadWorld, ab_BadWorld, col_BadWorld, dd_BadWorld, m0_BadWorld, m1_BadWorld, m2_BadWorld, m3_BadWorld, m5_BadWorld, x_BadWorld, rfl⟩, sa_BadWorld, eC_BadWorld, tC_BadWorld, kC_BadWorld⟩,
      e_BadWorld := ⟨ic_BadWorld, ga_BadWorld, gt_BadWorld, eC_BadWorld, ca_BadWorld, gg0, tk0, mo_BadWorld⟩,
      xf_BadWorld := ⟨ga_BadWorld, gt_BadWorld, eC_BadWorld, hC_BadWorld⟩,
      kv_BadCard := kit_ty2 vC_BadCard,
      ke_BadCard := kit_yes ic_EllError tC_EllError lC_BadCard,
      kb_BadCard := kit_no0 ne_BadCard_BadSpot ic_BadSpot tC_BadSpot s_BadCard_BadSpot,
      em_BadCard := exm_of eC_BadCard ic_BadCard tC_BadCard s_BadCard_BadCard,
      g_World := PySem.W.mg_of X G a_World,
      wki := ⟨⟨wpg, whd, wpo, wsa⟩, wca, gg0, tk0, wmo⟩,
      wnV := wnV,
      i_World := ⟨_, _, ⟨wmk, a6, i6, wkc⟩, (fun_mk (st := s_WorldD_initD) l6 c6 k6), ((fun_mk (st := s_WorldD_initD) l6 c6 k6).binds (ps := P_WorldD_initD) fun _ _ _ _ _ _ us hl => match us, hl with | [_, _], _ => rfl)⟩,
      wo_getitem := ⟨_, _, ⟨a7, i7⟩, fn_at l7, (fun_mk (st := s_WorldD_getitemD) l7 c7 k7), ((fun_mk (st := s_WorldD_getitemD) l7 c7 k7).binds (ps := P_WorldD_getitemD) fun _ _ _ _ _ _ us hl => match us, hl with | [_, _], _ => rfl)⟩,
      wo_len := ⟨_, _, ⟨a8, i8⟩, fn_at l8, (fun_mk (st := s_WorldD_lenD) l8 c8 k8), ((fun_mk (st := s_WorldD_lenD) l8 c8 k8).binds (ps := P_WorldD_lenD) fun _ _ _ _ _ _ us hl => match us, hl with | [_], _ => rfl)⟩,
      wo_iter := ⟨_, _, ⟨a9, i9⟩, fn_at l9, (fun_mk (st := s_WorldD_iterD) l9 c9 k9), ((fun_mk (st := s_WorldD_iterD) l9 c9 k9).binds (ps := P_WorldD_iterD) fun _ _ _ _ _ _ us hl => match us, hl with | [_], _ => rfl)⟩,
      g_Card := PySem.W.mg_of X G a_Card,
      ki := ⟨⟨pg, hd, po, sa⟩, ca, gg0, tk0, mo⟩,
      nS := nS,
      nP := nP,
      nR := nR,
      sf := sf,
      nf := all6 (nf_of sb_NoneType) (nf_of sb_bool) (nf_of sb_int) (nf_of sb_str) (nf_of sb_list) (nf_of sb_tuple),
      no := all6 (kit_no1 ic tC sb_NoneType) (kit_no1 ic tC sb_bool) (kit_no1 ic tC sb_int) (kit_no1 ic tC sb_str) (kit_no1 ic tC sb_list) (kit_no1 ic tC sb_tuple),
      i_Card := ⟨_, _, ⟨mk, a10, i10, kc⟩, (fun_mk (st := s_CardD_initD) l10 c10 k10), ((fun_mk (st := s_CardD_initD) l10 c10 k10).binds (ps := P_CardD_initD) fun _ _ _ _ _ _ us hl => match us, hl with | [_, _, _], _ => rfl)⟩,
      o_getitem := ⟨_, _, ⟨a11, i11⟩, fn_at l11, (fun_mk (st := s_CardD_getitemD) l11 c11 k11), ((fun_mk (st := s_CardD_getitemD) l11 c11 k11).binds (ps := P_CardD_getitemD) fun _ _ _ _ _ _ us hl => match us, hl with | [_, _], _ => rfl)⟩,
      o_len := ⟨_, _, ⟨a12, i12⟩, fn_at l12, (fun_mk (st := s_CardD_lenD) l12 c12 k12), ((fun_mk (st := s_CardD_lenD) l12 c12 k12).binds (ps := P_CardD_lenD) fun _ _ _ _ _ _ us hl => match us, hl with | [_], _ => rfl)⟩,
      o_contains := ⟨_, _, ⟨a13, i13⟩, fn_at l13, (fun_mk (st := s_CardD_containsD) l13 c13 k13), ((fun_mk (st := s_CardD_containsD) l13 c13 k13).binds (ps := P_CardD_containsD) fun _ _ _ _ _ _ us hl => match us, hl with | [_, _], _ => rfl)⟩,
      o_eq := ⟨_, _, ⟨a14, i14⟩, fn_at l14, (fun_mk (st := s_CardD_eqD) l14 c14 k14), ((fun_mk (st := s_CardD_eqD) l14 c14 k14).binds (ps := P_CardD_eqD) fun _ _ _ _ _ _ us hl => match us, hl with | [_, _], _ => rfl)⟩,
      m__place := ⟨_, _, ⟨a15, i15, k15⟩, (fun_mk (st := s_Card__place) l15 c15 k15), ((fun_mk (st := s_Card__place) l15 c15 k15).binds (ps := P_Card__place) fun _ _ _ _ _ _ us hl => match us, hl with | [_, _], _ => rfl)⟩,
      d__wall := ⟨_, _, (fun_mk (st := s__wall) l16 c16 k16), PySem.W.mg_of X G a16, ((fun_mk (st := s__wall) l16 c16 k16).binds (ps := P__wall) fun _ _ _ _ _ _ us hl => match us, hl with | [_], _ => rfl)⟩,
      d_is_integer := ⟨_, _, (fun_mk (st := s_is_integer) l17 c17 k17), PySem.W.mg_of X G a17, ((fun_mk (st := s_is_integer) l17 c17 k17).binds (ps := P_is_integer) fun _ _ _ _ _ _ us hl => match us, hl with | [_], _ => rfl)⟩,
      d_is_row := ⟨_, _, (fun_mk (st := s_is_row) l18 c18 k18), PySem.W.mg_of X G a18, ((fun_mk (st := s_is_row) l18 c18 k18).binds (ps := P_is_row) fun _ _ _ _ _ _ us hl => match us, hl with | [_], _ => rfl)⟩,
      d_is_tuple_of := ⟨_, _, (fun_mk (st := s_is_tuple_of) l19 c19 k19), PySem.W.mg_of X G a19, ((fun_mk (st := s_is_tuple_of) l19 c19 k19).binds (ps := P_is_tuple_of) fun _ _ _ _ _ _ us hl => match us, hl with | [_, _], _ => rfl)⟩,
      d_is_ratio := ⟨_, _, (fun_mk (st := s_is_ratio) l20 c20 k20), PySem.W.mg_of X G a20, ((fun_mk (st := s_is_ratio) l20 c20 k20).binds (ps := P_is_ratio) fun _ _ _ _ _ _ us hl => match us, hl with | [_], _ => rfl)⟩,
      d_is_spot := ⟨_, _, (fun_mk (st := s_is_spot) l21 c21 k21), PySem.W.mg_of X G a21, ((fun_mk (st := s_is_spot) l21 c21 k21).binds (ps := P_is_spot) fun _ _ _ _ _ _ us hl => match us, hl with | [_], _ => rfl)⟩,
      d__values_of := ⟨_, _, (fun_mk (st := s__values_of) l22 c22 k22), PySem.W.mg_of X G a22, ((fun_mk (st := s__values_of) l22 c22 k22).binds (ps := P__values_of) fun _ _ _ _ _ _ us hl => match us, hl with | [_], _ => rfl)⟩,
      d_parted := ⟨_, _, (fun_mk (st := s_parted) l23 c23 k23), PySem.W.mg_of X G a23, ((fun_mk (st := s_parted) l23 c23 k23).binds (ps := P_parted) fun _ _ _ _ _ _ us hl => match us, hl with | [_, _], _ => rfl)⟩,
      d__reaching := ⟨_, _, (fun_mk (st := s__reaching) l24 c24 k24), PySem.W.mg_of X G a24, ((fun_mk (st := s__reaching) l24 c24 k24).binds (ps := P__reaching) fun _ _ _ _ _ _ us hl => match us, hl with | [_, _], _ => rfl)⟩,
      d_ways_from := ⟨_, _, (fun_mk (st := s_ways_from) l25 c25 k25), PySem.W.mg_of X G a25, ((fun_mk (st := s_ways_from) l25 c25 k25).binds (ps := P_ways_from) fun _ _ _ _ _ _ us hl => match us, hl with | [_, _], _ => rfl)⟩,
      d__ring_of := ⟨_, _, (fun_mk (st := s__ring_of) l26 c26 k26), PySem.W.mg_of X G a26, ((fun_mk (st := s__ring_of) l26 c26 k26).binds (ps := P__ring_of) fun _ _ _ _ _ _ us hl => match us, hl with | [_, _], _ => rfl)⟩,
      d__followed_back := ⟨_, _, (fun_mk (st := s__followed_back) l27 c27 k27), PySem.W.mg_of X G a27, ((fun_mk (st := s__followed_back) l27 c27 k27).binds (ps := P__followed_back) fun _ _ _ _ _ _ us hl => match us, hl with | [_, _, _, _], _ => rfl)⟩,
      d_arrows_of := ⟨_, _, (fun_mk (st := s_arrows_of) l28 c28 k28), PySem.W.mg_of X G a28, ((fun_mk (st := s_arrows_of) l28 c28 k28).binds (ps := P_arrows_of) fun _ _ _ _ _ _ us hl => match us, hl with | [_, _], _ => rfl)⟩,
      d_places_of := ⟨_, _, (fun_mk (st := s_places_of) l29 c29 k29), PySem.W.mg_of X G a29, ((fun_mk (st := s_places_of) l29 c29 k29).binds (ps := P_places_of) fun _ _ _ _ _ _ us hl => match us, hl with | [_], _ => rfl)⟩,
      d_is_closed := ⟨_, _, (fun_mk (st := s_is_closed) l30 c30 k30), PySem.W.mg_of X G a30, ((fun_mk (st := s_is_closed) l30 c30 k30).binds (ps := P_is_closed) fun _ _ _ _ _ _ us hl => match us, hl with | [_], _ => rfl)⟩,
      d_joined_tables := ⟨_, _, (fun_mk (st := s_joined_tables) l31 c31 k31), PySem.W.mg_of X G a31, ((fun_mk (st := s_joined_tables) l31 c31 k31).binds (ps := P_joined_tables) fun _ _ _ _ _ _ us hl => match us, hl with | [_, _, _], _ => rfl)⟩,
      d__by_way := ⟨_, _, (fun_mk (st := s__by_way) l32 c32 k32), PySem.W.mg_of X G a32, ((fun_mk (st := s__by_way) l32 c32 k32).binds (ps := P__by_way) fun _ _ _ _ _ _ us hl => match us, hl with | [_, _, _], _ => rfl)⟩,
      d__side_by_side := ⟨_, _, (fun_mk (st := s__side_by_side) l33 c33 k33), PySem.W.mg_of X G a33, ((fun_mk (st := s__side_by_side) l33 c33 k33).binds (ps := P__side_by_side) fun _ _ _ _ _ _ us hl => match us, hl with | [_, _, _], _ => rfl)⟩,
      d__with_least := ⟨_, _, (fun_mk (st := s__with_least) l34 c34 k34), PySem.W.mg_of X G a34, ((fun_mk (st := s__with_least) l34 c34 k34).binds (ps := P__with_least) fun _ _ _ _ _ _ us hl => match us, hl with | [_, _, _], _ => rfl)⟩,
      d__joints := ⟨_, _, (fun_mk (st := s__joints) l35 c35 k35), PySem.W.mg_of X G a35, ((fun_mk (st := s__joints) l35 c35 k35).binds (ps := P__joints) fun _ _ _ _ _ _ us hl => match us, hl with | [_, _, _], _ => rfl)⟩,
      d_card_links := ⟨_, _, (fun_mk (st := s_card_links) l36 c36 k36), PySem.W.mg_of X G a36, ((fun_mk (st := s_card_links) l36 c36 k36).binds (ps := P_card_links) fun _ _ _ _ _ _ us hl => match us, hl with | [_, _], _ => rfl)⟩,
      d__trusted := ⟨_, _, (fun_mk (st := s__trusted) l37 c37 k37), PySem.W.mg_of X G a37, ((fun_mk (st := s__trusted) l37 c37 k37).binds (ps := P__trusted) fun _ _ _ _ _ _ us hl => match us, hl with | [_, _], _ => rfl)⟩,
      d__judge_rows := ⟨_, _, (fun_mk (st := s__judge_rows) l38 c38 k38), PySem.W.mg_of X G a38, ((fun_mk (st := s__judge_rows) l38 c38 k38).binds (ps := P__judge_rows) fun _ _ _ _ _ _ us hl => match us, hl with | [_, _], _ => rfl)⟩,
      d__clash_ring := ⟨_, _, (fun_mk (st := s__clash_ring) l39 c39 k39), PySem.W.mg_of X G a39, ((fun_mk (st := s__clash_ring) l39 c39 k39).binds (ps := P__clash_ring) fun _ _ _ _ _ _ us hl => match us, hl with | [_, _], _ => rfl)⟩,
      d__law_bag_of := ⟨_, _, (fun_mk (st := s__law_bag_of) l40 c40 k40), PySem.W.mg_of X G a40, ((fun_mk (st := s__law_bag_of) l40 c40 k40).binds (ps := P__law_bag_of) fun _ _ _ _ _ _ us hl => match us, hl with | [_], _ => rfl)⟩,
      d__law_pick := ⟨_, _, (fun_mk (st := s__law_pick) l41 c41 k41), PySem.W.mg_of X G a41, ((fun_mk (st := s__law_pick) l41 c41 k41).binds (ps := P__law_pick) fun _ _ _ _ _ _ us hl => match us, hl with | [_, _], _ => rfl)⟩,
      d__law_choice := ⟨_, _, (fun_mk (st := s__law_choice) l42 c42 k42), PySem.W.mg_of X G a42, ((fun_mk (st := s__law_choice) l42 c42 k42).binds (ps := P__law_choice) fun _ _ _ _ _ _ us hl => match us, hl with | [_, _], _ => rfl)⟩,
      d__law_one_in := ⟨_, _, (fun_mk (st := s__law_one_in) l43 c43 k43), PySem.W.mg_of X G a43, ((fun_mk (st := s__law_one_in) l43 c43 k43).binds (ps := P__law_one_in) fun _ _ _ _ _ _ us hl => match us, hl with | [_, _], _ => rfl)⟩,
      d__law_integer := ⟨_, _, (fun_mk (st := s__law_integer) l44 c44 k44), PySem.W.mg_of X G a44, ((fun_mk (st := s__law_integer) l44 c44 k44).binds (ps := P__law_integer) fun _ _ _ _ _ _ us hl => match us, hl with | [_], _ => rfl)⟩,
      d__law_letters_of := ⟨_, _, (fun_mk (st := s__law_letters_of) l45 c45 k45), PySem.W.mg_of X G a45, ((fun_mk (st := s__law_letters_of) l45 c45 k45).binds (ps := P__law_letters_of) fun _ _ _ _ _ _ us hl => match us, hl with | [_, _], _ => rfl)⟩,
      d__law_words := ⟨_, _, (fun_mk (st := s__law_words) l46 c46 k46), PySem.W.mg_of X G a46, ((fun_mk (st := s__law_words) l46 c46 k46).binds (ps := P__law_words) fun _ _ _ _ _ _ us hl => match us, hl with | [], _ => rfl)⟩,
      d__law_names_of := ⟨_, _, (fun_mk (st := s__law_names_of) l47 c47 k47), PySem.W.mg_of X G a47, ((fun_mk (st := s__law_names_of) l47 c47 k47).binds (ps := P__law_names_of) fun _ _ _ _ _ _ us hl => match us, hl with | [_, _], _ => rfl)⟩,
      d__law_gcd := ⟨_, _, (fun_mk (st := s__law_gcd) l48 c48 k48), PySem.W.mg_of X G a48, ((fun_mk (st := s__law_gcd) l48 c48 k48).binds (ps := P__law_gcd) fun _ _ _ _ _ _ us hl => match us, hl with | [_, _], _ => rfl)⟩,
      d__law_ratio := ⟨_, _, (fun_mk (st := s__law_ratio) l49 c49 k49), PySem.W.mg_of X G a49, ((fun_mk (st := s__law_ratio) l49 c49 k49).binds (ps := P__law_ratio) fun _ _ _ _ _ _ us hl => match us, hl with | [_, _], _ => rfl)⟩,
      d__law_is_ratio := ⟨_, _, (fun_mk (st := s__law_is_ratio) l50 c50 k50), PySem.W.mg_of X G a50, ((fun_mk (st := s__law_is_ratio) l50 c50 k50).binds (ps := P__law_is_ratio) fun _ _ _ _ _ _ us hl => match us, hl with | [_], _ => rfl)⟩,
      d__law_minus := ⟨_, _, (fun_mk (st := s__law_minus) l51 c51 k51), PySem.W.mg_of X G a51, ((fun_mk (st := s__law_minus) l51 c51 k51).binds (ps := P__law_minus) fun _ _ _ _ _ _ us hl => match us, hl with | [_, _], _ => rfl)⟩,
      d__law_ground := ⟨_, _, (fun_mk (st := s__law_ground) l52 c52 k52), PySem.W.mg_of X G a52, ((fun_mk (st := s__law_ground) l52 c52 k52).binds (ps := P__law_ground) fun _ _ _ _ _ _ us hl => match us, hl with | [], _ => rfl)⟩,
      d__law_values_of := ⟨_, _, (fun_mk (st := s__law_values_of) l53 c53 k53), PySem.W.mg_of X G a53, ((fun_mk (st := s__law_values_of) l53 c53 k53).binds (ps := P__law_values_of) fun _ _ _ _ _ _ us hl => match us, hl with | [_, _], _ => rfl)⟩,
      d__law_keeps := ⟨_, _, (fun_mk (st := s__law_keeps) l54 c54 k54), PySem.W.mg_of X G a54, ((fun_mk (st := s__law_keeps) l54 c54 k54).binds (ps := P__law_keeps) fun _ _ _ _ _ _ us hl => match us, hl with | [_, _], _ => rfl)⟩,
      d__law_allowed := ⟨_, _, (fun_mk (st := s__law_allowed) l55 c55 k55), PySem.W.mg_of X G a55, ((fun_mk (st := s__law_allowed) l55 c55 k55).binds (ps := P__law_allowed) fun _ _ _ _ _ _ us hl => match us, hl with | [_, _], _ => rfl)⟩,
      d__law_some_spots := ⟨_, _, (fun_mk (st := s__law_some_spots) l56 c56 k56), PySem.W.mg_of X G a56, ((fun_mk (st := s__law_some_spots) l56 c56 k56).binds (ps := P__law_some_spots) fun _ _ _ _ _ _ us hl => match us, hl with | [_, _], _ => rfl)⟩,
      d__law_closing := ⟨_, _, (fun_mk (st := s__law_closing) l57 c57 k57), PySem.W.mg_of X G a57, ((fun_mk (st := s__law_closing) l57 c57 k57).binds (ps := P__law_closing) fun _ _ _ _ _ _ us hl => match us, hl with | [_], _ => rfl)⟩,
      d__law_drawn_rows := ⟨_, _, (fun_mk (st := s__law_drawn_rows) l58 c58 k58), PySem.W.mg_of X G a58, ((fun_mk (st := s__law_drawn_rows) l58 c58 k58).binds (ps := P__law_drawn_rows) fun _ _ _ _ _ _ us hl => match us, hl with | [_, _], _ => rfl)⟩,
      d__law_narrowed := ⟨_, _, (fun_mk (st := s__law_narrowed) l59 c59 k59), PySem.W.mg_of X G a59, ((fun_mk (st := s__law_narrowed) l59 c59 k59).binds (ps := P__law_narrowed) fun _ _ _ _ _ _ us hl => match us, hl with | [_, _], _ => rfl)⟩,
      d__law_card_links := ⟨_, _, (fun_mk (st := s__law_card_links) l60 c60 k60), PySem.W.mg_of X G a60, ((fun_mk (st := s__law_card_links) l60 c60 k60).binds (ps := P__law_card_links) fun _ _ _ _ _ _ us hl => match us, hl with | [_, _], _ => rfl)⟩,
      d__law_first_of := ⟨_, _, (fun_mk (st := s__law_first_of) l61 c61 k61), PySem.W.mg_of X G a61, ((fun_mk (st := s__law_first_of) l61 c61 k61).binds (ps := P__law_first_of) fun _ _ _ _ _ _ us hl => match us, hl with | [_, _], _ => rfl)⟩,
      d__law_parted := ⟨_, _, (fun_mk (st := s__law_parted) l62 c62 k62), PySem.W.mg_of X G a62, ((fun_mk (st := s__law_parted) l62 c62 k62).binds (ps := P__law_parted) fun _ _ _ _ _ _ us hl => match us, hl with | [_, _], _ => rfl)⟩,
      d__law_right := ⟨_, _, (fun_mk (st := s__law_right) l63 c63 k63), PySem.W.mg_of X G a63, ((fun_mk (st := s__law_right) l63 c63 k63).binds (ps := P__law_right) fun _ _ _ _ _ _ us hl => match us, hl with | [_, _, _, _], _ => rfl)⟩,
      d__law_unlike := ⟨_, _, (fun_mk (st := s__law_unlike) l64 c64 k64), PySem.W.mg_of X G a64, ((fun_mk (st := s__law_unlike) l64 c64 k64).binds (ps := P__law_unlike) fun _ _ _ _ _ _ us hl => match us, hl with | [_, _, _, _], _ => rfl)⟩,
      d_law := ⟨_, _, (fun_mk (st := s_law) l65 c65 k65), PySem.W.mg_of X G a65, ((fun_mk (st := s_law) l65 c65 k65).binds (ps := P_law) fun _ _ _ _ _ _ us hl => match us, hl with | [_], _ => rfl)⟩ }
  have FL := (fun_mk (st := s_law) l65 c65 k65)
  exact ⟨PySem.W.fnOf "law" "law" (defArgs s_law) (defBody s_law) (defScope s_law) .none kV65 dc65 pm65 an65 cd65 ct65, fun s v => .of_eq rfl, fun base _ _ => fun_gd FL sc_law (fun vs H Q E h => by obtain ⟨_, p, ns, rfl, _⟩ := h; rfl) (b_law T)⟩
theorem walk {l : PySem.W.OpenLaw} {q : Program} {loose : List Str} {XP : (Str → Option Value) → Heap → Prop} {YP : World → Heap → Prop} {d : DefRec} {K : Params → PySem.W.Frag} (hn : l.most = some 63) (hdf : d.params.defaults = [])
    (hY : ∀ (w : World) (h : Heap), YP w h → (K w.params).In h)
    (F : ∀ (w : World) (mg : Str → Option Value) (fa : Addr) (h : Heap), (K w.params).In h → h.Ns mainGlobals mg → mg d.name = some (.ref fa) →
      ∃ fd : FuncData, (∀ (s : Shared) (u : Value), BindsTo s fd ⟨[u], []⟩ [("_law_script", u)]) ∧ ∀ base : Heap, (K w.params).In base → base.Ns mainGlobals mg → FnG l.prog w (K w.params) mg base 12 fa fd ["_law_script"] (sp_law (K w.params))) :
    PySem.W.WalkO q loose XP YP l.row.toRowW d [] (fun f vs => PySem.call f vs) :=
  walk_G (n := 63) (k := 12) (x := "_law_script") (sp := fun w => sp_law (K w.params)) hn (by decide) hdf ⟨rfl, by decide, by decide⟩ hY F (fun _ _ a ns hl _ hS => ⟨_, a, ns, rfl, hS, by omega, Same.refl _, fun _ => rfl⟩)
end K53
open PySem PySem.W PyProof.Rows
set_option maxRecDepth 100000 in
set_option maxHeartbeats 0 in
theorem PySem.Challenge.cw_ellwarden_k53_parted_holds : PySem.Challenge.rw_ellwarden_k53_parted.Holds := by
  w_on; o_law; k_head; (case hw => w_witness2)
  k_fill
  refine K53.walk (l := PySem.Challenge.rw_ellwarden_k53_parted) rfl rfl (fun w h Y => PySem.W.kIn_of Y) ?F
  case F =>
    intro w mg fa h KX G hmg
    refine' K53.all_mk KX G hmg ?z_isinstance ?z_int ?z_bool ?z_tuple ?z_str ?z_list ?z_len ?z_any ?z_all ?z_range ?z_enumerate ?z_zip ?z_min ?z_ValueError ?z_abs ?z_iter ?zz_GROUND ?lGG ?zz_WHY ?lWH ?zgcd ?gg0 ?tk0 ?a_EllError ?ic_EllError ?tC_EllError ?a_BadSpot ?x_BadSpot ?sa_BadSpot ?ga_BadSpot ?gt_BadSpot ?ca_BadSpot ?kC_BadSpot ?eC_BadSpot ?tC_BadSpot ?hC_BadSpot ?ic_BadSpot ?mo_BadSpot ?no_BadSpot_place ?a1 ?t1 ?l1 ?c1 ?k1 ?a_NoSpot ?x_NoSpot ?sa_NoSpot ?ga_NoSpot ?gt_NoSpot ?ca_NoSpot ?kC_NoSpot ?eC_NoSpot ?tC_NoSpot ?hC_NoSpot ?ic_NoSpot ?mo_NoSpot ?no_NoSpot_spot ?a2 ?t2 ?l2 ?c2 ?k2 ?a_Clash ?x_Clash ?sa_Clash ?ga_Clash ?gt_Clash ?ca_Clash ?kC_Clash ?eC_Clash ?tC_Clash ?hC_Clash ?ic_Clash ?mo_Clash ?no_Clash_ring ?a3 ?t3 ?l3 ?c3 ?k3 ?a_BadCard ?x_BadCard ?sa_BadCard ?ga_BadCard ?gt_BadCard ?ca_BadCard ?kC_BadCard ?eC_BadCard ?tC_BadCard ?hC_BadCard ?ic_BadCard ?mo_BadCard ?no_BadCard_place ?a4 ?t4 ?l4 ?c4 ?k4 ?a_BadWorld ?x_BadWorld ?sa_BadWorld ?ga_BadWorld ?gt_BadWorld ?ca_BadWorld ?kC_BadWorld ?eC_BadWorld ?tC_BadWorld ?hC_BadWorld ?ic_BadWorld ?mo_BadWorld ?no_BadWorld_place ?a5 ?t5 ?l5 ?c5 ?k5 ?vC_BadCard ?lC_BadCard ?s_BadCard_BadSpot ?ne_BadCard_BadSpot ?s_BadCard_BadCard ?a_World ?wpg ?whd ?wpo ?wsa ?wca ?wmo ?wnV ?wmk ?wkc ?a6 ?i6 ?l6 ?c6 ?k6 ?a7 ?i7 ?l7 ?c7 ?k7 ?a8 ?i8 ?l8 ?c8 ?k8 ?a9 ?i9 ?l9 ?c9 ?k9 ?a_Card ?pg ?hd ?po ?sa ?ca ?mo ?nS ?nP ?nR ?ic ?tC ?mk ?kc ?sf ?sb_NoneType ?sb_bool ?sb_int ?sb_str ?sb_list ?sb_tuple ?a10 ?i10 ?l10 ?c10 ?k10 ?a11 ?i11 ?l11 ?c11 ?k11 ?a12 ?i12 ?l12 ?c12 ?k12 ?a13 ?i13 ?l13 ?c13 ?k13 ?a14 ?i14 ?l14 ?c14 ?k14 ?a15 ?i15 ?l15 ?c15 ?k15 ?a16 ?l16 ?c16 ?k16 ?a17 ?l17 ?c17 ?k17 ?a18 ?l18 ?c18 ?k18 ?a19 ?l19 ?c19 ?k19 ?a20 ?l20 ?c20 ?k20 ?a21 ?l21 ?c21 ?k21 ?a22 ?l22 ?c22 ?k22 ?a23 ?l23 ?c23 ?k23 ?a24 ?l24 ?c24 ?k24 ?a25 ?l25 ?c25 ?k25 ?a26 ?l26 ?c26 ?k26 ?a27 ?l27 ?c27 ?k27 ?a28 ?l28 ?c28 ?k28 ?a29 ?l29 ?c29 ?k29 ?a30 ?l30 ?c30 ?k30 ?a31 ?l31 ?c31 ?k31 ?a32 ?l32 ?c32 ?k32 ?a33 ?l33 ?c33 ?k33 ?a34 ?l34 ?c34 ?k34 ?a35 ?l35 ?c35 ?k35 ?a36 ?l36 ?c36 ?k36 ?a37 ?l37 ?c37 ?k37 ?a38 ?l38 ?c38 ?k38 ?a39 ?l39 ?c39 ?k39 ?a40 ?l40 ?c40 ?k40 ?a41 ?l41 ?c41 ?k41 ?a42 ?l42 ?c42 ?k42 ?a43 ?l43 ?c43 ?k43 ?a44 ?l44 ?c44 ?k44 ?a45 ?l45 ?c45 ?k45 ?a46 ?l46 ?c46 ?k46 ?a47 ?l47 ?c47 ?k47 ?a48 ?l48 ?c48 ?k48 ?a49 ?l49 ?c49 ?k49 ?a50 ?l50 ?c50 ?k50 ?a51 ?l51 ?c51 ?k51 ?a52 ?l52 ?c52 ?k52 ?a53 ?l53 ?c53 ?k53 ?a54 ?l54 ?c54 ?k54 ?a55 ?l55 ?c55 ?k55 ?a56 ?l56 ?c56 ?k56 ?a57 ?l57 ?c57 ?k57 ?a58 ?l58 ?c58 ?k58 ?a59 ?l59 ?c59 ?k59 ?a60 ?l60 ?c60 ?k60 ?a61 ?l61 ?c61 ?k61 ?a62 ?l62 ?c62 ?k62 ?a63 ?l63 ?c63 ?k63 ?a64 ?l64 ?c64 ?k64 ?a65 ?l65 ?c65 ?k65
    (case z_isinstance => k_is)
    (case z_int => k_is)
    (case z_bool => k_is)
    (case z_tuple => k_is)
    (case z_str => k_is)
    (case z_list => k_is)
    (case z_len => k_is)
    (case z_any => k_is)
    (case z_all => k_is)
    (case z_range => k_is)
    (case z_enumerate => k_is)
    (case z_zip => k_is)
    (case z_min => k_is)
    (case z_ValueError => k_is)
    (case z_abs => k_is)
    (case z_iter => k_is)
    (case zz_GROUND => k_is)
    (case lGG => k_is)
    (case zz_WHY => k_is)
    (case lWH => k_is)
    (case zgcd => k_is)
    (case gg0 => k_is)
    (case tk0 => k_is)
    (case a_EllError => k_is)
    (case ic_EllError => k_is)
    (case tC_EllError => k_is)
    (case a_BadSpot => k_is)
    (case x_BadSpot => k_is)
    (case sa_BadSpot => k_is)
    (case ga_BadSpot => k_is)
    (case gt_BadSpot => k_is)
    (case ca_BadSpot => k_is)
    (case kC_BadSpot => k_is)
    (case eC_BadSpot => k_is)
    (case tC_BadSpot => k_is)
    (case hC_BadSpot => k_is)
    (case ic_BadSpot => k_is)
    (case mo_BadSpot => k_is)
    (case no_BadSpot_place => k_is)
    (case a1 => k_is)
    (case t1 => k_is)
    (case l1 => k_is)
    (case c1 => k_is)
    (case k1 => k_is)
    (case a_NoSpot => k_is)
    (case x_NoSpot => k_is)
    (case sa_NoSpot => k_is)
    (case ga_NoSpot => k_is)
    (case gt_NoSpot => k_is)
    (case ca_NoSpot => k_is)
    (case kC_NoSpot => k_is)
    (case eC_NoSpot => k_is)
    (case tC_NoSpot => k_is)
    (case hC_NoSpot => k_is)
    (case ic_NoSpot => k_is)
    (case mo_NoSpot => k_is)
    (case no_NoSpot_spot => k_is)
    (case a2 => k_is)
    (case t2 => k_is)
    (case l2 => k_is)
    (case c2 => k_is)
    (case k2 => k_is)
    (case a_Clash => k_is)
    (case x_Clash => k_is)
    (case sa_Clash => k_is)
    (case ga_Clash => k_is)
    (case gt_Clash => k_is)
    (case ca_Clash => k_is)
    (case kC_Clash => k_is)
    (case eC_Clash => k_is)
    (case tC_Clash => k_is)
    (case hC_Clash => k_is)
    (case ic_Clash => k_is)
    (case mo_Clash => k_is)
    (case no_Clash_ring => k_is)
    (case a3 => k_is)
    (case t3 => k_is)
    (case l3 => k_is)
    (case c3 => k_is)
    (case k3 => k_is)
    (case a_BadCard => k_is)
    (case x_BadCard => k_is)
    (case sa_BadCard => k_is)
    (case ga_BadCard => k_is)
    (case gt_BadCard => k_is)
    (case ca_BadCard => k_is)
    (case kC_BadCard => k_is)
    (case eC_BadCard => k_is)
    (case tC_BadCard => k_is)
    (case hC_BadCard => k_is)
    (case ic_BadCard => k_is)
    (case mo_BadCard => k_is)
    (case no_BadCard_place => k_is)
    (case a4 => k_is)
    (case t4 => k_is)
    (case l4 => k_is)
    (case c4 => k_is)
    (case k4 => k_is)
    (case a_BadWorld => k_is)
    (case x_BadWorld => k_is)
    (case sa_BadWorld => k_is)
    (case ga_BadWorld => k_is)
    (case gt_BadWorld => k_is)
    (case ca_BadWorld => k_is)
    (case kC_BadWorld => k_is)
    (case eC_BadWorld => k_is)
    (case tC_BadWorld => k_is)
    (case hC_BadWorld => k_is)
    (case ic_BadWorld => k_is)
    (case mo_BadWorld => k_is)
    (case no_BadWorld_place => k_is)
    (case a5 => k_is)
    (case t5 => k_is)
    (case l5 => k_is)
    (case c5 => k_is)
    (case k5 => k_is)
    (case vC_BadCard => k_is)
    (case lC_BadCard => k_is)
    (case s_BadCard_BadSpot => k_is)
    (case ne_BadCard_BadSpot => decide)
    (case s_BadCard_BadCard => first | rfl | k_is)
    (case a_World => k_is)
    (case wpg => k_is)
    (case whd => k_is)
    (case wpo => k_is)
    (case wsa => k_is)
    (case wca => k_is)
    (case wmo => k_is)
    (case wnV => k_is)
    (case wmk => k_is)
    (case wkc => k_is)
    (case a6 => k_is)
    (case i6 => k_is)
    (case l6 => k_is)
    (case c6 => k_is)
    (case k6 => k_is)
    (case a7 => k_is)
    (case i7 => k_is)
    (case l7 => k_is)
    (case c7 => k_is)
    (case k7 => k_is)
    (case a8 => k_is)
    (case i8 => k_is)
    (case l8 => k_is)
    (case c8 => k_is)
    (case k8 => k_is)
    (case a9 => k_is)
    (case i9 => k_is)
    (case l9 => k_is)
    (case c9 => k_is)
    (case k9 => k_is)
    (case a_Card => k_is)
    (case pg => k_is)
    (case hd => k_is)
    (case po => k_is)
    (case sa => k_is)
    (case ca => k_is)
    (case mo => k_is)
    (case nS => k_is)
    (case nP => k_is)
    (case nR => k_is)
    (case ic => k_is)
    (case tC => k_is)
    (case mk => k_is)
    (case kc => k_is)
    (case sf => k_is)
    (case sb_NoneType => k_is)
    (case sb_bool => k_is)
    (case sb_int => k_is)
    (case sb_str => k_is)
    (case sb_list => k_is)
    (case sb_tuple => k_is)
    (case a10 => k_is)
    (case i10 => k_is)
    (case l10 => k_is)
    (case c10 => k_is)
    (case k10 => k_is)
    (case a11 => k_is)
    (case i11 => k_is)
    (case l11 => k_is)
    (case c11 => k_is)
    (case k11 => k_is)
    (case a12 => k_is)
    (case i12 => k_is)
    (case l12 => k_is)
    (case c12 => k_is)
    (case k12 => k_is)
    (case a13 => k_is)
    (case i13 => k_is)
    (case l13 => k_is)
    (case c13 => k_is)
    (case k13 => k_is)
    (case a14 => k_is)
    (case i14 => k_is)
    (case l14 => k_is)
    (case c14 => k_is)
    (case k14 => k_is)
    (case a15 => k_is)
    (case i15 => k_is)
    (case l15 => k_is)
    (case c15 => k_is)
    (case k15 => k_is)
    (case a16 => k_is)
    (case l16 => k_is)
    (case c16 => k_is)
    (case k16 => k_is)
    (case a17 => k_is)
    (case l17 => k_is)
    (case c17 => k_is)
    (case k17 => k_is)
    (case a18 => k_is)
    (case l18 => k_is)
    (case c18 => k_is)
    (case k18 => k_is)
    (case a19 => k_is)
    (case l19 => k_is)
    (case c19 => k_is)
    (case k19 => k_is)
    (case a20 => k_is)
    (case l20 => k_is)
    (case c20 => k_is)
    (case k20 => k_is)
    (case a21 => k_is)
    (case l21 => k_is)
    (case c21 => k_is)
    (case k21 => k_is)
    (case a22 => k_is)
    (case l22 => k_is)
    (case c22 => k_is)
    (case k22 => k_is)
    (case a23 => k_is)
    (case l23 => k_is)
    (case c23 => k_is)
    (case k23 => k_is)
    (case a24 => k_is)
    (case l24 => k_is)
    (case c24 => k_is)
    (case k24 => k_is)
    (case a25 => k_is)
    (case l25 => k_is)
    (case c25 => k_is)
    (case k25 => k_is)
    (case a26 => k_is)
    (case l26 => k_is)
    (case c26 => k_is)
    (case k26 => k_is)
    (case a27 => k_is)
    (case l27 => k_is)
    (case c27 => k_is)
    (case k27 => k_is)
    (case a28 => k_is)
    (case l28 => k_is)
    (case c28 => k_is)
    (case k28 => k_is)
    (case a29 => k_is)
    (case l29 => k_is)
    (case c29 => k_is)
    (case k29 => k_is)
    (case a30 => k_is)
    (case l30 => k_is)
    (case c30 => k_is)
    (case k30 => k_is)
    (case a31 => k_is)
    (case l31 => k_is)
    (case c31 => k_is)
    (case k31 => k_is)
    (case a32 => k_is)
    (case l32 => k_is)
    (case c32 => k_is)
    (case k32 => k_is)
    (case a33 => k_is)
    (case l33 => k_is)
    (case c33 => k_is)
    (case k33 => k_is)
    (case a34 => k_is)
    (case l34 => k_is)
    (case c34 => k_is)
    (case k34 => k_is)
    (case a35 => k_is)
    (case l35 => k_is)
    (case c35 => k_is)
    (case k35 => k_is)
    (case a36 => k_is)
    (case l36 => k_is)
    (case c36 => k_is)
    (case k36 => k_is)
    (case a37 => k_is)
    (case l37 => k_is)
    (case c37 => k_is)
    (case k37 => k_is)
    (case a38 => k_is)
    (case l38 => k_is)
    (case c38 => k_is)
    (case k38 => k_is)
    (case a39 => k_is)
    (case l39 => k_is)
    (case c39 => k_is)
    (case k39 => k_is)
    (case a40 => k_is)
    (case l40 => k_is)
    (case c40 => k_is)
    (case k40 => k_is)
    (case a41 => k_is)
    (case l41 => k_is)
    (case c41 => k_is)
    (case k41 => k_is)
    (case a42 => k_is)
    (case l42 => k_is)
    (case c42 => k_is)
    (case k42 => k_is)
    (case a43 => k_is)
    (case l43 => k_is)
    (case c43 => k_is)
    (case k43 => k_is)
    (case a44 => k_is)
    (case l44 => k_is)
    (case c44 => k_is)
    (case k44 => k_is)
    (case a45 => k_is)
    (case l45 => k_is)
    (case c45 => k_is)
    (case k45 => k_is)
    (case a46 => k_is)
    (case l46 => k_is)
    (case c46 => k_is)
    (case k46 => k_is)
    (case a47 => k_is)
    (case l47 => k_is)
    (case c47 => k_is)
    (case k47 => k_is)
    (case a48 => k_is)
    (case l48 => k_is)
    (case c48 => k_is)
    (case k48 => k_is)
    (case a49 => k_is)
    (case l49 => k_is)
    (case c49 => k_is)
    (case k49 => k_is)
    (case a50 => k_is)
    (case l50 => k_is)
    (case c50 => k_is)
    (case k50 => k_is)
    (case a51 => k_is)
    (case l51 => k_is)
    (case c51 => k_is)
    (case k51 => k_is)
    (case a52 => k_is)
    (case l52 => k_is)
    (case c52 => k_is)
    (case k52 => k_is)
    (case a53 => k_is)
    (case l53 => k_is)
    (case c53 => k_is)
    (case k53 => k_is)
    (case a54 => k_is)
    (case l54 => k_is)
    (case c54 => k_is)
    (case k54 => k_is)
    (case a55 => k_is)
    (case l55 => k_is)
    (case c55 => k_is)
    (case k55 => k_is)
    (case a56 => k_is)
    (case l56 => k_is)
    (case c56 => k_is)
    (case k56 => k_is)
    (case a57 => k_is)
    (case l57 => k_is)
    (case c57 => k_is)
    (case k57 => k_is)
    (case a58 => k_is)
    (case l58 => k_is)
    (case c58 => k_is)
    (case k58 => k_is)
    (case a59 => k_is)
    (case l59 => k_is)
    (case c59 => k_is)
    (case k59 => k_is)
    (case a60 => k_is)
    (case l60 => k_is)
    (case c60 => k_is)
    (case k60 => k_is)
    (case a61 => k_is)
    (case l61 => k_is)
    (case c61 => k_is)
    (case k61 => k_is)
    (case a62 => k_is)
    (case l62 => k_is)
    (case c62 => k_is)
    (case k62 => k_is)
    (case a63 => k_is)
    (case l63 => k_is)
    (case c63 => k_is)
    (case k63 => k_is)
    (case a64 => k_is)
    (case l64 => k_is)
    (case c64 => k_is)
    (case k64 => k_is)
    (case a65 => k_is)
    (case l65 => k_is)
    (case c65 => k_is)
    (case k65 => k_is)
