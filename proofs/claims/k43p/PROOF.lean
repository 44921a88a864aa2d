import PyProof.Rows.All
import HandS.ForMost
import HandS.OwnEq
import HandS.SlotsOwn
import HandS.Gcd
import KE.KOpsOwn
import HandS.Flow
import HandS.Property
import HandS.Defaults
import HandS.MakeKw
import HandS.ClsMeth
import HandS.More
import HandS.IsInst
import HandS.FStr
import HandS.RaiseMore
import HandS.Wide
import HandS.WideBits
import HandS.Style
import HandS.TupLe
import KE.KCallOwn
import PyProof.ReprRoads
import HandS.Deep
import HandS.Ends
import PyProof.NeKinds
import PyProof.ReprNest
import HandS.Star
import KE.KMathGC
import PyProof.SliceList
import OpenK.AllK
import Wide.All
import Wide.FinOn
import Open.SpecLaws
import KE.OsGo
import PySem.Challenge.RW_soughtrows_k43_whole_courses_through_wor
set_option Elab.async false
set_option maxRecDepth 100000
set_option maxHeartbeats 8000000
set_option linter.all false
/-! The data layer: values as data (numbers, texts, lists, tuples, objects), defs as functions of data; over the hand layer's judgements. -/
namespace Dl
open PySem L2

/-- a value as data -/
inductive D where
  | non | bl (b : Bool) | int (i : Int) | str (s : Str) | lst (xs : List D) | tup (xs : List D) | obj (c : Nat) (fs : List D) | cls (c : Nat) | scr (ns : List Int)
/-- no plain value: an own class itself; the law's script -/
def isC : D → Bool
  | .cls _ => true | .scr _ => true | _ => false
/-- the own classes: where class c stands, its attributes in the order in which they are stored -/
structure CT where
  cl : Nat → Option (Addr × List Str)
  /-- lists of ints among the module's own objects -/
  sc : Addr → List Int → Prop
instance : CoeFun CT fun _ => Nat → Option (Addr × List Str) := ⟨CT.cl⟩

mutual
/-- v bears d in H, by objects that S does not hold -/
def Rep (T : CT) (H : Hp) (S : Addr → Prop) : D → V → Prop
  | .non, v => v = .non
  | .bl b, v => v = .bl b
  | .int i, v => v = .int i
  | .str s, v => v = .str s
  | .lst ds, v => ∃ a vs, v = .ref a ∧ H a = some (.lst vs) ∧ ¬ S a ∧ Reps T H S ds vs
  | .tup ds, v => ∃ a vs, v = .ref a ∧ H a = some (.tup vs) ∧ ¬ S a ∧ Reps T H S ds vs
  | .obj c ds, v => ∃ a dx C ns vs, v = .ref a ∧ T c = some (C, ns) ∧ H a = some (.ins C dx (ns.zip vs)) ∧ ns.length = vs.length ∧ ¬ S a ∧ Reps T H S ds vs
  | .cls c, v => ∃ C ns, T c = some (C, ns) ∧ v = .ref C
  | .scr ns, v => ∃ a, v = .ref a ∧ (T.sc a ns ∨ ∃ o, H a = some (.frz o (.lst (ns.map V.int))) ∧ ¬ S a)
def Reps (T : CT) (H : Hp) (S : Addr → Prop) : List D → List V → Prop
  | [], vs => vs = []
  | d :: ds, vs => ∃ v r, vs = v :: r ∧ Rep T H S d v ∧ Reps T H S ds r
end

section
variable {T : CT} {H H' : Hp} {S S' : Addr → Prop}
mutual
theorem Rep.move (hk : ∀ b o, H b = some o → ¬ S b → H' b = some o) (hs : ∀ b, S' b → S b ∨ H b = none) : ∀ {d : D} {v : V}, Rep T H S d v → Rep T H' S' d v
  | .non, _, h => by simpa [Rep] using h
  | .bl _, _, h => by simpa [Rep] using h
  | .int _, _, h => by simpa [Rep] using h
  | .str _, _, h => by simpa [Rep] using h
  | .cls _, _, h => by rw [Rep] at h ⊢; exact h
  | .scr ns, v, h => by
    rw [Rep] at h ⊢
    obtain ⟨a, e, h | ⟨o, ha, na⟩⟩ := h
    · exact ⟨a, e, .inl h⟩
    · exact ⟨a, e, .inr ⟨o, hk _ _ ha na, fun z => (hs a z).elim na fun q => (by rw [q] at ha; cases ha)⟩⟩
  | .lst ds, v, h => by
    rw [Rep] at h ⊢
    obtain ⟨a, vs, e, ha, na, r⟩ := h
    exact ⟨a, vs, e, hk _ _ ha na, fun z => (hs a z).elim na fun q => (by rw [q] at ha; cases ha), Reps.move hk hs r⟩
  | .tup ds, v, h => by
    rw [Rep] at h ⊢
    obtain ⟨a, vs, e, ha, na, r⟩ := h
    exact ⟨a, vs, e, hk _ _ ha na, fun z => (hs a z).elim na fun q => (by rw [q] at ha; cases ha), Reps.move hk hs r⟩
  | .obj c ds, v, h => by
    rw [Rep] at h ⊢
    obtain ⟨a, dx, C, ns, vs, e, hc, ha, hl, na, r⟩ := h
    exact ⟨a, dx, C, ns, vs, e, hc, hk _ _ ha na, hl, fun z => (hs a z).elim na fun q => (by rw [q] at ha; cases ha), Reps.move hk hs r⟩
theorem Reps.move (hk : ∀ b o, H b = some o → ¬ S b → H' b = some o) (hs : ∀ b, S' b → S b ∨ H b = none) : ∀ {ds : List D} {vs : List V}, Reps T H S ds vs → Reps T H' S' ds vs
  | [], _, h => by simpa [Reps] using h
  | d :: ds, vs, h => by
    rw [Reps] at h ⊢
    obtain ⟨v, r, e, h1, h2⟩ := h
    exact ⟨v, r, e, Rep.move hk hs h1, Reps.move hk hs h2⟩
end
theorem Rep.same (hk : Same H H') {d : D} {v : V} (h : Rep T H S d v) : Rep T H' S d v := h.move (fun b o e _ => hk b o e) fun _ z => .inl z
theorem Reps.same (hk : Same H H') {d : List D} {v : List V} (h : Reps T H S d v) : Reps T H' S d v := h.move (fun b o e _ => hk b o e) fun _ z => .inl z
theorem Rep.sub (hs : ∀ b, S' b → S b) {d : D} {v : V} (h : Rep T H S d v) : Rep T H S' d v := h.move (fun _ _ e _ => e) fun b z => .inl (hs b z)
theorem Reps.sub (hs : ∀ b, S' b → S b) {d : List D} {v : List V} (h : Reps T H S d v) : Reps T H S' d v := h.move (fun _ _ e _ => e) fun b z => .inl (hs b z)
theorem Reps.length : ∀ {ds : List D} {vs : List V}, Reps T H S ds vs → vs.length = ds.length
  | [], _, h => by rw [Reps] at h; subst h; rfl
  | d :: ds, _, h => by
    rw [Reps] at h
    obtain ⟨v, r, e, _, h2⟩ := h
    subst e
    simp [Reps.length h2]
theorem Reps.get : ∀ {ds : List D} {vs : List V} {i : Nat} {d : D}, Reps T H S ds vs → ds[i]? = some d → ∃ v, vs[i]? = some v ∧ Rep T H S d v
  | [], _, _, _, _, e => by simp at e
  | d :: ds, _, i, d', h, e => by
    rw [Reps] at h
    obtain ⟨v, r, e1, h1, h2⟩ := h
    subst e1
    cases i with
    | zero => simp at e; subst e; exact ⟨v, rfl, h1⟩
    | succ i =>
      simp at e
      obtain ⟨w, q1, q2⟩ := Reps.get h2 e
      exact ⟨w, by simpa using q1, q2⟩
theorem Reps.getV : ∀ {ds : List D} {vs : List V} {i : Nat} {v : V}, Reps T H S ds vs → vs[i]? = some v → ∃ d, ds[i]? = some d ∧ Rep T H S d v := by
  intro ds vs i v h e
  have hl := h.length
  obtain ⟨hi, _⟩ := List.getElem?_eq_some_iff.mp e
  have hd : ds[i]? = some ds[i] := List.getElem?_eq_getElem (by omega)
  obtain ⟨w, q1, q2⟩ := h.get hd
  rw [e] at q1; cases q1
  exact ⟨_, hd, q2⟩
theorem Reps.nil : Reps T H S [] [] := by rw [Reps]
theorem Reps.cons {d : D} {v : V} {ds : List D} {vs : List V} (h : Rep T H S d v) (hs : Reps T H S ds vs) : Reps T H S (d :: ds) (v :: vs) := by rw [Reps]; exact ⟨v, vs, rfl, h, hs⟩
theorem Reps.append : ∀ {ds es : List D} {vs ws : List V}, Reps T H S ds vs → Reps T H S es ws → Reps T H S (ds ++ es) (vs ++ ws)
  | [], _, _, _, h, h' => by rw [Reps] at h; subst h; exact h'
  | d :: ds, _, _, _, h, h' => by
    rw [Reps] at h
    obtain ⟨v, r, e, h1, h2⟩ := h
    subst e
    exact Reps.cons h1 (Reps.append h2 h')
theorem Reps.take : ∀ {ds : List D} {vs : List V} (n : Nat), Reps T H S ds vs → Reps T H S (ds.take n) (vs.take n)
  | [], _, n, h => by rw [Reps] at h; subst h; simpa using Reps.nil
  | d :: ds, _, 0, h => by simpa using Reps.nil
  | d :: ds, _, n + 1, h => by
    rw [Reps] at h
    obtain ⟨v, r, e, h1, h2⟩ := h
    subst e
    exact Reps.cons h1 (Reps.take n h2)
theorem Reps.drop : ∀ {ds : List D} {vs : List V} (n : Nat), Reps T H S ds vs → Reps T H S (ds.drop n) (vs.drop n)
  | [], _, n, h => by rw [Reps] at h; subst h; simpa using Reps.nil
  | d :: ds, _, 0, h => by simpa using h
  | d :: ds, _, n + 1, h => by
    rw [Reps] at h
    obtain ⟨v, r, e, h1, h2⟩ := h
    subst e
    exact Reps.drop n h2
theorem Reps.set {d : D} {v : V} (r : Rep T H S d v) : ∀ {ds : List D} {vs : List V} (i : Nat), Reps T H S ds vs → Reps T H S (ds.set i d) (vs.set i v)
  | [], _, _, h => by rw [Reps] at h; subst h; simpa using Reps.nil
  | d' :: ds, _, 0, h => by
    rw [Reps] at h
    obtain ⟨v', r', e, h1, h2⟩ := h
    subst e
    exact Reps.cons r h2
  | d' :: ds, _, n + 1, h => by
    rw [Reps] at h
    obtain ⟨v', r', e, h1, h2⟩ := h
    subst e
    exact Reps.cons h1 (Reps.set r n h2)
theorem Reps.reverse {ds : List D} {vs : List V} (h : Reps T H S ds vs) : Reps T H S ds.reverse vs.reverse := by
  induction ds generalizing vs with
  | nil => rw [Reps] at h; subst h; exact Reps.nil
  | cons d ds ih =>
    rw [Reps] at h
    obtain ⟨v, r, e, h1, h2⟩ := h
    subst e
    simp only [List.reverse_cons]
    exact (ih h2).append (Reps.cons h1 Reps.nil)
end

/-! ### the slots -/
/-- what a name alone holds: a list of its own; the caller's list, handed in; an object that is being made -/
inductive Ow where
  | mine | pot | ini (C dx : Addr) (ns : List Str)
def hoOf : Ow → List V → HO
  | .mine, vs => .lst vs
  | .pot, vs => .lst vs
  | .ini C dx ns, vs => .ins C dx (ns.zip vs)
inductive Sl where
  /-- nothing is known -/
  | un
  | val (d : D)
  /-- what may change: it hangs on this name alone -/
  | own (p : Ow) (ds : List D)
abbrev Es := List Sl
def ownAt (σ : L2.St) (δ : Es) (b : Addr) : Prop := ∃ (i : Nat) (p : Ow) (ds : List D), δ[i]? = some (Sl.own p ds) ∧ σ[i]? = some (some (.ref b))
def Av (S0 : Addr → Prop) (σ : L2.St) (δ : Es) (b : Addr) : Prop := S0 b ∨ ownAt σ δ b

structure Ok (T : CT) (S0 : Addr → Prop) (σ : L2.St) (δ : Es) (H : Hp) : Prop where
  len : σ.length = δ.length
  tr : ∀ b, S0 b → ∃ o, H b = some o
  sl : ∀ (i : Nat) d, δ[i]? = some (.val d) → ∃ v, σ[i]? = some (some v) ∧ Rep T H (Av S0 σ δ) d v
  ow : ∀ (i : Nat) p ds, δ[i]? = some (.own p ds) → ∃ a vs, σ[i]? = some (some (.ref a)) ∧ H a = some (hoOf p vs) ∧ Reps T H (Av S0 σ δ) ds vs ∧ (p = .mine → ¬ S0 a)
  dj : ∀ (i j : Nat) p q ds es a, δ[i]? = some (.own p ds) → δ[j]? = some (.own q es) → σ[i]? = some (some (.ref a)) → σ[j]? = some (some (.ref a)) → i = j

structure Step (σ : L2.St) (δ : Es) (H : Hp) (σ' : L2.St) (δ' : Es) (H' : Hp) : Prop where
  keep : ∀ b o, H b = some o → ¬ ownAt σ δ b → H' b = some o
  own : ∀ b, ownAt σ' δ' b → ownAt σ δ b ∨ H b = none
  trk : ∀ b o, H b = some o → ∃ o', H' b = some o'
  pot : ∀ (i : Nat) p ds, p ≠ .mine → δ'[i]? = some (.own p ds) → (∃ ds', δ[i]? = some (.own p ds')) ∧ σ'[i]? = σ[i]?
section
variable {T : CT} {S0 : Addr → Prop} {σ σ1 σ2 : L2.St} {δ δ1 δ2 : Es} {H H1 H2 : Hp}
theorem Step.refl : Step σ δ H σ δ H := ⟨fun _ _ e _ => e, fun _ z => .inl z, fun _ o e => ⟨o, e⟩, fun _ _ ds _ e => ⟨⟨ds, e⟩, rfl⟩⟩
theorem Step.trans (a : Step σ δ H σ1 δ1 H1) (b : Step σ1 δ1 H1 σ2 δ2 H2) : Step σ δ H σ2 δ2 H2 where
  keep := fun c o e n => b.keep c o (a.keep c o e n) fun z => (a.own c z).elim n fun q => by rw [q] at e; cases e
  own := fun c z => (b.own c z).elim (a.own c) fun q => by
    cases e : H c with
    | none => exact .inr rfl
    | some o =>
      obtain ⟨o', e'⟩ := a.trk c o e
      rw [q] at e'; cases e'
  trk := fun c o e => by
    obtain ⟨o1, e1⟩ := a.trk c o e
    exact b.trk c o1 e1
  pot := fun i p ds hp e => by
    obtain ⟨⟨es, e1⟩, q1⟩ := b.pot i p ds hp e
    obtain ⟨z, q2⟩ := a.pot i p es hp e1
    exact ⟨z, q1.trans q2⟩
theorem Step.same (h : Same H H1) : Step σ δ H σ δ H1 := ⟨fun b o e _ => h b o e, fun _ z => .inl z, fun b o e => ⟨o, h b o e⟩, fun _ _ ds _ e => ⟨⟨ds, e⟩, rfl⟩⟩
theorem Ok.trk (k : Ok T S0 σ δ H) {b : Addr} (h : Av S0 σ δ b) : ∃ o, H b = some o := by
  rcases h with h | ⟨i, p, ds, e1, e2⟩
  · exact k.tr b h
  · obtain ⟨a, vs, e3, e4, _⟩ := k.ow i p ds e1
    rw [e2] at e3; cases e3
    exact ⟨_, e4⟩
theorem Ok.fresh (k : Ok T S0 σ δ H) {b : Addr} (h : H b = none) : ¬ Av S0 σ δ b := fun z => by
  obtain ⟨o, e⟩ := k.trk z
  rw [h] at e; cases e
theorem Ok.same (k : Ok T S0 σ δ H) (h : Same H H1) : Ok T S0 σ δ H1 where
  len := k.len
  tr := fun b z => let ⟨o, e⟩ := k.tr b z; ⟨o, h b o e⟩
  sl := fun i d e => let ⟨v, e1, r⟩ := k.sl i d e; ⟨v, e1, r.same h⟩
  ow := fun i p ds e => let ⟨a, vs, e1, e2, r, n⟩ := k.ow i p ds e; ⟨a, vs, e1, h _ _ e2, r.same h, n⟩
  dj := k.dj
/-- a value that was read stays what it is -/
theorem Step.rep (s : Step σ δ H σ1 δ1 H1) {d : D} {v : V} (h : Rep T H (Av S0 σ δ) d v) : Rep T H1 (Av S0 σ1 δ1) d v :=
  h.move (fun b o e n => s.keep b o e fun z => n (.inr z)) fun b z => z.elim (fun z => .inl (.inl z)) fun z => (s.own b z).elim (fun z => .inl (.inr z)) .inr
theorem Step.reps (s : Step σ δ H σ1 δ1 H1) {d : List D} {v : List V} (h : Reps T H (Av S0 σ δ) d v) : Reps T H1 (Av S0 σ1 δ1) d v :=
  h.move (fun b o e n => s.keep b o e fun z => n (.inr z)) fun b z => z.elim (fun z => .inl (.inl z)) fun z => (s.own b z).elim (fun z => .inl (.inr z)) .inr
end

/-! ### the readings by data -/
abbrev FE := Es → Option (D × Es)
abbrev FA := Es → Option (List D × Es)
abbrev FT := Es → Option (Bool × Es)
def tD (T : CT) (f : FE) : TE := fun σ H Q => ∃ S0 δ d δ', Ok T S0 σ δ H ∧ f δ = some (d, δ') ∧ ∀ v H', Ok T S0 σ δ' H' → Step σ δ H σ δ' H' → Rep T H' (Av S0 σ δ') d v → Q v H'
def tDs (T : CT) (f : FA) : TA := fun σ H Q => ∃ S0 δ ds δ', Ok T S0 σ δ H ∧ f δ = some (ds, δ') ∧ ∀ vs H', Ok T S0 σ δ' H' → Step σ δ H σ δ' H' → Reps T H' (Av S0 σ δ') ds vs → Q vs H'
def tDt (T : CT) (f : FT) : TT := fun σ H Q => ∃ S0 δ d δ', Ok T S0 σ δ H ∧ f δ = some (d, δ') ∧ ∀ H', Ok T S0 σ δ' H' → Step σ δ H σ δ' H' → Q d H'
/-- how a statement ends -/
inductive Fl where
  | nx (δ : Es) | bk (δ : Es) | ct (δ : Es) | rt (d : D) (δ : Es)
abbrev FS := Es → Option Fl
def flQ (T : CT) (S0 : Addr → Prop) (σ : L2.St) (δ : Es) (H : Hp) (E : Ends) : Fl → Prop
  | .nx δ' => ∀ σ' H', Ok T S0 σ' δ' H' → Step σ δ H σ' δ' H' → E.nx σ' H'
  | .bk δ' => ∀ σ' H', Ok T S0 σ' δ' H' → Step σ δ H σ' δ' H' → E.bk σ' H'
  | .ct δ' => ∀ σ' H', Ok T S0 σ' δ' H' → Step σ δ H σ' δ' H' → E.ct σ' H'
  | .rt d δ' => ∀ v σ' H', Ok T S0 σ' δ' H' → Step σ δ H σ' δ' H' → Rep T H' (Av S0 σ' δ') d v → E.rt v H'
def tSt (T : CT) (g : FS) : TS := fun E σ H => ∃ S0 δ r, Ok T S0 σ δ H ∧ g δ = some r ∧ flQ T S0 σ δ H E r

section
variable {X : Cx} {T : CT}
theorem PE.imp {e : Expr} {t u : TE} (h : PE X e t) (i : ∀ σ H Q, u σ H Q → t σ H Q) : PE X e u := ⟨fun pins s σ H Q I q => h.run pins s σ H Q I (i σ H Q q)⟩
theorem PT.imp {e : Expr} {t u : TT} (h : PT X e t) (i : ∀ σ H Q, u σ H Q → t σ H Q) : PT X e u := ⟨fun pins s σ H Q I q => h.run pins s σ H Q I (i σ H Q q)⟩
theorem PW.imp {e : Expr} {t u : TT} (h : PW X e t) (i : ∀ σ H Q, u σ H Q → t σ H Q) : PW X e u := ⟨fun w pins s σ H Q I q => h.run w pins s σ H Q I (i σ H Q q)⟩
theorem PA.imp {e : List Expr} {t u : TA} (h : PA X e t) (i : ∀ σ H Q, u σ H Q → t σ H Q) : PA X e u := ⟨fun p pins s σ H Q I q => h.run p pins s σ H Q I (i σ H Q q)⟩
theorem PK.imp {e : List Keyword} {t u : TA} (h : PK X e t) (i : ∀ σ H Q, u σ H Q → t σ H Q) : PK X e u := ⟨fun p pins s σ H Q I q => h.run p pins s σ H Q I (i σ H Q q)⟩
theorem PS.imp {e : Stmt} {t u : TS} (h : PS X e t) (i : ∀ E σ H, u E σ H → t E σ H) : PS X e u := ⟨fun pins s σ H E I q => h.run pins s σ H E I (i E σ H q)⟩
theorem PSs.imp {e : List Stmt} {t u : TS} (h : PSs X e t) (i : ∀ E σ H, u E σ H → t E σ H) : PSs X e u := ⟨fun pins s σ H E I q => h.run pins s σ H E I (i E σ H q)⟩

/-- a constant -/
def fC (d : D) : FE := fun δ => some (d, δ)
def litV : D → Option V
  | .non => some .non | .bl b => some (.bl b) | .int i => some (.int i) | .str s => some (.str s) | _ => none
theorem rep_lit {H : Hp} {S : Addr → Prop} {d : D} {v : V} (h : litV d = some v) : Rep T H S d v := by
  cases d <;> simp [litV] at h <;> subst h <;> simp [Rep]
theorem pd_c {e : Expr} {d : D} {v : V} (h : PE X e (tC v)) (hl : litV d = some v := by rfl) : PE X e (tD T (fC d)) := PE.imp h fun σ H Q ⟨S0, δ, d', δ', ok, e, q⟩ => by
  cases e
  exact q v H ok Step.refl (rep_lit hl)
theorem pd_int {i j pos} : PE X (.Constant (.int i) j pos) (tD T (fC (.int i))) := pd_c pe_int
theorem pd_bl {i j pos} : PE X (.Constant (.bool i) j pos) (tD T (fC (.bl i))) := pd_c pe_bl
theorem pd_non {j pos} : PE X (.Constant .none j pos) (tD T (fC .non)) := pd_c pe_non
theorem pd_str {i j pos} : PE X (.Constant (.str i) j pos) (tD T (fC (.str i))) := pd_c pe_str

/-- a name -/
def fV (i : Nat) : FE := fun δ => match δ[i]? with
  | some (.val d) => some (d, δ)
  | some (.own .mine ds) => some (.lst ds, δ.set i (.val (.lst ds)))
  | _ => none
theorem Ok.freeze {S0 : Addr → Prop} {σ : L2.St} {δ : Es} {H : Hp} {i : Nat} {ds : List D} (k : Ok T S0 σ δ H) (e : δ[i]? = some (.own .mine ds)) :
    ∃ v, σ[i]? = some (some v) ∧ Rep T H (Av S0 σ (δ.set i (.val (.lst ds)))) (.lst ds) v ∧ Ok T S0 σ (δ.set i (.val (.lst ds))) H ∧ Step σ δ H σ (δ.set i (.val (.lst ds))) H := by
  obtain ⟨a, vs, e1, e2, r, na⟩ := k.ow i .mine ds e
  have hi : i < δ.length := (List.getElem?_eq_some_iff.mp e).1
  have own' : ∀ b, ownAt σ (δ.set i (.val (.lst ds))) b → ownAt σ δ b ∧ b ≠ a := fun b ⟨j, p, es, h1, h2⟩ => by
    have hj : j ≠ i := fun z => by
      subst z
      rw [List.getElem?_set_self hi] at h1; cases h1
    rw [List.getElem?_set_ne (Ne.symm hj)] at h1
    refine ⟨⟨j, p, es, h1, h2⟩, fun z => ?_⟩
    subst z
    exact hj (k.dj j i p .mine es ds b h1 e h2 e1)
  have sub : ∀ b, Av S0 σ (δ.set i (.val (.lst ds))) b → Av S0 σ δ b := fun b z => z.elim .inl fun z => .inr (own' b z).1
  have rep : Rep T H (Av S0 σ (δ.set i (.val (.lst ds)))) (.lst ds) (.ref a) := by
    rw [Rep]
    exact ⟨a, vs, rfl, e2, fun z => z.elim (na rfl) fun z => (own' a z).2 rfl, r.sub sub⟩
  refine ⟨_, e1, rep, ⟨by rw [List.length_set]; exact k.len, k.tr, fun j d h => ?_, fun j p es h => ?_, fun j l p q es fs b h1 h2 h3 h4 => ?_⟩, ⟨fun _ _ z _ => z, fun b z => .inl (own' b z).1, fun _ o z => ⟨o, z⟩, fun j p ds' _ h => ?_⟩⟩
  · by_cases hj : j = i
    · subst hj
      rw [List.getElem?_set_self hi] at h; cases h
      exact ⟨_, e1, rep⟩
    · rw [List.getElem?_set_ne (Ne.symm hj)] at h
      obtain ⟨v, q1, q2⟩ := k.sl j d h
      exact ⟨v, q1, q2.sub sub⟩
  · by_cases hj : j = i
    · subst hj
      rw [List.getElem?_set_self hi] at h; cases h
    · rw [List.getElem?_set_ne (Ne.symm hj)] at h
      obtain ⟨b, ws, q1, q2, q3, q4⟩ := k.ow j p es h
      exact ⟨b, ws, q1, q2, q3.sub sub, q4⟩
  · have hj : j ≠ i := fun z => by
      subst z
      rw [List.getElem?_set_self hi] at h1; cases h1
    have hl : l ≠ i := fun z => by
      subst z
      rw [List.getElem?_set_self hi] at h2; cases h2
    rw [List.getElem?_set_ne (Ne.symm hj)] at h1
    rw [List.getElem?_set_ne (Ne.symm hl)] at h2
    exact k.dj j l p q es fs b h1 h2 h3 h4
  · by_cases hj : j = i
    · subst hj
      rw [List.getElem?_set_self hi] at h; cases h
    · rw [List.getElem?_set_ne (Ne.symm hj)] at h
      exact ⟨⟨_, h⟩, rfl⟩
theorem pd_v (i : Nat) {x : Str} {pos : Pos} (hN : X.N[i]? = some x := by rfl) (hv : Vis X.env.scope x := by first | exact Or.inl rfl | exact Or.inr (Or.inl rfl) | exact Or.inr (Or.inr rfl)) (hd : (x == ("__debug__" : Str)) = false := by decide)
    (hcd : (x == ("__classdict__" : Str)) = false := by decide) : PE X (.Name x pos) (tD T (fV i)) := PE.imp (pe_var hN hv hd hcd) fun σ H Q ⟨S0, δ, d, δ', ok, e, q⟩ => by
  unfold fV at e
  cases h : δ[i]? with
  | none => rw [h] at e; cases e
  | some s =>
    rw [h] at e
    cases s with
    | un => cases e
    | val d' =>
      cases e
      obtain ⟨v, e1, r⟩ := ok.sl i _ h
      exact ⟨v, e1, q v H ok Step.refl r⟩
    | own p ds =>
      cases p with
      | pot => cases e
      | ini _ _ _ => cases e
      | mine =>
        cases e
        obtain ⟨v, e1, r, ok', st⟩ := ok.freeze h
        exact ⟨v, e1, q v H ok' st r⟩

/-! arguments -/
def fNil : FA := fun δ => some ([], δ)
def fCons (f : FE) (g : FA) : FA := fun δ => (f δ).bind fun (d, δ1) => (g δ1).bind fun (ds, δ2) => some (d :: ds, δ2)
theorem bind_some2 {α β γ : Type} {o : Option (α × β)} {k : α × β → Option γ} {c : γ} (h : o.bind k = some c) : ∃ a b, o = some (a, b) ∧ k (a, b) = some c := by
  cases o with
  | none => cases h
  | some p => exact ⟨p.1, p.2, rfl, h⟩
theorem pds_nil : PA X [] (tDs T fNil) := PA.imp pa_nil fun σ H Q ⟨S0, δ, ds, δ', ok, e, q⟩ => by
  cases e
  exact q [] H ok Step.refl Reps.nil
theorem pds_cons {e : Expr} {es : List Expr} {f : FE} {g : FA} (h1 : PE X e (tD T f)) (h2 : PA X es (tDs T g))
    (he : starEach (e :: es) X.env = (false, eval e X.env) :: starEach es X.env := by rfl) : PA X (e :: es) (tDs T (fCons f g)) := PA.imp (pa_cons h1 h2 he) fun σ H Q ⟨S0, δ, ds, δ', ok, e, q⟩ => by
  obtain ⟨d, δ1, e1, e⟩ := bind_some2 e
  obtain ⟨dr, δ2, e2, e⟩ := bind_some2 e
  cases e
  exact ⟨S0, δ, d, δ1, ok, e1, fun v H1 ok1 s1 r1 => ⟨S0, δ1, dr, δ', ok1, e2, fun vs H2 ok2 s2 r2 => q _ H2 ok2 (s1.trans s2) (Reps.cons (s2.rep r1) r2)⟩⟩
end
end Dl
/-! own operators: an instance on the left, on the right of an int, in front -/
namespace OwB
open PySem PySem.W PySem.SeqAt PyProof.Rows
open AutoSeq1 (wpAny_loadPart')
section
variable {prog : Program} {w : World} {M : Model} {A : Around} {E : Value → Shared → Prop} {s : Shared} {K : Frag} {x y C f : Addr} {h₀ : Heap} {m : Str → Option Value} {ox : Obj} {od : Option Obj} {nm T : String}

/-- both of one own class -/
theorem bin_same {op : Operator} {Q : Value → Shared → Prop} {oy : Obj} {ody : Option Obj} (X : K.In s.heap) (I : InstAt s.heap x ox C od) (J : InstAt s.heap y oy C ody) (hc : selfFirst K C = true)
    (hs : findIn K (.ref C) (PySem.dunder op.info.2) = some (some (.ref f))) (hf : isFn K (.ref f) = true)
    (h : wpAny (model prog w) A (call (.ref f) [.ref x, .ref y]) (PySem.W.CmpBack Q) E s) : wpAny (model prog w) A (binaryOp op (.ref x) (.ref y)) Q E s := by
  obtain ⟨cd, rest, hcd, hm⟩ := ksp_first hc
  rcases hi : op.info with ⟨sym, nm'⟩
  rw [hi] at hs
  dsimp only at hs
  have one := ksp_try X I hs hf h
  obtain ⟨hh, g, d, tt, os⟩ := s
  have L1 : Looks (model prog w) hh (typeOf (.ref x)) (.ref C) := I.type
  have L2 : Looks (model prog w) hh (typeOf (.ref y)) (.ref C) := J.type
  have L3 : Looks (model prog w) hh (fillsNumberSlot (.ref C) nm') true := fills_K X hcd hm hs
  simp only [binaryOp, hi]
  refine wpAny_holding (wpAny_bind ?_)
  unfold binaryOp1
  refine wpAny_bind (L1.at (wpAny_bind (L2.at (wpAny_bind (L3.at ?_)))))
  simp only [beq_self_eq_true, if_true]
  ksp_lk
  refine wpAny_mono one (fun r s' hr' => ?_) fun _ _ e => e
  obtain ⟨v, rfl, hq⟩ := hr'
  ksp_lk
  exact hq

theorem int_add_dec (b : Int) (u : Tok) (l C dx : Addr) : Meets (Builtin.«int.__add__» ⟨[.int b u, .ref l], []⟩) (fun _ R s => s.heap.get? l = some (instObj C dx) ∧ R (.ok (.ret .notImplemented)) s) :=
  .of_wp fun prog w A R s h => by obtain ⟨hp, g, d, tk, os⟩ := s; obtain ⟨hl, h⟩ := h; wp_walk using wpAny_loadPart' hl, wpAny_load hl; exact ⟨_, rfl, h⟩
theorem int_sub_dec (b : Int) (u : Tok) (l C dx : Addr) : Meets (Builtin.«int.__sub__» ⟨[.int b u, .ref l], []⟩) (fun _ R s => s.heap.get? l = some (instObj C dx) ∧ R (.ok (.ret .notImplemented)) s) :=
  .of_wp fun prog w A R s h => by obtain ⟨hp, g, d, tk, os⟩ := s; obtain ⟨hl, h⟩ := h; wp_walk using wpAny_loadPart' hl, wpAny_load hl; exact ⟨_, rfl, h⟩
theorem int_mul_dec (b : Int) (u : Tok) (l C dx : Addr) : Meets (Builtin.«int.__mul__» ⟨[.int b u, .ref l], []⟩) (fun _ R s => s.heap.get? l = some (instObj C dx) ∧ R (.ok (.ret .notImplemented)) s) :=
  .of_wp fun prog w A R s h => by obtain ⟨hp, g, d, tk, os⟩ := s; obtain ⟨hl, h⟩ := h; wp_walk using wpAny_loadPart' hl, wpAny_load hl; exact ⟨_, rfl, h⟩

theorem try_dec {nm' id : String} {B : Builtin} {b : Int} {t : Tok} {l dx : Addr} {Q : Option Value → Shared → Prop} (slot : Slot "int" (PySem.dunder nm') id) (entry : entryFor table id = some B) (args : argsOk id ⟨[.int b t, .ref l], []⟩)
    (g : Meets (B ⟨[.int b t, .ref l], []⟩) (fun _ R s => s.heap.get? l = some (instObj C dx) ∧ R (.ok (.ret .notImplemented)) s)) (hl : s.heap.get? l = some (instObj C dx)) (h : Q none s) :
    wpAny (model prog w) A (tryMethod (.int b t) (PySem.dunder nm') (.ref l)) Q E s :=
  wpAny_tryMethod_declines (T := "int") rfl slot (call_meets slot rfl entry args g ⟨hl, ⟨rfl, h⟩⟩)

/-- an int on the left: its own slot declines, the class's reflected one answers -/
theorem bin_rev {op : Operator} {id : String} {B : Builtin} {b : Int} {t : Tok} {g dx : Addr} {Q : Value → Shared → Prop} {oy : Obj} {ody : Option Obj} (X : K.In s.heap) (J : InstAt s.heap y oy C ody) (hc : selfFirst K C = true)
    (hs : findIn K (.ref C) (PySem.dunder op.info.2) = some (some (.ref f))) (hr : findIn K (.ref C) (PySem.dunderR op.info.2) = some (some (.ref g))) (hf : isFn K (.ref g) = true) (hsub : subIn K (.ref C) (.type "int") = some false)
    (fills : fillsNumberSlot (.type "int") op.info.2 = pure true) (slot : Slot "int" (PySem.dunder op.info.2) id) (entry : entryFor table id = some B) (args : argsOk id ⟨[.int b t, .ref y], []⟩)
    (dec : Meets (B ⟨[.int b t, .ref y], []⟩) (fun _ R s => s.heap.get? y = some (instObj C dx) ∧ R (.ok (.ret .notImplemented)) s)) (hy : s.heap.get? y = some (instObj C dx))
    (h : wpAny (model prog w) A (call (.ref g) [.ref y, .int b t]) (PySem.W.CmpBack Q) E s) : wpAny (model prog w) A (binaryOp op (.int b t) (.ref y)) Q E s := by
  obtain ⟨cd, rest, hcd, hm⟩ := ksp_first hc
  rcases hi : op.info with ⟨sym, nm'⟩
  rw [hi] at hs hr fills slot
  dsimp only at hs hr fills slot
  have one := ksp_try X J hr hf h
  have two : ∀ Q' : Option Value → Shared → Prop, Q' none s → wpAny (model prog w) A (tryMethod (.int b t) (PySem.dunder nm') (.ref y)) Q' E s := fun Q' q => try_dec slot entry args dec hy q
  have L1 : Looks (model prog w) s.heap (typeOf (.int b t)) (.type "int") := Looks.of_pure rfl
  have L2 : Looks (model prog w) s.heap (typeOf (.ref y)) (.ref C) := J.type
  have L3 : Looks (model prog w) s.heap (fillsNumberSlot (.ref C) nm') true := fills_K X hcd hm hs
  have L4 : Looks (model prog w) s.heap (fillsNumberSlot (.type "int") nm') true := Looks.of_pure fills
  have L5 : Looks (model prog w) s.heap (isSubtype (.ref C) (.type "int")) false := looks_subIn X hsub
  have L6 : Looks (model prog w) s.heap (numberSlotInPython (.type "int") nm') false := Looks.of_pure rfl
  have hne : (Value.type "int" == Value.ref C) = false := Bool.eq_false_iff.mpr fun q => by cases beq_iff_eq.mp q
  simp only [binaryOp, hi]
  refine wpAny_holding (wpAny_bind ?_)
  unfold binaryOp1
  refine wpAny_bind (L1.here (wpAny_bind (L2.here (wpAny_bind (L4.here ?_)))))
  simp only [hne, Bool.false_eq_true, if_false]
  refine wpAny_bind (L3.here ?_)
  simp only [Bool.and_self, if_true]
  refine wpAny_bind (L5.here ?_)
  simp only [Bool.false_eq_true, if_false, pure_bind, Bool.not_false, Bool.and_self, if_true]
  refine wpAny_bind (L6.here ?_)
  simp only [Bool.false_eq_true, if_false, pure_bind, Bool.not_false, Bool.and_self, if_true]
  refine wpAny_bind (two _ ?_)
  simp only [Bool.false_eq_true, if_false, pure_bind, Bool.not_false, Bool.and_self, if_true]
  refine wpAny_bind (wpAny_mono one (fun r s' hr' => ?_) fun _ _ e => e)
  obtain ⟨v, rfl, hq⟩ := hr'
  exact wpAny_bind (wpAny_rule (wpAny_pure (wpAny_pure hq)))
end
end OwB
namespace Dl
open PySem L2
section
variable {T : CT} {S0 : Addr → Prop} {σ : L2.St} {δ : Es} {H H' : Hp}

theorem get_set {α : Type} {l : List α} {i j : Nat} {x y : α} (h : (l.set i x)[j]? = some y) : (j = i ∧ i < l.length ∧ y = x) ∨ (j ≠ i ∧ l[j]? = some y) := by
  by_cases e : j = i
  · subst e
    by_cases hl : j < l.length
    · rw [List.getElem?_set_self hl] at h
      exact .inl ⟨rfl, hl, (Option.some.inj h).symm⟩
    · rw [List.set_eq_of_length_le (Nat.le_of_not_lt hl)] at h
      exact absurd (List.getElem?_eq_some_iff.mp h).1 hl
  · rw [List.getElem?_set_ne (Ne.symm e)] at h
    exact .inr ⟨e, h⟩

/-- a name is stored -/
theorem Ok.store {i : Nat} {d : D} {v : V} (k : Ok T S0 σ δ H) (r : Rep T H (Av S0 σ δ) d v) :
    Ok T S0 (σ.set i (some v)) (δ.set i (.val d)) H ∧ Step σ δ H (σ.set i (some v)) (δ.set i (.val d)) H := by
  have own' : ∀ b, ownAt (σ.set i (some v)) (δ.set i (.val d)) b → ownAt σ δ b := fun b ⟨j, p, es, h1, h2⟩ => by
    rcases get_set h1 with ⟨_, _, z⟩ | ⟨hj, h1⟩
    · cases z
    · rw [List.getElem?_set_ne (Ne.symm hj)] at h2
      exact ⟨j, p, es, h1, h2⟩
  have sub : ∀ b, Av S0 (σ.set i (some v)) (δ.set i (.val d)) b → Av S0 σ δ b := fun b z => z.elim .inl fun z => .inr (own' b z)
  refine ⟨⟨by rw [List.length_set, List.length_set]; exact k.len, k.tr, fun j e h => ?_, fun j p es h => ?_, fun j l p q es fs b h1 h2 h3 h4 => ?_⟩, ⟨fun _ _ z _ => z, fun b z => .inl (own' b z), fun _ o z => ⟨o, z⟩, fun j p es hp h => ?_⟩⟩
  · rcases get_set h with ⟨rfl, hi, z⟩ | ⟨hj, h⟩
    · cases z
      rw [List.getElem?_set_self (by rw [k.len]; exact hi)]
      exact ⟨v, rfl, r.sub sub⟩
    · obtain ⟨w, q1, q2⟩ := k.sl j e h
      rw [List.getElem?_set_ne (Ne.symm hj)]
      exact ⟨w, q1, q2.sub sub⟩
  · rcases get_set h with ⟨_, _, z⟩ | ⟨hj, h⟩
    · cases z
    · obtain ⟨b, ws, q1, q2, q3, q4⟩ := k.ow j p es h
      rw [List.getElem?_set_ne (Ne.symm hj)]
      exact ⟨b, ws, q1, q2, q3.sub sub, q4⟩
  · rcases get_set h1 with ⟨_, _, z⟩ | ⟨hj, h1⟩
    · cases z
    rcases get_set h2 with ⟨_, _, z⟩ | ⟨hl, h2⟩
    · cases z
    rw [List.getElem?_set_ne (Ne.symm hj)] at h3
    rw [List.getElem?_set_ne (Ne.symm hl)] at h4
    exact k.dj j l p q es fs b h1 h2 h3 h4
  · rcases get_set h with ⟨_, _, z⟩ | ⟨hj, h⟩
    · cases z
    · rw [List.getElem?_set_ne (Ne.symm hj)]
      exact ⟨⟨es, h⟩, rfl⟩
/-- a name is stored whose value does not matter -/
theorem Ok.junk {i : Nat} {v : Option V} (k : Ok T S0 σ δ H) : Ok T S0 (σ.set i v) (δ.set i .un) H ∧ Step σ δ H (σ.set i v) (δ.set i .un) H := by
  have own' : ∀ b, ownAt (σ.set i v) (δ.set i .un) b → ownAt σ δ b := fun b ⟨j, p, es, h1, h2⟩ => by
    rcases get_set h1 with ⟨_, _, z⟩ | ⟨hj, h1⟩
    · cases z
    · rw [List.getElem?_set_ne (Ne.symm hj)] at h2
      exact ⟨j, p, es, h1, h2⟩
  have sub : ∀ b, Av S0 (σ.set i v) (δ.set i .un) b → Av S0 σ δ b := fun b z => z.elim .inl fun z => .inr (own' b z)
  refine ⟨⟨by rw [List.length_set, List.length_set]; exact k.len, k.tr, fun j e h => ?_, fun j p es h => ?_, fun j l p q es fs b h1 h2 h3 h4 => ?_⟩, ⟨fun _ _ z _ => z, fun b z => .inl (own' b z), fun _ o z => ⟨o, z⟩, fun j p es hp h => ?_⟩⟩
  · rcases get_set h with ⟨_, _, z⟩ | ⟨hj, h⟩
    · cases z
    · obtain ⟨w, q1, q2⟩ := k.sl j e h
      rw [List.getElem?_set_ne (Ne.symm hj)]
      exact ⟨w, q1, q2.sub sub⟩
  · rcases get_set h with ⟨_, _, z⟩ | ⟨hj, h⟩
    · cases z
    · obtain ⟨b, ws, q1, q2, q3, q4⟩ := k.ow j p es h
      rw [List.getElem?_set_ne (Ne.symm hj)]
      exact ⟨b, ws, q1, q2, q3.sub sub, q4⟩
  · rcases get_set h1 with ⟨_, _, z⟩ | ⟨hj, h1⟩
    · cases z
    rcases get_set h2 with ⟨_, _, z⟩ | ⟨hl, h2⟩
    · cases z
    rw [List.getElem?_set_ne (Ne.symm hj)] at h3
    rw [List.getElem?_set_ne (Ne.symm hl)] at h4
    exact k.dj j l p q es fs b h1 h2 h3 h4
  · rcases get_set h with ⟨_, _, z⟩ | ⟨hj, h⟩
    · cases z
    · rw [List.getElem?_set_ne (Ne.symm hj)]
      exact ⟨⟨es, h⟩, rfl⟩
/-- a new list becomes a name's own -/
theorem Ok.storeOwn {i : Nat} {ds : List D} {a : Addr} {vs : List V} (k : Ok T S0 σ δ H) (ha : H a = none) (r : Reps T H (Av S0 σ δ) ds vs) :
    Ok T S0 (σ.set i (some (.ref a))) (δ.set i (.own .mine ds)) (upd H a (.lst vs)) ∧ Step σ δ H (σ.set i (some (.ref a))) (δ.set i (.own .mine ds)) (upd H a (.lst vs)) := by
  have sm : Same H (upd H a (.lst vs)) := fun b o e => by rw [upd_ne (ne_of_none e ha)]; exact e
  have own' : ∀ b, ownAt (σ.set i (some (.ref a))) (δ.set i (.own .mine ds)) b → ownAt σ δ b ∨ b = a := fun b ⟨j, p, es, h1, h2⟩ => by
    rcases get_set h1 with ⟨rfl, hi, z⟩ | ⟨hj, h1⟩
    · rw [List.getElem?_set_self (by rw [k.len]; exact hi)] at h2
      cases h2
      exact .inr rfl
    · rw [List.getElem?_set_ne (Ne.symm hj)] at h2
      exact .inl ⟨j, p, es, h1, h2⟩
  have sub : ∀ b, Av S0 (σ.set i (some (.ref a))) (δ.set i (.own .mine ds)) b → Av S0 σ δ b ∨ H b = none := fun b z => z.elim (fun z => .inl (.inl z)) fun z => (own' b z).elim (fun z => .inl (.inr z)) fun z => .inr (by rw [z]; exact ha)
  have mv : ∀ {d : D} {v : V}, Rep T H (Av S0 σ δ) d v → Rep T (upd H a (.lst vs)) (Av S0 (σ.set i (some (.ref a))) (δ.set i (.own .mine ds))) d v := fun h => h.move (fun b o e _ => sm b o e) sub
  have mvs : ∀ {d : List D} {v : List V}, Reps T H (Av S0 σ δ) d v → Reps T (upd H a (.lst vs)) (Av S0 (σ.set i (some (.ref a))) (δ.set i (.own .mine ds))) d v := fun h => h.move (fun b o e _ => sm b o e) sub
  refine ⟨⟨by rw [List.length_set, List.length_set]; exact k.len, fun b z => let ⟨o, e⟩ := k.tr b z; ⟨o, sm b o e⟩, fun j e h => ?_, fun j p es h => ?_, fun j l p q es fs b h1 h2 h3 h4 => ?_⟩, ⟨fun b o z _ => sm b o z, fun b z => (own' b z).elim .inl fun z => .inr (by rw [z]; exact ha), fun b o z => ⟨o, sm b o z⟩, fun j p es hp h => ?_⟩⟩
  · rcases get_set h with ⟨_, _, z⟩ | ⟨hj, h⟩
    · cases z
    · obtain ⟨w, q1, q2⟩ := k.sl j e h
      rw [List.getElem?_set_ne (Ne.symm hj)]
      exact ⟨w, q1, mv q2⟩
  · rcases get_set h with ⟨rfl, hi, z⟩ | ⟨hj, h⟩
    · cases z
      rw [List.getElem?_set_self (by rw [k.len]; exact hi)]
      exact ⟨a, vs, rfl, upd_same, mvs r, fun _ z => by obtain ⟨o, e⟩ := k.tr a z; rw [ha] at e; cases e⟩
    · obtain ⟨b, ws, q1, q2, q3, q4⟩ := k.ow j p es h
      rw [List.getElem?_set_ne (Ne.symm hj)]
      exact ⟨b, ws, q1, sm _ _ q2, mvs q3, q4⟩
  · have na : ∀ {j : Nat} {p : Ow} {es : List D}, δ[j]? = some (.own p es) → σ[j]? = some (some (.ref a)) → False := fun {j p es} h1 h2 => by
      obtain ⟨b, ws, q1, q2, _⟩ := k.ow j p es h1
      rw [h2] at q1; cases q1
      rw [ha] at q2; cases q2
    rcases get_set h1 with ⟨rfl, hi, z⟩ | ⟨hj, h1'⟩
    · rw [List.getElem?_set_self (by rw [k.len]; exact hi)] at h3
      cases h3
      rcases get_set h2 with ⟨rfl, _, _⟩ | ⟨hl, h2'⟩
      · rfl
      · rw [List.getElem?_set_ne (Ne.symm hl)] at h4
        exact (na h2' h4).elim
    · rw [List.getElem?_set_ne (Ne.symm hj)] at h3
      rcases get_set h2 with ⟨rfl, hi, _⟩ | ⟨hl, h2'⟩
      · rw [List.getElem?_set_self (by rw [k.len]; exact hi)] at h4
        cases h4
        exact (na h1' h3).elim
      · rw [List.getElem?_set_ne (Ne.symm hl)] at h4
        exact k.dj j l p q es fs b h1' h2' h3 h4
  · rcases get_set h with ⟨_, _, z⟩ | ⟨hj, h⟩
    · cases z; exact absurd rfl hp
    · rw [List.getElem?_set_ne (Ne.symm hj)]
      exact ⟨⟨es, h⟩, rfl⟩
/-- a name's own list is changed -/
theorem Ok.change {i : Nat} {p : Ow} {ds ds' : List D} {a : Addr} {us : List V} (k : Ok T S0 σ δ H) (e : δ[i]? = some (.own p ds)) (ea : σ[i]? = some (some (.ref a)))
    (hk : ∀ b o, H b = some o → b ≠ a → H' b = some o) (ha : H' a = some (hoOf p us)) (r : Reps T H' (Av S0 σ δ) ds' us) :
    Ok T S0 σ (δ.set i (.own p ds')) H' ∧ Step σ δ H σ (δ.set i (.own p ds')) H' := by
  have hi : i < δ.length := (List.getElem?_eq_some_iff.mp e).1
  have oa : ownAt σ δ a := ⟨i, p, ds, e, ea⟩
  have own' : ∀ b, ownAt σ (δ.set i (.own p ds')) b → ownAt σ δ b := fun b ⟨j, q, es, h1, h2⟩ => by
    rcases get_set h1 with ⟨rfl, _, z⟩ | ⟨hj, h1⟩
    · exact ⟨j, p, ds, e, h2⟩
    · exact ⟨j, q, es, h1, h2⟩
  have sub : ∀ b, Av S0 σ (δ.set i (.own p ds')) b → Av S0 σ δ b := fun b z => z.elim .inl fun z => .inr (own' b z)
  have mv : ∀ {d : D} {v : V}, Rep T H (Av S0 σ δ) d v → Rep T H' (Av S0 σ (δ.set i (.own p ds'))) d v := fun h => h.move (fun b o z n => hk b o z fun q => n (.inr (by rw [q]; exact oa))) fun b z => .inl (sub b z)
  have mvs : ∀ {d : List D} {v : List V}, Reps T H (Av S0 σ δ) d v → Reps T H' (Av S0 σ (δ.set i (.own p ds'))) d v := fun h => h.move (fun b o z n => hk b o z fun q => n (.inr (by rw [q]; exact oa))) fun b z => .inl (sub b z)
  have trk : ∀ b o, H b = some o → ∃ o', H' b = some o' := fun b o z => by
    by_cases q : b = a
    · exact ⟨_, by rw [q]; exact ha⟩
    · exact ⟨o, hk b o z q⟩
  refine ⟨⟨by rw [List.length_set]; exact k.len, fun b z => let ⟨o, e⟩ := k.tr b z; trk b o e, fun j d h => ?_, fun j q es h => ?_, fun j l q1 q2 es fs b h1 h2 h3 h4 => ?_⟩, ⟨fun b o z n => hk b o z fun q => n (by rw [q]; exact oa), fun b z => .inl (own' b z), trk, fun j p es hp h => ?_⟩⟩
  · rcases get_set h with ⟨_, _, z⟩ | ⟨hj, h⟩
    · cases z
    · obtain ⟨w, q1, q2⟩ := k.sl j d h
      exact ⟨w, q1, mv q2⟩
  · rcases get_set h with ⟨rfl, _, z⟩ | ⟨hj, h⟩
    · cases z
      obtain ⟨b, ws, q1, _, _, q4⟩ := k.ow j p ds e
      rw [ea] at q1; cases q1
      exact ⟨a, us, ea, ha, r.sub sub, q4⟩
    · obtain ⟨b, ws, q1, q2, q3, q4⟩ := k.ow j q es h
      have nb : b ≠ a := fun z => hj (k.dj j i q p es ds a h e (by rw [q1, z]) ea)
      exact ⟨b, ws, q1, hk _ _ q2 nb, mvs q3, q4⟩
  · have g : ∀ {j : Nat} {q : Ow} {es : List D}, (δ.set i (.own p ds'))[j]? = some (.own q es) → ∃ q' es', δ[j]? = some (.own q' es') := fun {j q es} h => by
      rcases get_set h with ⟨rfl, _, _⟩ | ⟨_, h⟩
      · exact ⟨p, ds, e⟩
      · exact ⟨q, es, h⟩
    obtain ⟨_, _, g1⟩ := g h1
    obtain ⟨_, _, g2⟩ := g h2
    exact k.dj j l _ _ _ _ b g1 g2 h3 h4
  · rcases get_set h with ⟨rfl, _, z⟩ | ⟨hj, h⟩
    · cases z
      exact ⟨⟨ds, e⟩, rfl⟩
    · exact ⟨⟨es, h⟩, rfl⟩
end

section
variable {X : Cx} {T : CT}
/-- what a statement's end asks, seen from an earlier state -/
theorem flQ.back {S0 : Addr → Prop} {σ σ1 : L2.St} {δ δ1 : Es} {H H1 : Hp} {E : Ends} (st : Step σ δ H σ1 δ1 H1) : ∀ {r : Fl}, flQ T S0 σ δ H E r → flQ T S0 σ1 δ1 H1 E r
  | .nx _, q => fun σ' H' ok s => q σ' H' ok (st.trans s)
  | .bk _, q => fun σ' H' ok s => q σ' H' ok (st.trans s)
  | .ct _, q => fun σ' H' ok s => q σ' H' ok (st.trans s)
  | .rt _ _, q => fun v σ' H' ok s => q v σ' H' ok (st.trans s)

/-! ### statements -/
def sNil : FS := fun δ => some (.nx δ)
def sSeq (g h : FS) : FS := fun δ => (g δ).bind fun r => match r with
  | .nx δ1 => h δ1
  | r => some r
theorem sts_nil : PSs X [] (tSt T sNil) := PSs.imp pss_nil fun E σ H ⟨S0, δ, r, ok, e, q⟩ => by
  cases e
  exact q σ H ok Step.refl
theorem sts_one {st : Stmt} {g : FS} (h : PS X st (tSt T g)) : PSs X [st] (tSt T g) := pss_one h
theorem sts_cons {st : Stmt} {rest : List Stmt} {g h : FS} (h1 : PS X st (tSt T g)) (h2 : PSs X rest (tSt T h)) : PSs X (st :: rest) (tSt T (sSeq g h)) := PSs.imp (pss_cons h1 h2) fun E σ H ⟨S0, δ, r, ok, e, q⟩ => by
  unfold sSeq at e
  cases hg : g δ with
  | none => rw [hg] at e; cases e
  | some r1 =>
    rw [hg] at e
    refine ⟨S0, δ, r1, ok, hg, ?_⟩
    cases r1 with
    | nx δ1 => exact fun σ1 H1 ok1 s1 => ⟨S0, δ1, r, ok1, e, flQ.back s1 q⟩
    | bk δ1 => cases e; exact q
    | ct δ1 => cases e; exact q
    | rt d δ1 => cases e; exact q
def sRet (f : FE) : FS := fun δ => (f δ).map fun (d, δ') => .rt d δ'
theorem map_some2 {α β γ : Type} {o : Option (α × β)} {k : α × β → γ} {c : γ} (h : o.map k = some c) : ∃ a b, o = some (a, b) ∧ k (a, b) = c := by
  cases o with
  | none => cases h
  | some p => exact ⟨p.1, p.2, rfl, Option.some.inj h⟩
theorem st_ret {e : Expr} {f : FE} {pos : Pos} (h : PE X e (tD T f)) : PS X (.Return (some e) pos) (tSt T (sRet f)) := PS.imp (ps_ret h) fun E σ H ⟨S0, δ, r, ok, e, q⟩ => by
  obtain ⟨d, δ', e1, e2⟩ := map_some2 e
  subst e2
  exact ⟨S0, δ, d, δ', ok, e1, fun v H' ok' s r => q v σ H' ok' s r⟩
def sExpr (f : FE) : FS := fun δ => (f δ).map fun (_, δ') => .nx δ'
theorem st_expr {e : Expr} {f : FE} {pos : Pos} (h : PE X e (tD T f)) (hs : swapsWith e none pos.line X.env = pure false := by rfl) : PS X (.Expr e pos) (tSt T (sExpr f)) := PS.imp (ps_expr h hs) fun E σ H ⟨S0, δ, r, ok, e, q⟩ => by
  obtain ⟨d, δ', e1, e2⟩ := map_some2 e
  subst e2
  exact ⟨S0, δ, d, δ', ok, e1, fun v H' ok' s r => q σ H' ok' s⟩
/-- name = e -/
def sSet (i : Nat) (f : FE) : FS := fun δ => (f δ).map fun (d, δ') => .nx (δ'.set i (.val d))
theorem st_set (i : Nat) {x : Str} {e : Expr} {f : FE} {pos pos' : Pos} (hN : X.N.Nodup) (h : PE X e (tD T f)) (hi : X.N[i]? = some x := by rfl) (hx : Loc X.env.scope x := by first | exact .inl rfl | exact .inr rfl)
    (hs : swapsWith e (some (.Name x pos')) pos.line X.env = pure false := by rfl) (hf : X.fn x = true ∨ X.env.scope.names.lookup x = some .local := by first | exact .inl rfl | exact .inr rfl | assumption) :
    PS X (.Assign [.Name x pos'] e pos) (tSt T (sSet i f)) := PS.imp (ps_set hN hi hx h hs hf) fun E σ H ⟨S0, δ, r, ok, e, q⟩ => by
  obtain ⟨d, δ', e1, e2⟩ := map_some2 e
  subst e2
  refine ⟨S0, δ, d, δ', ok, e1, fun v H' ok' s r => ?_⟩
  obtain ⟨ok2, s2⟩ := ok'.store (i := i) r
  exact q _ H' ok2 (s.trans s2)
/-- a fresh list -/
def tF (T : CT) (f : FA) : TE := fun σ H Q => ∃ S0 δ ds δ', Ok T S0 σ δ H ∧ f δ = some (ds, δ') ∧ ∀ a vs H1, Ok T S0 σ δ' H1 → Step σ δ H σ δ' H1 → H1 a = none → Reps T H1 (Av S0 σ δ') ds vs → Q (.ref a) (upd H1 a (.lst vs))
def sOwn (i : Nat) (f : FA) : FS := fun δ => (f δ).map fun (ds, δ') => .nx (δ'.set i (.own .mine ds))
theorem st_own (i : Nat) {x : Str} {e : Expr} {f : FA} {pos pos' : Pos} (hN : X.N.Nodup) (h : PE X e (tF T f)) (hi : X.N[i]? = some x := by rfl) (hx : Loc X.env.scope x := by first | exact .inl rfl | exact .inr rfl)
    (hs : swapsWith e (some (.Name x pos')) pos.line X.env = pure false := by rfl) (hf : X.fn x = true ∨ X.env.scope.names.lookup x = some .local := by first | exact .inl rfl | exact .inr rfl | assumption) :
    PS X (.Assign [.Name x pos'] e pos) (tSt T (sOwn i f)) := PS.imp (ps_set hN hi hx h hs hf) fun E σ H ⟨S0, δ, r, ok, e, q⟩ => by
  obtain ⟨d, δ', e1, e2⟩ := map_some2 e
  subst e2
  refine ⟨S0, δ, d, δ', ok, e1, fun a vs H' ok' s ha r => ?_⟩
  obtain ⟨ok2, s2⟩ := ok'.storeOwn (i := i) ha r
  exact q _ _ ok2 (s.trans s2)
/-- a fresh list as a value -/
def fFr (f : FA) : FE := fun δ => (f δ).map fun (ds, δ') => (.lst ds, δ')
theorem pd_fr {e : Expr} {f : FA} (h : PE X e (tF T f)) : PE X e (tD T (fFr f)) := PE.imp h fun σ H Q ⟨S0, δ, d, δ', ok, e, q⟩ => by
  obtain ⟨ds, δ2, e1, e2⟩ := map_some2 e
  cases e2
  refine ⟨S0, δ, ds, δ', ok, e1, fun a vs H1 ok1 s ha r => ?_⟩
  have sm : Same H1 (upd H1 a (.lst vs)) := fun b o e => by rw [upd_ne (ne_of_none e ha)]; exact e
  refine q _ _ (ok1.same sm) (s.trans (Step.same sm)) ?_
  rw [Rep]
  exact ⟨a, vs, rfl, upd_same, ok1.fresh ha, r.same sm⟩
def big : Nat := 1000000
theorem big_line {n : Nat} (h : n ≤ big) : n ≤ sizeLine := Nat.le_trans h (by decide)
theorem big_line' {n : Nat} (h : n ≤ big) : n < sizeLine := Nat.lt_of_le_of_lt h (by decide)
def fLst (g : FA) : FA := fun δ => (g δ).bind fun (ds, δ') => if ds.length ≤ big then some (ds, δ') else none
theorem ite_some {α : Type} {c : Prop} [Decidable c] {a b : α} (h : (if c then some a else none) = some b) : c ∧ a = b := by
  by_cases q : c
  · rw [if_pos q] at h; exact ⟨q, Option.some.inj h⟩
  · rw [if_neg q] at h; cases h
theorem pf_lst {es : List Expr} {g : FA} {pos : Pos} (h : PA X es (tDs T g)) : PE X (.List es pos) (tF T (fLst g)) := PE.imp (pe_lst h) fun σ H Q ⟨S0, δ, ds, δ', ok, e, q⟩ => by
  obtain ⟨d1, δ1, e1, e2⟩ := bind_some2 e
  obtain ⟨hb, e2⟩ := ite_some e2
  cases e2
  exact ⟨S0, δ, ds, δ', ok, e1, fun vs H1 ok1 s r => ⟨by rw [r.length]; exact big_line hb, fun p hp => q p vs H1 ok1 s hp r⟩⟩
def fTup (g : FA) : FE := fun δ => (g δ).bind fun (ds, δ') => if ds.length ≤ big then some (.tup ds, δ') else none
theorem pd_tup {es : List Expr} {g : FA} {k : Nat} {pos : Pos} (h : PA X es (tDs T g)) : PE X (.Tuple es k pos) (tD T (fTup g)) := PE.imp (pe_tup h) fun σ H Q ⟨S0, δ, ds, δ', ok, e, q⟩ => by
  obtain ⟨d1, δ1, e1, e2⟩ := bind_some2 e
  obtain ⟨hb, e2⟩ := ite_some e2
  cases e2
  refine ⟨S0, δ, d1, δ', ok, e1, fun vs H1 ok1 s r => ⟨by rw [r.length]; exact big_line hb, fun p hp => ?_⟩⟩
  have sm : Same H1 (upd H1 p (.tup vs)) := fun b o e => by rw [upd_ne (ne_of_none e hp)]; exact e
  refine q _ _ (ok1.same sm) (s.trans (Step.same sm)) ?_
  rw [Rep]
  exact ⟨p, vs, rfl, upd_same, ok1.fresh hp, r.same sm⟩

/-! ### tests and branches -/
def fB (f : FE) : FT := fun δ => (f δ).bind fun (d, δ') => match d with
  | .bl b => some (b, δ')
  | _ => none
theorem fB_some {f : FE} {δ δ' : Es} {b : Bool} (h : fB f δ = some (b, δ')) : f δ = some (.bl b, δ') := by
  obtain ⟨d, δ1, e1, e2⟩ := bind_some2 h
  cases d <;> first | (cases e2; exact e1) | cases e2
theorem rep_bl {H : Hp} {S : Addr → Prop} {b : Bool} {v : V} (h : Rep T H S (.bl b) v) : v = .bl b := by rwa [Rep] at h
theorem rep_int {H : Hp} {S : Addr → Prop} {b : Int} {v : V} (h : Rep T H S (.int b) v) : v = .int b := by rwa [Rep] at h
theorem rep_str {H : Hp} {S : Addr → Prop} {b : Str} {v : V} (h : Rep T H S (.str b) v) : v = .str b := by rwa [Rep] at h
theorem rep_non {H : Hp} {S : Addr → Prop} {v : V} (h : Rep T H S .non v) : v = .non := by rwa [Rep] at h
theorem pt_d {e : Expr} {f : FE} (h : PE X e (tD T f)) (he : ∀ whole, isTrue e X.env whole = (do let v ← whole; standAt e.pos; holding [v] (truthy v)) := by intro _; rfl) : PT X e (tDt T (fB f)) := PT.imp (pt_val h he) fun σ H Q ⟨S0, δ, d, δ', ok, e, q⟩ => by
  have e1 := fB_some e
  exact ⟨S0, δ, _, δ', ok, e1, fun v H' ok' s r => ⟨d, rep_bl r, q H' ok' s⟩⟩
def fNot (f : FT) : FT := fun δ => (f δ).map fun (b, δ') => (!b, δ')
theorem pt_n {e : Expr} {f : FT} {pos : Pos} (h : PT X e (tDt T f)) : PT X (.UnaryOp .Not e pos) (tDt T (fNot f)) := PT.imp (pt_not h) fun σ H Q ⟨S0, δ, d, δ', ok, e, q⟩ => by
  obtain ⟨b, δ1, e1, e2⟩ := map_some2 e
  cases e2
  exact ⟨S0, δ, b, δ', ok, e1, fun H' ok' s => q H' ok' s⟩
def fAnd (f g : FT) : FT := fun δ => (f δ).bind fun (b, δ1) => if b = true then g δ1 else some (false, δ1)
def fOr (f g : FT) : FT := fun δ => (f δ).bind fun (b, δ1) => if b = true then some (true, δ1) else g δ1
theorem w_and1 {a : Expr} {f : FT} {pos : Pos} (h : PT X a (tDt T f)) : PW X (.BoolOp .And [a] pos) (tDt T f) := pw_and1 h
theorem w_or1 {a : Expr} {f : FT} {pos : Pos} (h : PT X a (tDt T f)) : PW X (.BoolOp .Or [a] pos) (tDt T f) := pw_or1 h
theorem w_and {a b : Expr} {rest : List Expr} {f g : FT} {pos : Pos} (ha : PT X a (tDt T f)) (hb : PW X (.BoolOp .And (b :: rest) pos) (tDt T g)) : PW X (.BoolOp .And (a :: b :: rest) pos) (tDt T (fAnd f g)) := PW.imp (pw_and ha hb) fun σ H Q ⟨S0, δ, d, δ', ok, e, q⟩ => by
  obtain ⟨c, δ1, e1, e2⟩ := bind_some2 e
  refine ⟨S0, δ, c, δ1, ok, e1, fun H1 ok1 s1 => ?_⟩
  cases c with
  | true => (try dsimp only at e2); rw [if_pos rfl] at e2 ⊢; exact ⟨S0, δ1, d, δ', ok1, e2, fun H' ok' s => q H' ok' (s1.trans s)⟩
  | false => (try dsimp only at e2); rw [if_neg Bool.false_ne_true] at e2 ⊢; cases e2; exact q H1 ok1 s1
theorem w_or {a b : Expr} {rest : List Expr} {f g : FT} {pos : Pos} (ha : PT X a (tDt T f)) (hb : PW X (.BoolOp .Or (b :: rest) pos) (tDt T g)) : PW X (.BoolOp .Or (a :: b :: rest) pos) (tDt T (fOr f g)) := PW.imp (pw_or ha hb) fun σ H Q ⟨S0, δ, d, δ', ok, e, q⟩ => by
  obtain ⟨c, δ1, e1, e2⟩ := bind_some2 e
  refine ⟨S0, δ, c, δ1, ok, e1, fun H1 ok1 s1 => ?_⟩
  cases c with
  | false => (try dsimp only at e2); rw [if_neg Bool.false_ne_true] at e2 ⊢; exact ⟨S0, δ1, d, δ', ok1, e2, fun H' ok' s => q H' ok' (s1.trans s)⟩
  | true => (try dsimp only at e2); rw [if_pos rfl] at e2 ⊢; cases e2; exact q H1 ok1 s1
def fIf (c : FT) (f g : FE) : FE := fun δ => (c δ).bind fun (b, δ1) => if b = true then f δ1 else g δ1
theorem pd_if {c a b : Expr} {fc : FT} {f g : FE} {pos : Pos} (hc : PT X c (tDt T fc)) (ha : PE X a (tD T f)) (hb : PE X b (tD T g)) : PE X (.IfExp c a b pos) (tD T (fIf fc f g)) := PE.imp (pe_ifExp hc ha hb) fun σ H Q ⟨S0, δ, d, δ', ok, e, q⟩ => by
  obtain ⟨k, δ1, e1, e2⟩ := bind_some2 e
  refine ⟨S0, δ, k, δ1, ok, e1, fun H1 ok1 s1 => ?_⟩
  cases k with
  | true => (try dsimp only at e2); rw [if_pos rfl] at e2 ⊢; exact ⟨S0, δ1, d, δ', ok1, e2, fun v H' ok' s => q v H' ok' (s1.trans s)⟩
  | false => (try dsimp only at e2); rw [if_neg Bool.false_ne_true] at e2 ⊢; exact ⟨S0, δ1, d, δ', ok1, e2, fun v H' ok' s => q v H' ok' (s1.trans s)⟩
/-- and, or, not as values -/
def fAndV (f g : FE) : FE := fun δ => (fB f δ).bind fun (b, δ1) => if b = true then g δ1 else some (.bl false, δ1)
def fOrV (f g : FE) : FE := fun δ => (fB f δ).bind fun (b, δ1) => if b = true then some (.bl true, δ1) else g δ1
def fNotV (f : FE) : FE := fun δ => (fB f δ).map fun (b, δ1) => (.bl (!b), δ1)
theorem pd_one {op} {a : Expr} {f : FE} {pos : Pos} (h : PE X a (tD T f)) : PE X (.BoolOp op [a] pos) (tD T f) := pe_one h
theorem pd_and {a b : Expr} {rest : List Expr} {f g : FE} {pos : Pos} (ha : PE X a (tD T f)) (hb : PE X (.BoolOp .And (b :: rest) pos) (tD T g)) : PE X (.BoolOp .And (a :: b :: rest) pos) (tD T (fAndV f g)) := PE.imp (pe_and ha hb) fun σ H Q ⟨S0, δ, d, δ', ok, e, q⟩ => by
  obtain ⟨c, δ1, e1, e2⟩ := bind_some2 e
  refine ⟨S0, δ, _, δ1, ok, fB_some e1, fun v H1 ok1 s1 r => ⟨c, rep_bl r, ?_⟩⟩
  cases c with
  | true => (try dsimp only at e2); rw [if_pos rfl] at e2 ⊢; exact ⟨S0, δ1, d, δ', ok1, e2, fun v H' ok' s => q v H' ok' (s1.trans s)⟩
  | false => (try dsimp only at e2); rw [if_neg Bool.false_ne_true] at e2 ⊢; cases e2; exact q _ H1 ok1 s1 (rep_lit rfl)
theorem pd_or {a b : Expr} {rest : List Expr} {f g : FE} {pos : Pos} (ha : PE X a (tD T f)) (hb : PE X (.BoolOp .Or (b :: rest) pos) (tD T g)) : PE X (.BoolOp .Or (a :: b :: rest) pos) (tD T (fOrV f g)) := PE.imp (pe_or ha hb) fun σ H Q ⟨S0, δ, d, δ', ok, e, q⟩ => by
  obtain ⟨c, δ1, e1, e2⟩ := bind_some2 e
  refine ⟨S0, δ, _, δ1, ok, fB_some e1, fun v H1 ok1 s1 r => ⟨c, rep_bl r, ?_⟩⟩
  cases c with
  | false => (try dsimp only at e2); rw [if_neg Bool.false_ne_true] at e2 ⊢; exact ⟨S0, δ1, d, δ', ok1, e2, fun v H' ok' s => q v H' ok' (s1.trans s)⟩
  | true => (try dsimp only at e2); rw [if_pos rfl] at e2 ⊢; cases e2; exact q _ H1 ok1 s1 (rep_lit rfl)
theorem pd_not {e : Expr} {f : FE} {pos : Pos} (h : PE X e (tD T f)) : PE X (.UnaryOp .Not e pos) (tD T (fNotV f)) := PE.imp (pe_not h) fun σ H Q ⟨S0, δ, d, δ', ok, e, q⟩ => by
  obtain ⟨b, δ1, e1, e2⟩ := map_some2 e
  cases e2
  exact ⟨S0, δ, _, δ', ok, fB_some e1, fun v H' ok' s r => ⟨b, rep_bl r, q _ H' ok' s (rep_lit rfl)⟩⟩
def sIf (c : FT) (g h : FS) : FS := fun δ => (c δ).bind fun (b, δ1) => if b = true then g δ1 else h δ1
theorem st_if {c : Expr} {a b : List Stmt} {fc : FT} {g h : FS} {pos : Pos} (hc : PT X c (tDt T fc)) (ha : PSs X a (tSt T g)) (hb : PSs X b (tSt T h)) : PS X (.If c a b pos) (tSt T (sIf fc g h)) := PS.imp (ps_if hc ha hb) fun E σ H ⟨S0, δ, r, ok, e, q⟩ => by
  obtain ⟨k, δ1, e1, e2⟩ := bind_some2 e
  refine ⟨S0, δ, k, δ1, ok, e1, fun H1 ok1 s1 => ?_⟩
  cases k with
  | true => (try dsimp only at e2); rw [if_pos rfl] at e2 ⊢; exact ⟨S0, δ1, r, ok1, e2, flQ.back s1 q⟩
  | false => (try dsimp only at e2); rw [if_neg Bool.false_ne_true] at e2 ⊢; exact ⟨S0, δ1, r, ok1, e2, flQ.back s1 q⟩
/-- what is never come to -/
def sNo : FS := fun _ => none
theorem st_no {st : Stmt} : PS X st (tSt T sNo) := PS.imp ps_never fun E σ H ⟨S0, δ, r, ok, e, q⟩ => by cases e
def sBk : FS := fun δ => some (.bk δ)
def sCt : FS := fun δ => some (.ct δ)
theorem st_break {pos : Pos} : PS X (.Break pos) (tSt T sBk) := PS.imp ps_break fun E σ H ⟨S0, δ, r, ok, e, q⟩ => by cases e; exact q σ H ok Step.refl
theorem st_continue {pos : Pos} : PS X (.Continue pos) (tSt T sCt) := PS.imp ps_continue fun E σ H ⟨S0, δ, r, ok, e, q⟩ => by cases e; exact q σ H ok Step.refl
theorem st_pass {pos : Pos} : PS X (.Pass pos) (tSt T sNil) := PS.imp ps_pass fun E σ H ⟨S0, δ, r, ok, e, q⟩ => by cases e; exact q σ H ok Step.refl

/-! ### operators -/
/-- by values: what r asks follows from what g gives -/
def OpV (T : CT) (r : R2) (g : D → D → Option D) : Prop := ∀ (S : Addr → Prop) (x y : D) (vx vy : V) (H : Hp) (d : D) (Q : VK), (∀ b, S b → ∃ o, H b = some o) → Rep T H S x vx → Rep T H S y vy → g x y = some d →
  (∀ v H', Same H H' → Rep T H' S d v → Q v H') → r vx vy H Q
def fBin (g : D → D → Option D) (fa fb : FE) : FE := fun δ => (fa δ).bind fun (x, δ1) => (fb δ1).bind fun (y, δ2) => (g x y).map fun d => (d, δ2)
theorem map_some1 {α γ : Type} {o : Option α} {k : α → γ} {c : γ} (h : o.map k = some c) : ∃ a, o = some a ∧ k a = c := by
  cases o with
  | none => cases h
  | some p => exact ⟨p, rfl, Option.some.inj h⟩
theorem bin_imp {r : R2} {g : D → D → Option D} {fa fb : FE} (hv : OpV T r g) {σ : L2.St} {H : Hp} {Q : VK} (h : tD T (fBin g fa fb) σ H Q) : tOp r (tD T fa) (tD T fb) σ H Q := by
  obtain ⟨S0, δ, d, δ', ok, e, q⟩ := h
  obtain ⟨x, δ1, e1, e2⟩ := bind_some2 e
  obtain ⟨y, δ2, e2, e3⟩ := bind_some2 e2
  dsimp only at e3
  obtain ⟨z, e5, e4⟩ := map_some1 e3
  cases e4
  refine ⟨S0, δ, x, δ1, ok, e1, fun vx H1 ok1 s1 r1 => ⟨S0, δ1, y, δ', ok1, e2, fun vy H2 ok2 s2 r2 => ?_⟩⟩
  exact hv _ x y vx vy H2 d Q (fun b z => ok2.trk z) (s2.rep r1) r2 e5 fun v H' sm r => q v H' (ok2.same sm) ((s1.trans s2).trans (Step.same sm)) r
theorem pd_op {a b : Expr} {op : Operator} {r : R2} {g : D → D → Option D} {fa fb : FE} {pos : Pos} (ho : OpR X (binaryOp op) r) (hv : OpV T r g) (ha : PE X a (tD T fa)) (hb : PE X b (tD T fb)) : PE X (.BinOp a op b pos) (tD T (fBin g fa fb)) :=
  PE.imp (pe_op ho ha hb) fun _ _ _ h => bin_imp hv h
theorem pd_cmp {a b : Expr} {op : CmpOp} {r : R2} {g : D → D → Option D} {fa fb : FE} {pos : Pos} (ho : OpR X (compareOp op) r) (hv : OpV T r g) (ha : PE X a (tD T fa)) (hb : PE X b (tD T fb)) (hm : behindInMarks op b = false) : PE X (.Compare a [op] [b] pos) (tD T (fBin g fa fb)) :=
  PE.imp (pe_cmpR ho ha hb hm) fun _ _ _ h => bin_imp hv h
theorem pt_cmp' {a b : Expr} {op : CmpOp} {r : R2} {g : D → D → Option D} {fa fb : FE} {pos : Pos} (ho : OpR X (compareOp op) r) (hv : OpV T r g) (ha : PE X a (tD T fa)) (hb : PE X b (tD T fb)) (hm : behindInMarks op b = false) : PT X (.Compare a [op] [b] pos) (tDt T (fB (fBin g fa fb))) :=
  PT.imp (pt_cmpR ho ha hb hm) fun σ H Q ⟨S0, δ, d, δ', ok, e, q⟩ => by
    refine bin_imp hv ⟨S0, δ, .bl d, δ', ok, fB_some e, fun v H' ok' s r => ⟨d, rep_bl r, q H' ok' s⟩⟩
def gOr (g g' : D → D → Option D) : D → D → Option D := fun x y => match g x y with
  | some d => some d
  | none => g' x y
theorem OpV.or {r r' : R2} {g g' : D → D → Option D} (h : OpV T r g) (h' : OpV T r' g') : OpV T (fun x y H Q => r x y H Q ∨ r' x y H Q) (gOr g g') := by
  intro S x y vx vy H d Q ht rx ry e q
  unfold gOr at e
  cases z : g x y with
  | some d' => rw [z] at e; cases e; exact .inl (h S x y vx vy H d Q ht rx ry z q)
  | none => rw [z] at e; exact .inr (h' S x y vx vy H d Q ht rx ry e q)
theorem OpR.or {f : Value → Value → Sem Value} {r r' : R2} (h : OpR X f r) (h' : OpR X f r') : OpR X f (fun x y H Q => r x y H Q ∨ r' x y H Q) := by
  intro pins s σ H x y v u Q I rx ry hq
  rcases hq with hq | hq
  · exact h pins s σ H x y v u Q I rx ry hq
  · exact h' pins s σ H x y v u Q I rx ry hq
/-- ints -/
def gI (C : Int → Int → Bool) (k : Int → Int → D) : D → D → Option D
  | .int i, .int j => if C i j = true then some (k i j) else none
  | _, _ => none
theorem opv_I {C : Int → Int → Prop} {c : Int → Int → Bool} {g : Int → Int → V} {k : Int → Int → D} (hc : ∀ i j, c i j = true → C i j) (hl : ∀ i j, litV (k i j) = some (g i j)) : OpV T (rI C g) (gI c k) := by
  intro S x y vx vy H d Q ht rx ry e q
  cases x <;> cases y <;> first | cases e | skip
  rename_i i j
  rw [rep_int rx, rep_int ry]
  obtain ⟨h1, h2⟩ := ite_some e
  subst h2
  exact ⟨i, j, rfl, rfl, hc i j h1, q _ H (Same.refl _) (rep_lit (hl i j))⟩
def gI0 (k : Int → Int → D) : D → D → Option D
  | .int i, .int j => some (k i j)
  | _, _ => none
theorem opv_I0 {g : Int → Int → V} {k : Int → Int → D} (hl : ∀ i j, litV (k i j) = some (g i j)) : OpV T (rI0 g) (gI0 k) := by
  intro S x y vx vy H d Q ht rx ry e q
  cases x <;> cases y <;> first | cases e | skip
  rename_i i j
  rw [rep_int rx, rep_int ry]
  exact ⟨i, j, rfl, rfl, q _ H (Same.refl _) (rep_lit (hl i j))⟩
/-- == and != of None, truths, ints, texts -/
def flatD : D → Bool
  | .non => true | .bl _ => true | .int _ => true | .str _ => true | _ => false
end
end Dl
/-! Promises that hold where no text of an object is being made: the hand layer's, with that one fact more. -/
namespace Dl
open PySem PySem.Spec PyProof.Rows L2
/-- nothing's text is being made -/
def Quiet (A : Around) : Prop := A.guards = some []
structure FnG (P : Program) (w : World) (K : PySem.W.Frag) (mg : Str → Option Value) (base : Heap) (k : Nat) (f : Addr) (fd : FuncData) (ps : List Str) (sp : Sp) : Prop where
  len : ∀ vs H Q E, sp vs H Q E → vs.length = ps.length
  run : ∀ (A : Around) (outer : List PySem.Env) (s : Shared) (H : Hp) (args : Args) (us : List Value) (vs : List V) (Q : VK) (E : XK), Quiet A → Room k A → Env0 P w K mg base A outer s H → BindsTo s fd args (ps.zip us) → Vals vs us → sp vs H Q E →
    codeAny (model P w) A (.call (.ref f) args) (CR CX0 outer P w H s Q E) s
section
variable {P : Program} {w : World} {K : PySem.W.Frag} {mg : Str → Option Value} {base : Heap} {j k : Nat} {f : Addr} {fd : FuncData} {ps : List Str} {sp sp' : Sp}
theorem FnG.mono (F : FnG P w K mg base j f fd ps sp) (h : j ≤ k) : FnG P w K mg base k f fd ps sp := ⟨F.len, fun A o s H a us vs Q E q hr => F.run A o s H a us vs Q E q (hr.mono h)⟩
theorem FnG.imp (F : FnG P w K mg base k f fd ps sp) (h : ∀ vs H Q E, sp' vs H Q E → sp vs H Q E) : FnG P w K mg base k f fd ps sp' :=
  ⟨fun vs H Q E q => F.len vs H Q E (h _ _ _ _ q), fun A o s H a us vs Q E q hr he hb hv hs => F.run A o s H a us vs Q E q hr he hb hv (h _ _ _ _ hs)⟩
/-- a def's body keeps its promise -/
theorem fnG_of {x qual : Str} {params : Arguments} {bd : List Stmt} {scope : Scope} {dV kV doc pm cdv ct oc : Value} {an od : Option Addr} {osl : Array (Option Value)} {N : List Str}
    (lk : K.lookup f = some ⟨oc, od, .func (PySem.W.fnOf x qual params bd scope dV kV doc pm an cdv ct), osl⟩) (hcd : PySem.W.codeIn K cdv qual = true) (S : FnScope N ps scope) (len : ∀ vs H Q E, sp vs H Q E → vs.length = ps.length)
    (body : ∀ (A : Around) (outer : List PySem.Env) (s : Shared) (H : Hp) (vs : List V) (Q : VK) (E : XK), Quiet A → Room k (A.deeper (envOfC qual scope s.heap.objs.size f cdv)) → sp vs H Q E →
      ∃ t, PSs (cxOf CX0 P w K mg base N qual scope f cdv A outer s H E).nox bd t ∧ t { nx := fun _ H' => Q .non H', rt := Q } (L2.start N vs) H) : FnG P w K mg base (k + 1) f (PySem.W.fnOf x qual params bd scope dV kV doc pm an cdv ct) ps sp := by
  refine ⟨len, fun A outer s H args us vs Q E hq hr e0 hb r hsp => ?_⟩
  have kept : ∀ b o, base.get? b = some o → s.heap.get? b = some o := fun b o e => (e0.bs b o e).1
  have hkind : ∀ y ∈ ps.zip us, scope.names.lookup y.1 = some .local ∨ (scope.names.lookup y.1 = some .cell ∧ ((cellsFrom (s.heap.objs.size + 1) scope.names []).lookup y.1).isSome = true) := by
    intro y hy
    obtain ⟨n, v⟩ := y
    exact (S.par n (List.of_mem_zip hy).1).imp id fun q => ⟨q, PySem.W.cellsFrom_some _ _ _ (.inl q)⟩
  have KS : K.In s.heap := e0.mod.kin.keeps kept
  apply codeAny_call_function hr.depth (KS _ _ lk) rfl S.co S.gen rfl (PySem.W.codeRec_of KS hcd)
  apply hb
  apply wpAny_newFunctionEnv_cells S.kind hkind
  intro env he s1 x
  subst he
  obtain ⟨t, ht, ha⟩ := body A outer s H vs Q E hq (hr.deeper _) hsp
  have J0 : Inv (cxOf CX0 P w K mg base N qual scope f cdv A outer s H E) [] (L2.start N vs) H s1 := inv_start S hr.hd e0 (len _ _ _ _ hsp) r x
  refine ⟨(e0.mod.nolimit.keeps kept).keeps x.toInCall.keep, codeAny_func (wpAny_mono (ht.nox.run [] s1 (L2.start N vs) H _ J0 ha) (fun fl s' hs => ?_) fun _ _ z => z)⟩
  match fl, hs with
  | .ret u, ⟨v, σ', H', J, rv, q⟩ => exact ⟨v, H', J.os, J.bare, J.base, J.hok, rv, q⟩
  | .next, ⟨σ', H', J, q⟩ => exact ⟨V.non, H', J.os, J.bare, J.base, J.hok, rfl, q⟩
  | .brk, ⟨_, _, _, q⟩ => exact q.elim
  | .cont, ⟨_, _, _, q⟩ => exact q.elim
end

/-! ### how arguments come to parameters, by data -/
/-- n values, the keywords ks: gD puts their data in the parameters' order, defaults among them -/
def Bnd (K : PySem.W.Frag) (fd : FuncData) (ps : List Str) (n : Nat) (ks : List Str) (gD : List D → List D → List D) : Prop :=
  ∃ g gV, KBn K fd ps n ks g gV ∧ ∀ (T : CT) (H : Hp) (S : Addr → Prop) (ds es : List D) (vs zs : List V), ds.length = n → es.length = ks.length → Reps T H S ds vs → Reps T H S es zs → Reps T H S (gD ds es) (gV vs zs)
def gPos (dd : List D) : List D → List D → List D := fun ds es => ds ++ es ++ dd
def Lits (dd : List D) (dvs : List V) : Prop := ∀ (T : CT) (H : Hp) (S : Addr → Prop), Reps T H S dd dvs
theorem lits_nil : Lits [] [] := fun _ _ _ => Reps.nil
theorem lits_cons {d : D} {v : V} {dd : List D} {dvs : List V} (h : litV d = some v) (hs : Lits dd dvs) : Lits (d :: dd) (v :: dvs) := fun T H S => Reps.cons (rep_lit h) (hs T H S)
theorem bnd_of {K : PySem.W.Frag} {fd : FuncData} {ps : List Str} {ds : List Value} {dvs : List V} {dd : List D} (n : Nat) (hb : Binds K fd ps ds) (hd : Vals dvs ds) (hl : Lits dd dvs) (hn : n + dvs.length = ps.length) : Bnd K fd ps n [] (gPos dd) := by
  refine ⟨fun us _ => us ++ ds, fun vs _ => vs ++ dvs, ⟨fun s us ws X l1 l2 => ?_, fun r _ => r.append hd⟩, fun T H S d e vs zs _ he r r2 => ?_⟩
  · have : ws = [] := by cases ws with | nil => rfl | cons _ _ => cases l2
    subst this
    exact hb s us X (by rw [List.length_append, l1, ← hd.length, hn])
  · cases e with
    | nil => rw [gPos, List.append_nil]; exact r.append (hl T H S)
    | cons _ _ => cases he
/-- keywords that follow in the parameters' order, all given -/
theorem bnd_kw {K : PySem.W.Frag} {x qual : Str} {st : Stmt} {f : Addr} {fd : FuncData} {ps : List Str} (n : Nat) (ks : List Str) (F : Fun K x qual st f fd)
    (h : ∀ (kV doc pm : Value) (an : Option Addr) (cdv ct : Value) (us ws : List Value), us.length = n → ws.length = ks.length → bindArgs (PySem.W.fnOf x qual (defArgs st) (defBody st) (defScope st) .none kV doc pm an cdv ct) ⟨us, ks.zip ws⟩ = pure (ps.zip (us ++ ws))) : Bnd K fd ps n ks (gPos []) := by
  obtain ⟨oc, od, kV, doc, pm, an, cdv, ct, osl, rfl, lk, hcd⟩ := F.ex
  refine ⟨fun us ws => us ++ ws, fun vs zs => vs ++ zs, ⟨fun s us ws X l1 l2 => .of_eq (h kV doc pm an cdv ct us ws l1 l2), fun r1 r2 => r1.append r2⟩, fun T H S d e vs zs _ _ r r2 => ?_⟩
  rw [gPos, List.append_nil]
  exact r.append r2

section
variable {X : Cx} {T : CT} {k n : Nat} {f C : Addr} {fd : FuncData} {ps ks : List Str} {sp : Sp} {E : XK} {x m : Str} {p pos apos : Pos} {e o : Expr} {es : List Expr} {kws : List Keyword} {ta : TE} {t tk : TA} {g : List Value → List Value → List Value} {gV : List V → List V → List V}
theorem endG {pins : List (Addr × Obj)} {σ : L2.St} {H : Hp} {s : Shared} {Q : VK} (I : Inv X pins σ H s) : ∀ (r : Result) (s' : Shared), CR CX0 X.stack X.prog X.w H s Q E r s' → (match r with
    | .ok (.ret v) => EP X pins σ Q v s'
    | .ok _ => False
    | .error e => X.xe e s')
  | .error _, _, h => (h : False).elim
  | .ok (.ret _), _, h => I.after h
  | .ok .next, _, h => (h : False).elim
  | .ok .brk, _, h => (h : False).elim
  | .ok .cont, _, h => (h : False).elim
theorem run_fnG {pins : List (Addr × Obj)} {σ : L2.St} {H : Hp} {s : Shared} {Q : VK} {us ws : List Value} {vs zs : List V} (F : FnG X.prog X.w X.K X.mg X.base k f fd ps sp) (hq : Quiet X.A) (hr : Room k X.A) (hb : KBn X.K fd ps n ks g gV)
    (I : Inv X pins σ H s) (r : Vals vs us) (rz : Vals zs ws) (l1 : vs.length = n) (l2 : zs.length = ks.length) (h : sp (gV vs zs) H Q E) : wpAny (model X.prog X.w) X.A (call (.ref f) us (ks.zip ws)) (EP X pins σ Q) X.xe s := by
  apply wpAny_call
  refine codeAny_mono (F.run X.A X.stack s H ⟨us, ks.zip ws⟩ (g us ws) (gV vs zs) Q E hq hr I.env0 (hb.to s us ws I.kIn (r.length.symm.trans l1) (rz.length.symm.trans l2)) (hb.rel r rz) h) fun z s' hz => ?_
  have e := endG I z s' hz
  match z, e with
  | .ok (.ret _), e => exact e
  | .error _, e => exact e
/-- f(e, .., k = v, ..) -/
theorem pe_callG (F : FnG X.prog X.w X.K X.mg X.base k f fd ps sp) (hq : Quiet X.A) (hr : Room k X.A) (hm : X.mg x = some (.ref f)) (hk : PySem.W.keepIn X.K (.ref f) = true) (hb : KBn X.K fd ps n ks g gV) (ha : PA X (e :: es) t) (hkw : PK X kws tk) (hg : Gl X x)
    (hall : (backToKw pos (keywordEach kws X.env)).all (·.1.isSome) = true) (hks : (backToKw pos (keywordEach kws X.env)).filterMap (·.1) = ks) (hdb : (x == ("__debug__" : Str)) = false) (he : starEach (e :: es) X.env = (false, eval e X.env) :: starEach es X.env)
    (hpl : ((backTo pos (starEach (e :: es) X.env)).any (·.1) || (backToKw pos (keywordEach kws X.env)).any (·.1.isNone)) = false) : PE X (.Call (.Name x p) (e :: es) kws pos) (tCallN n ks.length sp gV E t tk) := by
  constructor
  intro pins s σ H Q I h
  apply wpAny_Call_Name_kw
  apply ld_glob I hg hm _ hdb
  refine PySem.W.callWith_KW (h₀ := X.base) I.ok.mod.kin hk hall (thn (ha.run pos pins s σ H _ I h) ?_) hpl he
  rintro us s1 ⟨vs, H1, I1, r, q⟩
  refine thn (hkw.run pos pins s1 σ H1 _ I1 q) ?_
  rintro ws s2 ⟨zs, H2, I2, rz, l1, l2, q2⟩
  refine ⟨I2.kIn, ?_⟩
  rw [hks]
  exact run_fnG F hq hr hb I2 r rz l1 l2 q2
theorem pe_callG0 (F : FnG X.prog X.w X.K X.mg X.base k f fd ps sp) (hq : Quiet X.A) (hr : Room k X.A) (hm : X.mg x = some (.ref f)) (hk : PySem.W.keepIn X.K (.ref f) = true) (hb : KBn X.K fd ps n ks g gV) (hkw : PK X kws tk) (hg : Gl X x)
    (hall : (backToKw pos (keywordEach kws X.env)).all (·.1.isSome) = true) (hks : (backToKw pos (keywordEach kws X.env)).filterMap (·.1) = ks) (hdb : (x == ("__debug__" : Str)) = false)
    (hpl : ((backTo pos (starEach [] X.env)).any (·.1) || (backToKw pos (keywordEach kws X.env)).any (·.1.isNone)) = false) : PE X (.Call (.Name x p) [] kws pos) (tCallN n ks.length sp gV E tNil tk) := by
  constructor
  intro pins s σ H Q I h
  apply wpAny_Call_Name_kw
  apply ld_glob I hg hm _ hdb
  refine PySem.W.callWith_KW0 (h₀ := X.base) I.ok.mod.kin hk hall (thn (hkw.run pos pins s σ H _ I h) ?_) hpl
  rintro ws s2 ⟨zs, H2, I2, rz, l1, l2, q2⟩
  refine ⟨I2.kIn, ?_⟩
  rw [hks]
  exact run_fnG (us := []) (vs := []) F hq hr hb I2 .nil rz l1 l2 q2
/-- o.m(..): self and n - 1 values, the keywords -/
def tMethN (C : Addr) (m : Str) (n j : Nat) (sp : Sp) (gV : List V → List V → List V) (E : XK) (ta : TE) (t tk : TA) : TE := fun σ H Q => ta σ H fun x H1 => ∃ a dx fs, x = .ref a ∧ H1 a = some (.ins C dx fs) ∧ fs.lookup m = none ∧
  t σ H1 fun vs H2 => tk σ H2 fun zs H3 => vs.length + 1 = n ∧ zs.length = j ∧ sp (gV (x :: vs) zs) H3 Q E
theorem pe_methG {pl : Sem Bool} (ho : PE X o ta) (c : Cls X.K C) (hm : Meth X.K C m f) (F : FnG X.prog X.w X.K X.mg X.base k f fd ps sp) (hq : Quiet X.A) (hr : Room k X.A) (hb : KBn X.K fd ps n ks g gV) (ha : PA X (e :: es) t) (hkw : PK X kws tk)
    (hall : (backToKw pos (keywordEach kws X.env)).all (·.1.isSome) = true) (hks : (backToKw pos (keywordEach kws X.env)).filterMap (·.1) = ks) (he : starEach (e :: es) X.env = (false, eval e X.env) :: starEach es X.env)
    (hpl : ((backTo pos (starEach (e :: es) X.env)).any (·.1) || (backToKw pos (keywordEach kws X.env)).any (·.1.isNone)) = false)
    (ht : eval (.Call (.Attribute o m apos) (e :: es) kws pos) X.env = (do
      let y ← eval o X.env
      standAt apos.atName
      let (h, first) ← holding [y] (getMethod y m pl)
      callWith pos h first (backTo pos (starEach (e :: es) X.env)) (backToKw pos (keywordEach kws X.env)))) : PE X (.Call (.Attribute o m apos) (e :: es) kws pos) (tMethN C m n ks.length sp gV E ta t tk) := by
  constructor
  intro pins s σ H Q I h
  refine PySem.W.methodCall_KW (pl := pl) (thn (ho.run pins s σ H _ I h) ?_) ht
  rintro u s1 ⟨x, H1, I1, rx, a, dx, fs, rfl, ea, l, q⟩
  cases (show u = Value.ref a from rx)
  refine getmeth_ok I1 ea c hm l ?_
  refine PySem.W.callWith_KW (first := [.ref a]) (h₀ := X.base) I.ok.mod.kin hm.kp hall (thn (ha.run pos pins s1 σ H1 _ I1 q) ?_) hpl he
  rintro us s2 ⟨vs, H2, I2, r, q2⟩
  refine thn (hkw.run pos pins s2 σ H2 _ I2 q2) ?_
  rintro ws s3 ⟨zs, H3, I3, rz, l1, l2, q3⟩
  refine ⟨I3.kIn, ?_⟩
  rw [hks]
  exact run_fnG (us := .ref a :: us) (vs := .ref a :: vs) F hq hr hb I3 (.cons rfl r) rz l1 l2 q3
theorem pe_methG0 {pl : Sem Bool} (ho : PE X o ta) (c : Cls X.K C) (hm : Meth X.K C m f) (F : FnG X.prog X.w X.K X.mg X.base k f fd ps sp) (hq : Quiet X.A) (hr : Room k X.A) (hb : KBn X.K fd ps n ks g gV) (hkw : PK X kws tk)
    (hall : (backToKw pos (keywordEach kws X.env)).all (·.1.isSome) = true) (hks : (backToKw pos (keywordEach kws X.env)).filterMap (·.1) = ks)
    (hpl : ((backTo pos (starEach [] X.env)).any (·.1) || (backToKw pos (keywordEach kws X.env)).any (·.1.isNone)) = false)
    (ht : eval (.Call (.Attribute o m apos) [] kws pos) X.env = (do
      let y ← eval o X.env
      standAt apos.atName
      let (h, first) ← holding [y] (getMethod y m pl)
      callWith pos h first (backTo pos (starEach [] X.env)) (backToKw pos (keywordEach kws X.env)))) : PE X (.Call (.Attribute o m apos) [] kws pos) (tMethN C m n ks.length sp gV E ta tNil tk) := by
  constructor
  intro pins s σ H Q I h
  refine PySem.W.methodCall_KW (pl := pl) (thn (ho.run pins s σ H _ I h) ?_) ht
  rintro u s1 ⟨x, H1, I1, rx, a, dx, fs, rfl, ea, l, q⟩
  cases (show u = Value.ref a from rx)
  refine getmeth_ok I1 ea c hm l ?_
  refine PySem.W.callWith_KW0 (first := [.ref a]) (h₀ := X.base) I.ok.mod.kin hm.kp hall (thn (hkw.run pos pins s1 σ H1 _ I1 q) ?_) hpl
  rintro ws s3 ⟨zs, H3, I3, rz, l1, l2, q3⟩
  refine ⟨I3.kIn, ?_⟩
  rw [hks]
  exact run_fnG (us := [.ref a]) (vs := [.ref a]) F hq hr hb I3 (.cons rfl .nil) rz l1 l2 q3
/-- C(..) -/
theorem run_makeG {pins : List (Addr × Obj)} {σ : L2.St} {H : Hp} {s : Shared} {Q : VK} {us ws : List Value} {vs zs : List V} (M : Mk X.K C f) (F : FnG X.prog X.w X.K X.mg X.base k f fd ps sp) (hq : Quiet X.A) (hr : Room (k + 1) X.A) (hb : KBn X.K fd ps (n + 1) ks g gV)
    (I : Inv X pins σ H s) (r : Vals vs us) (rz : Vals zs ws) (l1 : vs.length = n) (l2 : zs.length = ks.length)
    (h : ∀ x dx, H x = none → H dx = none → dx ≠ x → sp (gV (.ref x :: vs) zs) (upd (upd H dx (.own x)) x (.ins C dx [])) (fun v H2 => v = .non ∧ Q (.ref x) H2) E) : wpAny (model X.prog X.w) X.A (call (.ref C) us (ks.zip ws)) (EP X pins σ Q) X.xe s := by
  have J := Inv.made (C := C) I
  have here := h (s.heap.objs.size + 1) s.heap.objs.size (I.hok.fresh (Nat.le_succ _)) (I.hok.fresh (Nat.le_refl _)) (Nat.ne_of_lt (Nat.lt_succ_self _))
  have r1 : Vals (V.ref (s.heap.objs.size + 1) :: vs) (Value.ref (s.heap.objs.size + 1) :: us) := .cons rfl r
  have hq' : Quiet (X.A.under (.builtin "type.__call__" ⟨.ref C :: us, ks.zip ws⟩)) := by
    have e : (Code.builtin "type.__call__" ⟨.ref C :: us, ks.zip ws⟩).guards = [] := by unfold Code.guards; rw [show (Code.builtin "type.__call__" ⟨.ref C :: us, ks.zip ws⟩).isGuard = false from (by show guardIds.contains "type.__call__" = false; decide +kernel)]; rfl
    show pushGuards (Code.builtin "type.__call__" ⟨.ref C :: us, ks.zip ws⟩).guards X.A.guards = some []
    rw [e]
    exact hq
  apply wpAny_call
  refine make_map (f := f) I.kIn M.makes M.init (beq_iff_eq.mp M.fn) (codeAny_mono (F.run _ X.stack _ _ ⟨Value.ref (s.heap.objs.size + 1) :: us, ks.zip ws⟩ (g (Value.ref (s.heap.objs.size + 1) :: us) ws) _ _ E hq' (hr.make C us (ks.zip ws)) (J.env0.make C us (ks.zip ws))
    (hb.to _ (Value.ref (s.heap.objs.size + 1) :: us) ws J.kIn (r1.length.symm.trans (congrArg Nat.succ l1)) (rz.length.symm.trans l2)) (hb.rel r1 rz) here) fun z s' hz => ?_)
  match z, hz with
  | .error _, hz => exact (hz : False).elim
  | .ok .next, hz => exact (hz : False).elim
  | .ok .brk, hz => exact (hz : False).elim
  | .ok .cont, hz => exact (hz : False).elim
  | .ok (.ret u), hz =>
    obtain ⟨v, H', I3, rv, ev, q3⟩ := J.after hz
    subst ev
    exact ⟨rv, ⟨V.ref (s.heap.objs.size + 1), H', I3, rfl, q3⟩⟩
theorem pe_makeG (M : Mk X.K C f) (F : FnG X.prog X.w X.K X.mg X.base k f fd ps sp) (hq : Quiet X.A) (hr : Room (k + 1) X.A) (hm : X.mg x = some (.ref C)) (hb : KBn X.K fd ps (n + 1) ks g gV) (ha : PA X (e :: es) t) (hkw : PK X kws tk) (hg : Gl X x)
    (hall : (backToKw pos (keywordEach kws X.env)).all (·.1.isSome) = true) (hks : (backToKw pos (keywordEach kws X.env)).filterMap (·.1) = ks) (hdb : (x == ("__debug__" : Str)) = false) (he : starEach (e :: es) X.env = (false, eval e X.env) :: starEach es X.env)
    (hpl : ((backTo pos (starEach (e :: es) X.env)).any (·.1) || (backToKw pos (keywordEach kws X.env)).any (·.1.isNone)) = false) : PE X (.Call (.Name x p) (e :: es) kws pos) (tMakeN C n ks.length sp gV E t tk) := by
  constructor
  intro pins s σ H Q I h
  apply wpAny_Call_Name_kw
  apply ld_glob I hg hm _ hdb
  refine PySem.W.callWith_KW (h₀ := X.base) I.ok.mod.kin M.kp hall (thn (ha.run pos pins s σ H _ I h) ?_) hpl he
  rintro us s1 ⟨vs, H1, I1, r, q⟩
  refine thn (hkw.run pos pins s1 σ H1 _ I1 q) ?_
  rintro ws s2 ⟨zs, H2, I2, rz, l1, l2, q2⟩
  refine ⟨I2.kIn, ?_⟩
  rw [hks]
  exact run_makeG M F hq hr hb I2 r rz l1 l2 q2
theorem pe_makeG0 (M : Mk X.K C f) (F : FnG X.prog X.w X.K X.mg X.base k f fd ps sp) (hq : Quiet X.A) (hr : Room (k + 1) X.A) (hm : X.mg x = some (.ref C)) (hb : KBn X.K fd ps (n + 1) ks g gV) (hkw : PK X kws tk) (hg : Gl X x)
    (hall : (backToKw pos (keywordEach kws X.env)).all (·.1.isSome) = true) (hks : (backToKw pos (keywordEach kws X.env)).filterMap (·.1) = ks) (hdb : (x == ("__debug__" : Str)) = false)
    (hpl : ((backTo pos (starEach [] X.env)).any (·.1) || (backToKw pos (keywordEach kws X.env)).any (·.1.isNone)) = false) : PE X (.Call (.Name x p) [] kws pos) (tMakeN C n ks.length sp gV E tNil tk) := by
  constructor
  intro pins s σ H Q I h
  apply wpAny_Call_Name_kw
  apply ld_glob I hg hm _ hdb
  refine PySem.W.callWith_KW0 (h₀ := X.base) I.ok.mod.kin M.kp hall (thn (hkw.run pos pins s σ H _ I h) ?_) hpl
  rintro ws s2 ⟨zs, H2, I2, rz, l1, l2, q2⟩
  refine ⟨I2.kIn, ?_⟩
  rw [hks]
  exact run_makeG (us := []) (vs := []) M F hq hr hb I2 .nil rz l1 l2 q2
/-- a property -/
theorem pe_propG {a' : Addr} {pr : Addr} (ho : PE X o ta) (c : Cls X.K C) (hp : PropOf X.K C m pr f) (F : FnG X.prog X.w X.K X.mg X.base k f fd ps sp) (hq : Quiet X.A) (hr : Room (k + 1) X.A) (hb : Binds X.K fd ps []) (hab : attributeBase o m X.env (eval o X.env) = eval o X.env) : PE X (.Attribute o m pos) (tProp C sp [] E ta) := by
  constructor
  intro pins s σ H Q I h
  refine attr_of hab (thn (ho.run pins s σ H _ I h) ?_)
  rintro u s1 ⟨x, H1, I1, rx, a, dx, fs, rfl, ea, q⟩
  cases (show u = Value.ref a from rx)
  obtain ⟨mA, O, _⟩ := ins_get I1.hok ea
  obtain ⟨od, J, _⟩ := O.look
  obtain ⟨rest, hrec⟩ := hp.rec_
  have I2 := I1.tok (s1.toks + 1)
  obtain ⟨cd, hcd, _⟩ := PySem.W.any_some c.hd
  have hc : (PySem.W.clsIn X.K C).isSome = true := by rw [hcd]; rfl
  have hl := F.len _ _ _ _ q
  refine PySem.W.get_bind I1.kIn J (PySem.W.plainGet_of (c.get m)).1 (PySem.W.findObj_data hc hp.at_ hp.get hp.tak) (PySem.W.plainGet_of (c.get m)).2 (wpAny_call (PySem.W.prop_get (s := { s1 with toks := s1.toks + 1 }) I1.kIn hrec ?_))
  refine codeAny_mono (F.run X.A.in1 X.stack { s1 with toks := s1.toks + 1 } H1 ⟨[.ref a], []⟩ [.ref a] [.ref a] Q E hq hr.in1 I2.env0.in1 (by simpa using hb _ [.ref a] I2.kIn (by simpa using hl)) (.cons rfl .nil) q) fun z s' hz => ?_
  match z, hz with
  | .error _, hz => exact (hz : False).elim
  | .ok .next, hz => exact (hz : False).elim
  | .ok .brk, hz => exact (hz : False).elim
  | .ok .cont, hz => exact (hz : False).elim
  | .ok (.ret u), hz =>
    obtain ⟨v, H', I3, rv, q3⟩ := I2.after hz
    show wpAny _ _ (handedOut u) _ _ _
    rw [PySem.W.handedOut_of (handed_of rv)]
    exact wpAny_pure ⟨v, H', I3, rv, q3⟩
end
end Dl
namespace Dl
open PySem PySem.Spec PyProof.Rows L2

/-! ### promises by data -/
/-- a def of n parameters that changes nothing: what F tells -/
def sp0 (T : CT) (n : Nat) (F : List D → Option D) : Sp := fun vs H Q _ => ∃ S ds d, (∀ b, S b → ∃ o, H b = some o) ∧ ds.length = n ∧ Reps T H S ds vs ∧ F ds = some d ∧ ∀ v H', Same H H' → Rep T H' S d v → Q v H'
/-- a def whose first parameter is a list that it changes, and n more -/
def sp1 (T : CT) (n : Nat) (F : List D → List D → Option (D × List D)) : Sp := fun vs H Q _ => ∃ S p us xs ws ds d xs', vs = V.ref p :: ws ∧ (∀ b, S b → ∃ o, H b = some o) ∧ S p ∧ H p = some (.lst us) ∧ Reps T H S xs us ∧ ds.length = n ∧
  Reps T H S ds ws ∧ F xs ds = some (d, xs') ∧ ∀ v H' us', (∀ b o, H b = some o → b ≠ p → H' b = some o) → H' p = some (.lst us') → Reps T H' S xs' us' → Rep T H' S d v → Q v H'
/-- an __init__: n parameters behind self; F tells the attributes -/
def spI (T : CT) (c n : Nat) (F : List D → Option (List D)) : Sp := fun vs H Q _ => ∃ S x C dx ns ws ds fs, vs = V.ref x :: ws ∧ T c = some (C, ns) ∧ H x = some (.ins C dx []) ∧ (∀ b, S b → ∃ o, H b = some o) ∧ S x ∧ ds.length = n ∧ Reps T H S ds ws ∧
  F ds = some fs ∧ ∀ H' vs', (∀ b o, H b = some o → b ≠ x → H' b = some o) → H' x = some (.ins C dx (ns.zip vs')) → ns.length = vs'.length → Reps T H' S fs vs' → Q .non H'
/-- a classmethod: the class itself first -/
def spC (T : CT) (C : Addr) (n : Nat) (F : List D → Option D) : Sp := fun vs H Q E => ∃ ws, vs = V.ref C :: ws ∧ sp0 T n F ws H Q E

def LenA (f : FA) (n : Nat) : Prop := ∀ δ ds δ', f δ = some (ds, δ') → ds.length = n
theorem lenA_nil : LenA fNil 0 := fun δ ds δ' h => by cases h; rfl
theorem lenA_cons {f : FE} {g : FA} {n : Nat} (h : LenA g n) : LenA (fCons f g) (n + 1) := fun δ ds δ' e => by
  obtain ⟨d, δ1, e1, e⟩ := bind_some2 e
  obtain ⟨dr, δ2, e2, e⟩ := bind_some2 e
  cases e
  simp [h _ _ _ e2]

section
variable {X : Cx} {T : CT} {k n c : Nat} {f C : Addr} {fd : FuncData} {ps : List Str} {x m : Str} {p pos apos : Pos} {e o : Expr} {es : List Expr} {fa : FA} {fo : FE}

/-! ### calls -/
theorem pks_nil : PK X [] (tDs T fNil) := PK.imp pk_nil fun σ H Q ⟨S0, δ, ds, δ', ok, e, q⟩ => by
  cases e
  exact q [] H ok Step.refl Reps.nil
theorem pks_cons {e : Expr} {kws : List Keyword} {nm : Option Str} {kpos : Pos} {f : FE} {g : FA} (h1 : PE X e (tD T f)) (h2 : PK X kws (tDs T g)) : PK X (⟨nm, e, kpos⟩ :: kws) (tDs T (fCons f g)) := PK.imp (pk_cons h1 h2) fun σ H Q ⟨S0, δ, ds, δ', ok, e, q⟩ => by
  obtain ⟨d, δ1, e1, e⟩ := bind_some2 e
  obtain ⟨dr, δ2, e2, e⟩ := bind_some2 e
  cases e
  exact ⟨S0, δ, d, δ1, ok, e1, fun v H1 ok1 s1 r1 => ⟨S0, δ1, dr, δ', ok1, e2, fun vs H2 ok2 s2 r2 => q _ H2 ok2 (s1.trans s2) (Reps.cons (s2.rep r1) r2)⟩⟩
def fCall (F : List D → Option D) (gD : List D → List D → List D) (fa fk : FA) : FE := fun δ => (fa δ).bind fun (ds, δ1) => (fk δ1).bind fun (es, δ2) => (F (gD ds es)).map fun d => (d, δ2)
theorem call_imp {F : List D → Option D} {gD : List D → List D → List D} {gV : List V → List V → List V} {fk : FA} {j i : Nat} (hl : LenA fa j) (hk : LenA fk i) (hn : ∀ ds es, ds.length = j → es.length = i → (gD ds es).length = n)
    (hG : ∀ (T : CT) (H : Hp) (S : Addr → Prop) (ds es : List D) (vs zs : List V), ds.length = j → es.length = i → Reps T H S ds vs → Reps T H S es zs → Reps T H S (gD ds es) (gV vs zs)) {σ : L2.St} {H : Hp} {Q : VK} {E : XK} (h : tD T (fCall F gD fa fk) σ H Q) : tCallN j i (sp0 T n F) gV E (tDs T fa) (tDs T fk) σ H Q := by
  obtain ⟨S0, δ, d, δ', ok, e, q⟩ := h
  obtain ⟨ds, δ1, e1, e2⟩ := bind_some2 e
  obtain ⟨es, δ2, e3, e4⟩ := bind_some2 e2
  dsimp only at e4
  obtain ⟨d', e5, e6⟩ := map_some1 e4
  cases e6
  refine ⟨S0, δ, ds, δ1, ok, e1, fun vs H1 ok1 s1 r1 => ⟨S0, δ1, es, δ', ok1, e3, fun zs H2 ok2 s2 r2 => ?_⟩⟩
  have r1' := s2.reps r1
  have l1 := hl _ _ _ e1
  have l2 := hk _ _ _ e3
  exact ⟨by rw [r1.length, l1], by rw [r2.length, l2], _, gD ds es, d, fun b z => ok2.trk z, hn _ _ l1 l2, hG _ _ _ _ _ _ _ l1 l2 r1' r2, e5, fun v H' sm r => q v H' (ok2.same sm) ((s1.trans s2).trans (Step.same sm)) r⟩
theorem pd_call {F : List D → Option D} {gD : List D → List D → List D} {ks : List Str} {kws : List Keyword} {fk : FA} {j : Nat} (G : FnG X.prog X.w X.K X.mg X.base k f fd ps (sp0 T n F)) (hq : Quiet X.A) (hr : Room k X.A) (hm : X.mg x = some (.ref f)) (hk : PySem.W.keepIn X.K (.ref f) = true) (hb : Bnd X.K fd ps j ks gD)
    (ha : PA X (e :: es) (tDs T fa)) (hkw : PK X kws (tDs T fk)) (hn : ∀ ds es, ds.length = j → es.length = ks.length → (gD ds es).length = n := by intro ds es h1 h2; simp [gPos, h1, h2]) (hl : LenA fa j := by repeat (first | exact lenA_nil | refine lenA_cons ?_)) (hlk : LenA fk ks.length := by repeat (first | exact lenA_nil | refine lenA_cons ?_)) (hg : Gl X x := by rfl)
    (hall : (backToKw pos (keywordEach kws X.env)).all (·.1.isSome) = true := by rfl) (hks : (backToKw pos (keywordEach kws X.env)).filterMap (·.1) = ks := by rfl) (hdb : (x == ("__debug__" : Str)) = false := by decide) (he : starEach (e :: es) X.env = (false, eval e X.env) :: starEach es X.env := by rfl)
    (hpl : ((backTo pos (starEach (e :: es) X.env)).any (·.1) || (backToKw pos (keywordEach kws X.env)).any (·.1.isNone)) = false := by rfl) : PE X (.Call (.Name x p) (e :: es) kws pos) (tD T (fCall F gD fa fk)) := by
  obtain ⟨g, gV, hb, hG⟩ := hb
  exact PE.imp (pe_callG (E := E0) G hq hr hm hk hb ha hkw hg hall hks hdb he hpl) fun _ _ _ h => call_imp hl hlk hn hG h
theorem pd_call0 {F : List D → Option D} {gD : List D → List D → List D} {ks : List Str} {kws : List Keyword} {fk : FA} (G : FnG X.prog X.w X.K X.mg X.base k f fd ps (sp0 T n F)) (hq : Quiet X.A) (hr : Room k X.A) (hm : X.mg x = some (.ref f)) (hk : PySem.W.keepIn X.K (.ref f) = true) (hb : Bnd X.K fd ps 0 ks gD)
    (hkw : PK X kws (tDs T fk)) (hn : ∀ ds es, ds.length = 0 → es.length = ks.length → (gD ds es).length = n := by intro ds es h1 h2; simp [gPos, h1, h2]) (hlk : LenA fk ks.length := by repeat (first | exact lenA_nil | refine lenA_cons ?_)) (hg : Gl X x := by rfl)
    (hall : (backToKw pos (keywordEach kws X.env)).all (·.1.isSome) = true := by rfl) (hks : (backToKw pos (keywordEach kws X.env)).filterMap (·.1) = ks := by rfl) (hdb : (x == ("__debug__" : Str)) = false := by decide)
    (hpl : ((backTo pos (starEach [] X.env)).any (·.1) || (backToKw pos (keywordEach kws X.env)).any (·.1.isNone)) = false := by rfl) : PE X (.Call (.Name x p) [] kws pos) (tD T (fCall F gD fNil fk)) := by
  obtain ⟨g, gV, hb, hG⟩ := hb
  refine PE.imp (pe_callG0 (E := E0) G hq hr hm hk hb hkw hg hall hks hdb hpl) fun σ H Q h => ?_
  obtain ⟨S0, δ, ds, δ1, ok, e1, q⟩ := call_imp (E := E0) lenA_nil hlk hn hG h
  cases e1
  exact q [] H ok Step.refl Reps.nil

/-- f(pot, ..): the first argument a name that holds its own list -/
def isL : Ow → Bool
  | .mine => true | .pot => true | .ini _ _ _ => false
theorem isL_ho : ∀ {q : Ow}, isL q = true → ∀ vs, hoOf q vs = .lst vs
  | .mine, _, _ => rfl
  | .pot, _, _ => rfl
  | .ini _ _ _, h, _ => by cases h
def isOwn : Option Sl → Bool
  | some (.own _ _) => true | _ => false
def fCallP (i : Nat) (F : List D → List D → Option (D × List D)) (fa : FA) : FE := fun δ => if isOwn δ[i]? = true then (fa δ).bind fun (ds, δ1) => match δ1[i]? with
    | some (.own w xs) => if isL w = true then (F xs ds).map fun (d, xs') => (d, δ1.set i (.own w xs')) else none
    | _ => none
  else none
theorem callP_core {q : Ow} {hq : ∀ vs, hoOf q vs = .lst vs} {i : Nat} {F : List D → List D → Option (D × List D)} {S0 : Addr → Prop} {σ : L2.St} {δ1 : Es} {H1 : Hp} {Q : VK} {E : XK} {ds xs xs' : List D} {vs : List V} {d : D} {a : Addr} (hn : ds.length = n)
    (ok1 : Ok T S0 σ δ1 H1) (ea : σ[i]? = some (some (.ref a))) (e1 : δ1[i]? = some (.own q xs)) (r1 : Reps T H1 (Av S0 σ δ1) ds vs) (eF : F xs ds = some (d, xs'))
    (h : ∀ v H', Ok T S0 σ (δ1.set i (.own q xs')) H' → Step σ δ1 H1 σ (δ1.set i (.own q xs')) H' → Rep T H' (Av S0 σ (δ1.set i (.own q xs'))) d v → Q v H') : sp1 T n F (V.ref a :: vs) H1 Q E := by
  obtain ⟨b, us, q1, q2, q3, _⟩ := ok1.ow i q xs e1
  rw [ea] at q1; cases q1
  rw [hq] at q2
  refine ⟨Av S0 σ δ1, a, us, xs, vs, ds, d, xs', rfl, fun b z => ok1.trk z, .inr ⟨i, q, xs, e1, ea⟩, q2, q3, hn, r1, eF, fun v H' us' hk ha rs r => ?_⟩
  obtain ⟨ok2, s2⟩ := ok1.change e1 ea hk (by rw [hq]; exact ha) rs
  refine h v H' ok2 s2 (r.sub fun b z => z.elim .inl fun z => .inr ?_)
  obtain ⟨j, p, es, h1, h2⟩ := z
  rcases get_set h1 with ⟨rfl, _, z⟩ | ⟨_, h1⟩
  · exact ⟨j, q, xs, e1, h2⟩
  · exact ⟨j, p, es, h1, h2⟩
theorem kbn_pos {K : PySem.W.Frag} (hb : Binds K fd ps []) (hn : ps.length = n) : KBn K fd ps n [] (fun us _ => us) (fun vs _ => vs) := ⟨fun s us ws X l1 l2 => by
  have : ws = [] := by cases ws with | nil => rfl | cons _ _ => cases l2
  subst this
  have h := hb s us X (by rw [List.append_nil, l1, hn])
  rw [List.append_nil] at h
  exact h, fun r _ => r⟩
theorem pd_callP {i : Nat} {y : Str} {F : List D → List D → Option (D × List D)} {py : Pos} (G : FnG X.prog X.w X.K X.mg X.base k f fd ps (sp1 T n F)) (hq : Quiet X.A) (hr : Room k X.A) (hm : X.mg x = some (.ref f)) (hk : PySem.W.keepIn X.K (.ref f) = true) (hb : Binds X.K fd ps []) (hps : ps.length = n + 1)
    (ha : PA X es (tDs T fa)) (hl : LenA fa n := by repeat (first | exact lenA_nil | refine lenA_cons ?_)) (hN : X.N[i]? = some y := by rfl) (hv : Vis X.env.scope y := by first | exact Or.inl rfl | exact Or.inr (Or.inl rfl) | exact Or.inr (Or.inr rfl)) (hdy : (y == ("__debug__" : Str)) = false := by decide)
    (hcd : (y == ("__classdict__" : Str)) = false := by decide) (hg : Gl X x := by rfl) (hdb : (x == ("__debug__" : Str)) = false := by decide) (he : starEach (.Name y py :: es) X.env = (false, eval (.Name y py) X.env) :: starEach es X.env := by rfl)
    (hpl : ((backTo pos (starEach (.Name y py :: es) X.env)).any (·.1) || (backToKw pos (keywordEach [] X.env)).any (·.1.isNone)) = false := by rfl) :
    PE X (.Call (.Name x p) (.Name y py :: es) [] pos) (tD T (fCallP i F fa)) := PE.imp (pe_callG (E := E0) G hq hr hm hk (kbn_pos hb hps) (pa_cons (pe_var hN hv hdy hcd) ha he) pk_nil hg rfl rfl hdb he hpl) fun σ H Q h => by
  obtain ⟨S0, δ, d, δ', ok, e, q⟩ := h
  unfold fCallP at e
  by_cases h0 : isOwn δ[i]? = true
  case neg => rw [if_neg h0] at e; cases e
  rw [if_pos h0] at e
  obtain ⟨ds, δ1, e1, e2⟩ := bind_some2 e
  obtain ⟨w0, xs0, e0⟩ : ∃ w0 xs0, δ[i]? = some (.own w0 xs0) := by
    cases z : δ[i]? with
    | none => rw [z] at h0; cases h0
    | some sl =>
      rw [z] at h0
      cases sl with
      | un => cases h0
      | val _ => cases h0
      | own p xs => exact ⟨p, xs, rfl⟩
  obtain ⟨a, us, ea, _⟩ := ok.ow i w0 xs0 e0
  refine ⟨_, ea, S0, δ, ds, δ1, ok, e1, fun vs H1 ok1 s1 r1 => ⟨by rw [List.length_cons, r1.length, hl _ _ _ e1], rfl, ?_⟩⟩
  dsimp only at e2
  cases z : δ1[i]? with
  | none => rw [z] at e2; cases e2
  | some sl =>
    rw [z] at e2
    cases sl with
    | un => cases e2
    | val _ => cases e2
    | own p1 xs =>
      dsimp only at e2
      by_cases hp : isL p1 = true
      case neg => rw [if_neg hp] at e2; cases e2
      rw [if_pos hp] at e2
      obtain ⟨d1, xs', e4, e5⟩ := map_some2 e2
      cases e5
      exact callP_core (hq := isL_ho hp) (hl _ _ _ e1) ok1 ea z r1 e4 fun v H' ok' s' r => q v H' ok' (s1.trans s') r

/-! ### attributes -/
def fFld (c j : Nat) (fo : FE) : FE := fun δ => (fo δ).bind fun (d, δ1) => match d with
  | .obj c' ds => if c' = c then (ds[j]?).map fun d => (d, δ1) else none
  | _ => none
theorem zip_look : ∀ {ns : List Str} {vs : List V} {j : Nat} {v : V} {f : Str}, ns.Nodup → ns[j]? = some f → vs[j]? = some v → (ns.zip vs).lookup f = some v
  | [], _, _, _, _, _, h, _ => by simp at h
  | _, [], _, _, _, _, _, h => by simp at h
  | g :: ns, w :: vs, 0, v, f, _, h1, h2 => by
    simp at h1 h2
    subst h1; subst h2
    simp [List.lookup]
  | g :: ns, w :: vs, j + 1, v, f, nd, h1, h2 => by
    simp at h1 h2
    have hne : f ≠ g := fun z => by
      subst z
      exact (List.nodup_cons.mp nd).1 (List.mem_of_getElem? h1)
    have hb : (f == g) = false := by simpa using hne
    rw [List.zip_cons_cons, List.lookup_cons, hb]
    exact zip_look (List.nodup_cons.mp nd).2 h1 h2
theorem zip_none : ∀ {ns : List Str} {vs : List V} {f : Str}, f ∉ ns → (ns.zip vs).lookup f = none
  | [], _, _, _ => rfl
  | _ :: _, [], _, _ => rfl
  | g :: ns, w :: vs, f, h => by
    have hne : f ≠ g := fun z => h (by rw [z]; exact List.mem_cons_self)
    have hb : (f == g) = false := by simpa using hne
    rw [List.zip_cons_cons, List.lookup_cons, hb]
    exact zip_none fun z => h (List.mem_cons_of_mem _ z)
theorem pd_fld {ns : List Str} {j : Nat} {g : Str} (ho : PE X o (tD T fo)) (hT : T c = some (C, ns)) (hc : Cls X.K C) (hn : NoAttr X.K C g) (hj : ns[j]? = some g := by rfl) (nd : ns.Nodup := by decide +kernel) (hb : attributeBase o g X.env (eval o X.env) = eval o X.env := by rfl) :
    PE X (.Attribute o g pos) (tD T (fFld c j fo)) := PE.imp (pe_fld ho hb) fun σ H Q ⟨S0, δ, d, δ', ok, e, q⟩ => by
  obtain ⟨d0, δ1, e1, e2⟩ := bind_some2 e
  cases d0 <;> first | cases e2 | skip
  rename_i c' ds
  dsimp only at e2
  by_cases hcc : c' = c
  · subst hcc
    rw [if_pos rfl] at e2
    obtain ⟨d1, e3, e4⟩ := map_some1 e2
    cases e4
    refine ⟨S0, δ, _, δ', ok, e1, fun v H1 ok1 s1 r => ?_⟩
    rw [Rep] at r
    obtain ⟨a, dx, C', ns', vs, rfl, hT', ha, hl, na, rs⟩ := r
    rw [hT] at hT'; cases hT'
    obtain ⟨v, hv, rv⟩ := rs.get e3
    exact ⟨a, C, dx, _, v, rfl, ha, hc, hn, zip_look nd hj hv, q v H1 ok1 s1 rv⟩
  · rw [if_neg hcc] at e2; cases e2
/-- a property -/
def fProp (c : Nat) (F : List D → Option D) (fo : FE) : FE := fun δ => (fo δ).bind fun (d, δ1) => match d with
  | .obj c' ds => if c' = c then (F [.obj c' ds]).map fun d => (d, δ1) else none
  | _ => none
theorem pd_prop {ns : List Str} {F : List D → Option D} {g : Str} {q : Addr} (ho : PE X o (tD T fo)) (hT : T c = some (C, ns)) (hc : Cls X.K C) (hp : PropOf X.K C g q f) (G : FnG X.prog X.w X.K X.mg X.base k f fd ps (sp0 T 1 F)) (hq : Quiet X.A) (hr : Room (k + 1) X.A) (hb : Binds X.K fd ps [])
    (hab : attributeBase o g X.env (eval o X.env) = eval o X.env := by rfl) : PE X (.Attribute o g pos) (tD T (fProp c F fo)) := PE.imp (pe_propG (E := E0) (a' := f) ho hc hp G hq hr hb hab) fun σ H Q ⟨S0, δ, d, δ', ok, e, q⟩ => by
  obtain ⟨d0, δ1, e1, e2⟩ := bind_some2 e
  cases d0 <;> first | cases e2 | skip
  rename_i c' ds
  dsimp only at e2
  by_cases hcc : c' = c
  · subst hcc
    rw [if_pos rfl] at e2
    obtain ⟨d1, e3, e4⟩ := map_some1 e2
    cases e4
    refine ⟨S0, δ, _, δ', ok, e1, fun v H1 ok1 s1 r => ?_⟩
    have r' := r
    rw [Rep] at r
    obtain ⟨a, dx, C', ns', vs, rfl, hT', ha, hl, na, rs⟩ := r
    rw [hT] at hT'; cases hT'
    exact ⟨a, dx, _, rfl, ha, _, [.obj c' ds], d, fun b z => ok1.trk z, rfl, Reps.cons r' Reps.nil, e3, fun v H' sm r => q v H' (ok1.same sm) (s1.trans (Step.same sm)) r⟩
  · rw [if_neg hcc] at e2; cases e2
/-- o.m(..) -/
def fMeth (c : Nat) (F : List D → Option D) (gD : List D → List D → List D) (fo : FE) (fa fk : FA) : FE := fun δ => (fo δ).bind fun (d, δ1) => match d with
  | .obj c' ds => if c' = c then (fa δ1).bind fun (xs, δ2) => (fk δ2).bind fun (es, δ3) => (F (gD (.obj c' ds :: xs) es)).map fun d => (d, δ3) else none
  | _ => none
theorem meth_imp {ns : List Str} {F : List D → Option D} {gD : List D → List D → List D} {gV : List V → List V → List V} {fk : FA} {j i : Nat} (hT : T c = some (C, ns)) (hmn : m ∉ ns) (hl : LenA fa j) (hk : LenA fk i) (hn : ∀ ds es, ds.length = j + 1 → es.length = i → (gD ds es).length = n)
    (hG : ∀ (T : CT) (H : Hp) (S : Addr → Prop) (ds es : List D) (vs zs : List V), ds.length = j + 1 → es.length = i → Reps T H S ds vs → Reps T H S es zs → Reps T H S (gD ds es) (gV vs zs)) {σ : L2.St} {H : Hp} {Q : VK} {E : XK} (h : tD T (fMeth c F gD fo fa fk) σ H Q) :
    tMethN C m (j + 1) i (sp0 T n F) gV E (tD T fo) (tDs T fa) (tDs T fk) σ H Q := by
  obtain ⟨S0, δ, d, δ', ok, e, q⟩ := h
  obtain ⟨d0, δ1, e1, e2⟩ := bind_some2 e
  cases d0 <;> first | cases e2 | skip
  rename_i c' ds
  dsimp only at e2
  by_cases hcc : c' = c
  · subst hcc
    rw [if_pos rfl] at e2
    obtain ⟨xs, δ2, e3, e4⟩ := bind_some2 e2
    obtain ⟨es, δ3, e5, e6⟩ := bind_some2 e4
    dsimp only at e6
    obtain ⟨d1, e7, e8⟩ := map_some1 e6
    cases e8
    refine ⟨S0, δ, _, δ1, ok, e1, fun v H1 ok1 s1 r => ?_⟩
    have r' := r
    rw [Rep] at r
    obtain ⟨a, dx, C', ns', vs, rfl, hT', ha, hlen, na, rs⟩ := r
    rw [hT] at hT'; cases hT'
    refine ⟨a, dx, _, rfl, ha, zip_none hmn, S0, δ1, xs, δ2, ok1, e3, fun ws H2 ok2 s2 r2 => ⟨S0, δ2, es, δ', ok2, e5, fun zs H3 ok3 s3 r3 => ?_⟩⟩
    have l1 := hl _ _ _ e3
    have l2 := hk _ _ _ e5
    have rr : Reps T H3 (Av S0 σ δ') (.obj c' ds :: xs) (V.ref a :: ws) := Reps.cons ((s2.trans s3).rep r') (s3.reps r2)
    exact ⟨by rw [r2.length, l1], by rw [r3.length, l2], _, _, d, fun b z => ok3.trk z, hn _ _ (by rw [List.length_cons, l1]) l2, hG _ _ _ _ _ _ _ (by rw [List.length_cons, l1]) l2 rr r3, e7, fun v H' sm r => q v H' (ok3.same sm) (((s1.trans s2).trans s3).trans (Step.same sm)) r⟩
  · rw [if_neg hcc] at e2; cases e2
theorem pd_meth {pl : Sem Bool} {ns : List Str} {F : List D → Option D} {gD : List D → List D → List D} {ks : List Str} {kws : List Keyword} {fk : FA} {j : Nat} (ho : PE X o (tD T fo)) (hT : T c = some (C, ns)) (hc : Cls X.K C) (hm : Meth X.K C m f) (G : FnG X.prog X.w X.K X.mg X.base k f fd ps (sp0 T n F)) (hq : Quiet X.A) (hr : Room k X.A) (hb : Bnd X.K fd ps (j + 1) ks gD)
    (ha : PA X (e :: es) (tDs T fa)) (hkw : PK X kws (tDs T fk)) (hmn : m ∉ ns := by decide +kernel) (hn : ∀ ds es, ds.length = j + 1 → es.length = ks.length → (gD ds es).length = n := by intro ds es h1 h2; simp [gPos, h1, h2]) (hl : LenA fa j := by repeat (first | exact lenA_nil | refine lenA_cons ?_)) (hlk : LenA fk ks.length := by repeat (first | exact lenA_nil | refine lenA_cons ?_))
    (hall : (backToKw pos (keywordEach kws X.env)).all (·.1.isSome) = true := by rfl) (hks : (backToKw pos (keywordEach kws X.env)).filterMap (·.1) = ks := by rfl) (he : starEach (e :: es) X.env = (false, eval e X.env) :: starEach es X.env := by rfl)
    (hpl : ((backTo pos (starEach (e :: es) X.env)).any (·.1) || (backToKw pos (keywordEach kws X.env)).any (·.1.isNone)) = false := by rfl)
    (ht : eval (.Call (.Attribute o m apos) (e :: es) kws pos) X.env = (do
      let y ← eval o X.env
      standAt apos.atName
      let (h, first) ← holding [y] (getMethod y m pl)
      callWith pos h first (backTo pos (starEach (e :: es) X.env)) (backToKw pos (keywordEach kws X.env))) := by rfl) : PE X (.Call (.Attribute o m apos) (e :: es) kws pos) (tD T (fMeth c F gD fo fa fk)) := by
  obtain ⟨g, gV, hb, hG⟩ := hb
  exact PE.imp (pe_methG (E := E0) ho hc hm G hq hr hb ha hkw hall hks he hpl ht) fun _ _ _ h => meth_imp hT hmn hl hlk hn hG h
theorem pd_meth0 {pl : Sem Bool} {ns : List Str} {F : List D → Option D} {gD : List D → List D → List D} {ks : List Str} {kws : List Keyword} {fk : FA} (ho : PE X o (tD T fo)) (hT : T c = some (C, ns)) (hc : Cls X.K C) (hm : Meth X.K C m f) (G : FnG X.prog X.w X.K X.mg X.base k f fd ps (sp0 T n F)) (hq : Quiet X.A) (hr : Room k X.A) (hb : Bnd X.K fd ps 1 ks gD)
    (hkw : PK X kws (tDs T fk)) (hmn : m ∉ ns := by decide +kernel) (hn : ∀ ds es, ds.length = 0 + 1 → es.length = ks.length → (gD ds es).length = n := by intro ds es h1 h2; simp [gPos, h1, h2]) (hlk : LenA fk ks.length := by repeat (first | exact lenA_nil | refine lenA_cons ?_))
    (hall : (backToKw pos (keywordEach kws X.env)).all (·.1.isSome) = true := by rfl) (hks : (backToKw pos (keywordEach kws X.env)).filterMap (·.1) = ks := by rfl)
    (hpl : ((backTo pos (starEach [] X.env)).any (·.1) || (backToKw pos (keywordEach kws X.env)).any (·.1.isNone)) = false := by rfl)
    (ht : eval (.Call (.Attribute o m apos) [] kws pos) X.env = (do
      let y ← eval o X.env
      standAt apos.atName
      let (h, first) ← holding [y] (getMethod y m pl)
      callWith pos h first (backTo pos (starEach [] X.env)) (backToKw pos (keywordEach kws X.env))) := by rfl) : PE X (.Call (.Attribute o m apos) [] kws pos) (tD T (fMeth c F gD fo fNil fk)) := by
  obtain ⟨g, gV, hb, hG⟩ := hb
  refine PE.imp (pe_methG0 (E := E0) ho hc hm G hq hr hb hkw hall hks hpl ht) fun σ H Q h => ?_
  obtain ⟨S0, δ, d, δ1, ok, e1, q⟩ := meth_imp (E := E0) hT hmn lenA_nil hlk hn hG h
  refine ⟨S0, δ, d, δ1, ok, e1, fun v H1 ok1 s1 r => ?_⟩
  obtain ⟨a, dx, fs, q1, q2, q3, S1, δ2, ds, δ3, ok2, e2, q4⟩ := q v H1 ok1 s1 r
  cases e2
  exact ⟨a, dx, fs, q1, q2, q3, q4 [] H1 ok2 Step.refl Reps.nil⟩

/-! ### objects made -/
def fMake (c : Nat) (F : List D → Option (List D)) (gD : List D → List D → List D) (fa fk : FA) : FE := fun δ => (fa δ).bind fun (ds, δ1) => (fk δ1).bind fun (es, δ2) => (F (gD ds es)).map fun fs => (.obj c fs, δ2)
theorem make_core {ns : List Str} {F : List D → Option (List D)} {ds fs : List D} {S0 : Addr → Prop} {σ : L2.St} {δ1 : Es} {H1 : Hp} {Q : VK} {E : XK} {vs : List V} {y dx : Addr} (hT : T c = some (C, ns)) (hn : ds.length = n) (ok1 : Ok T S0 σ δ1 H1) (r1 : Reps T H1 (Av S0 σ δ1) ds vs) (eF : F ds = some fs)
    (ny : H1 y = none) (nd : H1 dx = none) (ne : dx ≠ y) (q : ∀ v H', Ok T S0 σ δ1 H' → Step σ δ1 H1 σ δ1 H' → Rep T H' (Av S0 σ δ1) (.obj c fs) v → Q v H') :
    spI T c n F (V.ref y :: vs) (upd (upd H1 dx (.own y)) y (.ins C dx [])) (fun v H2 => v = .non ∧ Q (.ref y) H2) E := by
  have sm : Same H1 (upd (upd H1 dx (.own y)) y (.ins C dx [])) := fun b o e => by rw [upd_ne (ne_of_none e ny), upd_ne (ne_of_none e nd)]; exact e
  refine ⟨fun b => Av S0 σ δ1 b ∨ b = y, y, C, dx, ns, vs, ds, fs, rfl, hT, upd_same, fun b z => z.elim (fun z => let ⟨o, e⟩ := ok1.trk z; ⟨o, sm b o e⟩) (fun z => ⟨.ins C dx [], by rw [z]; exact upd_same⟩), .inr rfl, hn, r1.move (fun b o e _ => sm b o e) fun b z => z.elim .inl fun z => .inr (by rw [z]; exact ny), eF, fun H' vs' hk hy hl rs => ⟨rfl, ?_⟩⟩
  have sm' : Same H1 H' := fun b o e => hk b o (sm b o e) (ne_of_none e ny)
  refine q _ H' (ok1.same sm') (Step.same sm') ?_
  rw [Rep]
  exact ⟨y, dx, C, ns, vs', rfl, hT, hy, hl, ok1.fresh ny, rs.sub fun b z => .inl z⟩
/-- how the values behind self come to an __init__ -/
def BndI (K : PySem.W.Frag) (fd : FuncData) (ps : List Str) (n : Nat) (ks : List Str) (gD : List D → List D → List D) : Prop :=
  ∃ g gV, KBn K fd ps (n + 1) ks g gV ∧ ∃ hV : List V → List V → List V, (∀ x vs zs, vs.length = n → zs.length = ks.length → gV (x :: vs) zs = x :: hV vs zs) ∧ ∀ (T : CT) (H : Hp) (S : Addr → Prop) (ds es : List D) (vs zs : List V), ds.length = n → es.length = ks.length → Reps T H S ds vs → Reps T H S es zs → Reps T H S (gD ds es) (hV vs zs)
theorem make_imp {ns : List Str} {F : List D → Option (List D)} {gD : List D → List D → List D} {gV hV : List V → List V → List V} {fk : FA} {j i : Nat} (hT : T c = some (C, ns)) (hl : LenA fa j) (hk : LenA fk i) (hn : ∀ ds es, ds.length = j → es.length = i → (gD ds es).length = n)
    (hx : ∀ x vs zs, vs.length = j → zs.length = i → gV (x :: vs) zs = x :: hV vs zs) (hG : ∀ (T : CT) (H : Hp) (S : Addr → Prop) (ds es : List D) (vs zs : List V), ds.length = j → es.length = i → Reps T H S ds vs → Reps T H S es zs → Reps T H S (gD ds es) (hV vs zs))
    {σ : L2.St} {H : Hp} {Q : VK} {E : XK} (h : tD T (fMake c F gD fa fk) σ H Q) : tMakeN C j i (spI T c n F) gV E (tDs T fa) (tDs T fk) σ H Q := by
  obtain ⟨S0, δ, d, δ', ok, e, q⟩ := h
  obtain ⟨ds, δ1, e1, e2⟩ := bind_some2 e
  obtain ⟨es, δ2, e3, e4⟩ := bind_some2 e2
  dsimp only at e4
  obtain ⟨fs, e5, e6⟩ := map_some1 e4
  cases e6
  refine ⟨S0, δ, ds, δ1, ok, e1, fun vs H1 ok1 s1 r1 => ⟨S0, δ1, es, δ', ok1, e3, fun zs H2 ok2 s2 r2 => ?_⟩⟩
  have l1 := hl _ _ _ e1
  have l2 := hk _ _ _ e3
  refine ⟨by rw [r1.length, l1], by rw [r2.length, l2], fun y dx ny nd ne => ?_⟩
  rw [hx _ _ _ (by rw [r1.length, l1]) (by rw [r2.length, l2])]
  exact make_core hT (hn _ _ l1 l2) ok2 (hG _ _ _ _ _ _ _ l1 l2 (s2.reps r1) r2) e5 ny nd ne fun v H' ok' s' r => q v H' ok' ((s1.trans s2).trans s') r
theorem pd_make {ns : List Str} {F : List D → Option (List D)} {gD : List D → List D → List D} {ks : List Str} {kws : List Keyword} {fk : FA} {j : Nat} (hT : T c = some (C, ns)) (M : Mk X.K C f) (G : FnG X.prog X.w X.K X.mg X.base k f fd ps (spI T c n F)) (hq : Quiet X.A) (hr : Room (k + 1) X.A) (hm : X.mg x = some (.ref C)) (hb : BndI X.K fd ps j ks gD)
    (ha : PA X (e :: es) (tDs T fa)) (hkw : PK X kws (tDs T fk)) (hn : ∀ ds es, ds.length = j → es.length = ks.length → (gD ds es).length = n := by intro ds es h1 h2; simp [gPos, h1, h2]) (hl : LenA fa j := by repeat (first | exact lenA_nil | refine lenA_cons ?_)) (hlk : LenA fk ks.length := by repeat (first | exact lenA_nil | refine lenA_cons ?_)) (hg : Gl X x := by rfl)
    (hall : (backToKw pos (keywordEach kws X.env)).all (·.1.isSome) = true := by rfl) (hks : (backToKw pos (keywordEach kws X.env)).filterMap (·.1) = ks := by rfl) (hdb : (x == ("__debug__" : Str)) = false := by decide) (he : starEach (e :: es) X.env = (false, eval e X.env) :: starEach es X.env := by rfl)
    (hpl : ((backTo pos (starEach (e :: es) X.env)).any (·.1) || (backToKw pos (keywordEach kws X.env)).any (·.1.isNone)) = false := by rfl) : PE X (.Call (.Name x p) (e :: es) kws pos) (tD T (fMake c F gD fa fk)) := by
  obtain ⟨g, gV, hb, hV, hx, hG⟩ := hb
  exact PE.imp (pe_makeG (E := E0) M G hq hr hm hb ha hkw hg hall hks hdb he hpl) fun _ _ _ h => make_imp hT hl hlk hn hx hG h
theorem pd_make0 {ns : List Str} {F : List D → Option (List D)} {gD : List D → List D → List D} {ks : List Str} {kws : List Keyword} {fk : FA} (hT : T c = some (C, ns)) (M : Mk X.K C f) (G : FnG X.prog X.w X.K X.mg X.base k f fd ps (spI T c n F)) (hq : Quiet X.A) (hr : Room (k + 1) X.A) (hm : X.mg x = some (.ref C)) (hb : BndI X.K fd ps 0 ks gD)
    (hkw : PK X kws (tDs T fk)) (hn : ∀ ds es, ds.length = 0 → es.length = ks.length → (gD ds es).length = n := by intro ds es h1 h2; simp [gPos, h1, h2]) (hlk : LenA fk ks.length := by repeat (first | exact lenA_nil | refine lenA_cons ?_)) (hg : Gl X x := by rfl)
    (hall : (backToKw pos (keywordEach kws X.env)).all (·.1.isSome) = true := by rfl) (hks : (backToKw pos (keywordEach kws X.env)).filterMap (·.1) = ks := by rfl) (hdb : (x == ("__debug__" : Str)) = false := by decide)
    (hpl : ((backTo pos (starEach [] X.env)).any (·.1) || (backToKw pos (keywordEach kws X.env)).any (·.1.isNone)) = false := by rfl) : PE X (.Call (.Name x p) [] kws pos) (tD T (fMake c F gD fNil fk)) := by
  obtain ⟨g, gV, hb, hV, hx, hG⟩ := hb
  refine PE.imp (pe_makeG0 (E := E0) M G hq hr hm hb hkw hg hall hks hdb hpl) fun σ H Q h => ?_
  obtain ⟨S0, δ, ds, δ1, ok, e1, q⟩ := make_imp (E := E0) hT lenA_nil hlk hn hx hG h
  cases e1
  exact q [] H ok Step.refl Reps.nil
/-- self.f = e in an __init__: the next attribute -/
def sIni (i : Nat) (C : Addr) (ns : List Str) (g : Str) (fv : FE) : FS := fun δ => (fv δ).bind fun (d, δ1) => match δ1[i]? with
  | some (.own (.ini C' dx ns') ds) => if C' = C ∧ ns' = ns ∧ ns[ds.length]? = some g then some (.nx (δ1.set i (.own (.ini C' dx ns') (ds ++ [d])))) else none
  | _ => none
theorem putF_zip : ∀ {ns : List Str} {vs : List V} {g : Str} {v : V}, ns.Nodup → ns[vs.length]? = some g → putF g v (ns.zip vs) = ns.zip (vs ++ [v])
  | [], _, _, _, _, h => by simp at h
  | a :: ns, [], g, v, _, h => by
    simp at h
    subst h
    simp [putF]
  | a :: ns, w :: vs, g, v, nd, h => by
    simp at h
    have hne : ¬ a = g := fun z => by
      subst z
      exact (List.nodup_cons.mp nd).1 (List.mem_of_getElem? h)
    rw [List.zip_cons_cons]
    show (if a = g then _ else (a, w) :: putF g v (ns.zip vs)) = _
    rw [if_neg hne, putF_zip (List.nodup_cons.mp nd).2 h]
    rfl
theorem st_ini {i : Nat} {y g : Str} {py pa : Pos} {v : Expr} {fv : FE} {ns : List Str} (hv : PE X v (tD T fv)) (hc : Cls X.K C) (hn : NoAttr X.K C g) (nd : ns.Nodup := by decide +kernel) (hlen : ns.length < 1000 := by decide) (hN : X.N[i]? = some y := by rfl)
    (hvis : Vis X.env.scope y := by first | exact Or.inl rfl | exact Or.inr (Or.inl rfl) | exact Or.inr (Or.inr rfl)) (hdy : (y == ("__debug__" : Str)) = false := by decide) (hcd : (y == ("__classdict__" : Str)) = false := by decide)
    (hs : swapsWith v (some (.Attribute (.Name y py) g pa)) pos.line X.env = pure false := by rfl) : PS X (.Assign [.Attribute (.Name y py) g pa] v pos) (tSt T (sIni i C ns g fv)) := PS.imp (ps_fld (pe_var hN hvis hdy hcd) hv hs) fun E σ H ⟨S0, δ, r, ok, e, q⟩ => by
  obtain ⟨d, δ1, e1, e2⟩ := bind_some2 e
  refine ⟨S0, δ, d, δ1, ok, e1, fun w H1 ok1 s1 rw' => ?_⟩
  dsimp only at e2
  cases z : δ1[i]? with
  | none => rw [z] at e2; cases e2
  | some sl =>
    rw [z] at e2
    cases sl with
    | un => cases e2
    | val _ => cases e2
    | own p1 ds =>
      cases p1 with
      | mine => cases e2
      | pot => cases e2
      | ini C' dx' ns' =>
        dsimp only at e2
        obtain ⟨⟨hC, hns, hg⟩, e3⟩ := ite_some e2
        subst hC hns
        subst e3
        obtain ⟨a, vs, ea, ha, rs, _⟩ := ok1.ow i _ ds z
        have hl := rs.length
        have hlt : ds.length < ns'.length := (List.getElem?_eq_some_iff.mp hg).1
        refine ⟨_, ea, a, C', dx', ns'.zip vs, rfl, ha, hc, hn, by rw [List.length_zip]; omega, ?_⟩
        rw [putF_zip nd (by rw [hl]; exact hg)]
        have hk : ∀ b o, H1 b = some o → b ≠ a → upd H1 a (.ins C' dx' (ns'.zip (vs ++ [w]))) b = some o := fun b o e ne => by rw [upd_ne ne]; exact e
        have na : Av S0 σ δ1 a := .inr ⟨i, _, ds, z, ea⟩
        obtain ⟨ok2, s2⟩ := ok1.change (H' := upd H1 a (.ins C' dx' (ns'.zip (vs ++ [w])))) (us := vs ++ [w]) z ea hk upd_same ((rs.append (Reps.cons rw' Reps.nil)).move (fun b o e n => hk b o e fun q => n (by rw [q]; exact na)) fun b z => .inl z)
        exact q _ _ ok2 (s1.trans s2)
end
end Dl
namespace Dl
open PySem PySem.Spec PyProof.Rows L2

/-- the slots at a def's entry -/
def ini (m : Nat) (ds : List D) : Es := ds.map .val ++ List.replicate (m - ds.length) .un
theorem ini_ok {T : CT} {S : Addr → Prop} {H : Hp} {N : List Str} {ds : List D} {vs : List V} (tr : ∀ b, S b → ∃ o, H b = some o) (r : Reps T H S ds vs) : Ok T S (L2.start N vs) (ini N.length ds) H := by
  have hl := r.length
  have nown : ∀ b, ¬ ownAt (L2.start N vs) (ini N.length ds) b := fun b ⟨i, p, es, h1, _⟩ => by
    unfold ini at h1
    rw [List.getElem?_append] at h1
    split at h1
    · rw [List.getElem?_map] at h1
      cases q : ds[i]? with
      | none => rw [q] at h1; cases h1
      | some d => rw [q] at h1; cases h1
    · rw [List.getElem?_replicate] at h1
      split at h1 <;> cases h1
  refine ⟨?_, tr, fun i d h => ?_, fun i p es h => ?_, fun i j p q es fs a h1 h2 h3 h4 => ?_⟩
  · unfold L2.start ini
    simp only [List.length_append, List.length_map, List.length_replicate]
    omega
  · unfold ini at h
    rw [List.getElem?_append] at h
    split at h
    · rename_i hi
      rw [List.getElem?_map] at h
      cases q : ds[i]? with
      | none => rw [q] at h; cases h
      | some d' =>
        rw [q] at h
        cases h
        obtain ⟨v, hv, rv⟩ := r.get q
        refine ⟨v, ?_, rv.sub fun b z => z.elim id fun z => (nown b z).elim⟩
        unfold L2.start
        have hi' : i < vs.length := (List.getElem?_eq_some_iff.mp hv).1
        rw [List.getElem?_append_left (by simpa using hi'), List.getElem?_map, hv]
        rfl
    · rw [List.getElem?_replicate] at h
      split at h <;> cases h
  · unfold ini at h
    rw [List.getElem?_append] at h
    split at h
    · rw [List.getElem?_map] at h
      cases q : ds[i]? with
      | none => rw [q] at h; cases h
      | some d => rw [q] at h; cases h
    · rw [List.getElem?_replicate] at h
      split at h <;> cases h
  · obtain ⟨⟩ := nown a ⟨i, p, es, h1, h3⟩
theorem ini_own {N : List Str} {ds : List D} {vs : List V} : ∀ b, ¬ ownAt (L2.start N vs) (ini N.length ds) b := fun b ⟨i, p, es, h1, _⟩ => by
  unfold ini at h1
  rw [List.getElem?_append] at h1
  split at h1
  · rw [List.getElem?_map] at h1
    cases q : ds[i]? with
    | none => rw [q] at h1; cases h1
    | some d => rw [q] at h1; cases h1
  · rw [List.getElem?_replicate] at h1
    split at h1 <;> cases h1
/-- .. whose first parameter is the caller's own -/
theorem iniP_ok {T : CT} {S : Addr → Prop} {H : Hp} {N : List Str} {ds xs : List D} {vs us : List V} {p : Addr} {w : Ow} (hw : w ≠ .mine) (tr : ∀ b, S b → ∃ o, H b = some o) (hp : S p) (ha : H p = some (hoOf w us)) (rx : Reps T H S xs us) (r : Reps T H S ds vs) (hN : 0 < N.length) :
    Ok T S (L2.start N (V.ref p :: vs)) (.own w xs :: ini (N.length - 1) ds) H ∧ ∀ b, ownAt (L2.start N (V.ref p :: vs)) (.own w xs :: ini (N.length - 1) ds) b → b = p := by
  have hl := r.length
  have hst : L2.start N (V.ref p :: vs) = some (V.ref p) :: (vs.map some ++ List.replicate (N.length - (vs.length + 1)) none) := by
    unfold L2.start
    simp
  have nth : ∀ (i : Nat) q es, (ini (N.length - 1) ds)[i]? = some (.own q es) → False := fun i q es h1 => by
    unfold ini at h1
    rw [List.getElem?_append] at h1
    split at h1
    · rw [List.getElem?_map] at h1
      cases q : ds[i]? with
      | none => rw [q] at h1; cases h1
      | some d => rw [q] at h1; cases h1
    · rw [List.getElem?_replicate] at h1
      split at h1 <;> cases h1
  have own1 : ∀ b, ownAt (L2.start N (V.ref p :: vs)) (.own w xs :: ini (N.length - 1) ds) b → b = p := fun b ⟨i, q, es, h1, h2⟩ => by
    rw [hst] at h2
    cases i with
    | zero => simp at h2; exact h2.symm
    | succ i => simp at h1; exact (nth i q es h1).elim
  have sub : ∀ b, Av S (L2.start N (V.ref p :: vs)) (.own w xs :: ini (N.length - 1) ds) b → S b := fun b z => z.elim id fun z => by rw [own1 b z]; exact hp
  refine ⟨⟨?_, tr, fun i d h => ?_, fun i q es h => ?_, fun i j q1 q2 es fs a h1 h2 h3 h4 => ?_⟩, own1⟩
  · rw [hst]
    unfold ini
    simp only [List.length_cons, List.length_append, List.length_map, List.length_replicate]
    omega
  · cases i with
    | zero => simp at h
    | succ i =>
      simp at h
      unfold ini at h
      rw [List.getElem?_append] at h
      split at h
      · rw [List.getElem?_map] at h
        cases q : ds[i]? with
        | none => rw [q] at h; cases h
        | some d' =>
          rw [q] at h
          cases h
          obtain ⟨v, hv, rv⟩ := r.get q
          refine ⟨v, ?_, rv.sub sub⟩
          rw [hst]
          have hi' : i < vs.length := (List.getElem?_eq_some_iff.mp hv).1
          rw [List.getElem?_cons_succ, List.getElem?_append_left (by simpa using hi'), List.getElem?_map, hv]
          rfl
      · rw [List.getElem?_replicate] at h
        split at h <;> cases h
  · cases i with
    | zero =>
      simp at h
      obtain ⟨rfl, rfl⟩ := h
      exact ⟨p, us, by rw [hst]; rfl, ha, rx.sub sub, fun z => absurd z hw⟩
    | succ i => simp at h; exact (nth i q es h).elim
  · cases i with
    | zero => cases j with
      | zero => rfl
      | succ j => simp at h2; exact (nth j q2 fs h2).elim
    | succ i => simp at h1; exact (nth i q1 es h1).elim

/-- how a body's end tells the value -/
def endD : Fl → Option D
  | .rt d _ => some d
  | .nx _ => some .non
  | _ => none
def endP : Fl → Option (D × List D)
  | .rt d (.own .pot xs :: _) => some (d, xs)
  | .nx (.own .pot xs :: _) => some (.non, xs)
  | _ => none
def endI (C : Addr) (ns : List Str) : Fl → Option (List D)
  | .nx (.own (.ini C' _ ns') xs :: _) => if C' = C ∧ ns' = ns ∧ xs.length = ns.length then some xs else none
  | _ => none
section
variable {P : Program} {w : World} {K : PySem.W.Frag} {mg : Str → Option Value} {base : Heap} {T : CT}
theorem end0 {S : Addr → Prop} {H : Hp} {N : List Str} {ds : List D} {vs : List V} {g : FS} {d : D} {r : Fl} {Q : VK} (tr : ∀ b, S b → ∃ o, H b = some o) (rr : Reps T H S ds vs) (eg : g (ini N.length ds) = some r) (er : endD r = some d) (q : ∀ v H', Same H H' → Rep T H' S d v → Q v H') :
    tSt T g { nx := fun _ H' => Q .non H', rt := Q } (L2.start N vs) H := by
  refine ⟨S, ini N.length ds, r, ini_ok tr rr, eg, ?_⟩
  cases r with
  | nx δ' => cases er; exact fun σ' H' ok s => q _ H' (fun b o e => s.keep b o e (ini_own b)) (rep_lit rfl)
  | bk δ' => cases er
  | ct δ' => cases er
  | rt d' δ' => cases er; exact fun v σ' H' ok s r => q v H' (fun b o e => s.keep b o e (ini_own b)) (r.sub fun b z => .inl z)
/-- THE RULE for a def: its body's function tells what G tells -/
theorem ok0 {x qual : Str} {st : Stmt} {f : Addr} {fd : FuncData} {N ps : List Str} {k : Nat} {g : FS} (G : List D → Option D) (F : Fun K x qual st f fd) (S : FnScope N ps (defScope st))
    (body : ∀ (cdv : Value) (A : Around) (outer : List PySem.Env) (s : Shared) (H : Hp) (E : XK), Quiet A → Room k (A.deeper (envOfC qual (defScope st) s.heap.objs.size f cdv)) → PSs (cxOf CX0 P w K mg base N qual (defScope st) f cdv A outer s H E).nox (defBody st) (tSt T g))
    (tell : ∀ ds d, ds.length = ps.length → G ds = some d → ∃ r, g (ini N.length ds) = some r ∧ endD r = some d) : FnG P w K mg base (k + 1) f fd ps (sp0 T ps.length G) := by
  obtain ⟨oc, od, kV, doc, pm, an, cdv, ct, osl, rfl, lk, hcd⟩ := F.ex
  refine fnG_of lk hcd S (fun vs H Q E h => ?_) (fun A outer s H vs Q E hq hr h => ?_)
  · obtain ⟨S, ds, d, _, hl, r, _⟩ := h
    rw [r.length, hl]
  · obtain ⟨S, ds, d, tr, hl, r, eG, q⟩ := h
    obtain ⟨r1, e1, e2⟩ := tell ds d hl eG
    exact ⟨_, body cdv A outer s H E hq hr, end0 tr r e1 e2 q⟩
theorem endP_some {r : Fl} {d : D} {xs : List D} (h : endP r = some (d, xs)) : (∃ δ, r = .rt d (.own .pot xs :: δ)) ∨ (d = .non ∧ ∃ δ, r = .nx (.own .pot xs :: δ)) := by
  unfold endP at h
  split at h
  · cases h; exact .inl ⟨_, rfl⟩
  · cases h; exact .inr ⟨rfl, _, rfl⟩
  · cases h
theorem ok1 {x qual : Str} {st : Stmt} {f : Addr} {fd : FuncData} {N ps : List Str} {k n : Nat} {g : FS} (G : List D → List D → Option (D × List D)) (F : Fun K x qual st f fd) (S : FnScope N ps (defScope st)) (hn : ps.length = n + 1)
    (body : ∀ (cdv : Value) (A : Around) (outer : List PySem.Env) (s : Shared) (H : Hp) (E : XK), Quiet A → Room k (A.deeper (envOfC qual (defScope st) s.heap.objs.size f cdv)) → PSs (cxOf CX0 P w K mg base N qual (defScope st) f cdv A outer s H E).nox (defBody st) (tSt T g))
    (tell : ∀ xs ds d xs', ds.length = n → G xs ds = some (d, xs') → ∃ r, g (.own .pot xs :: ini (N.length - 1) ds) = some r ∧ endP r = some (d, xs')) : FnG P w K mg base (k + 1) f fd ps (sp1 T n G) := by
  have hN : 0 < N.length := by
    have h := congrArg List.length S.pre
    rw [List.length_take, hn] at h
    omega
  obtain ⟨oc, od, kV, doc, pm, an, cdv, ct, osl, rfl, lk, hcd⟩ := F.ex
  refine fnG_of lk hcd S (fun vs H Q E h => ?_) (fun A outer s H vs Q E hq hr h => ?_)
  · obtain ⟨S, p, us, xs, ws, ds, d, xs', rfl, _, _, _, _, hl, r, _⟩ := h
    rw [List.length_cons, r.length, hl, hn]
  · obtain ⟨S, p, us, xs, ws, ds, d, xs', rfl, tr, hp, ha, rx, hl, r, eG, q⟩ := h
    obtain ⟨r1, e1, e2⟩ := tell xs ds d xs' hl eG
    obtain ⟨ok, own1⟩ := iniP_ok (w := .pot) (by intro z; cases z) tr hp ha rx r hN
    refine ⟨_, body cdv A outer s H E hq hr, S, _, r1, ok, e1, ?_⟩
    have fin : ∀ (σ' : L2.St) (H' : Hp) (δ1 : Es) (v : V), Ok T S σ' (.own .pot xs' :: δ1) H' → Step (L2.start N (V.ref p :: ws)) (.own .pot xs :: ini (N.length - 1) ds) H σ' (.own .pot xs' :: δ1) H' → Rep T H' S d v → Q v H' := fun σ' H' δ1 v ok' s r => by
      obtain ⟨a, us', e3, e4, rs, _⟩ := ok'.ow 0 .pot xs' rfl
      obtain ⟨_, e5⟩ := s.pot 0 .pot xs' (by intro z; cases z) rfl
      rw [e3] at e5
      have ep : a = p := by
        have h0 : (L2.start N (V.ref p :: ws))[0]? = some (some (V.ref p)) := by unfold L2.start; simp
        rw [h0] at e5
        injection e5 with e5
        injection e5 with e5
        injection e5
      subst ep
      exact q v H' us' (fun b o e ne => s.keep b o e fun z => ne (own1 b z)) e4 (rs.sub fun b z => .inl z) r
    rcases endP_some e2 with ⟨δ1, rfl⟩ | ⟨rfl, δ1, rfl⟩
    · exact fun v σ' H' ok' s r => fin σ' H' δ1 v ok' s (r.sub fun b z => .inl z)
    · exact fun σ' H' ok' s => fin σ' H' δ1 _ ok' s (rep_lit rfl)
theorem endI_some {C : Addr} {ns : List Str} {r : Fl} {xs : List D} (h : endI C ns r = some xs) : ∃ dx δ, r = .nx (.own (.ini C dx ns) xs :: δ) ∧ xs.length = ns.length := by
  unfold endI at h
  split at h
  · obtain ⟨⟨e1, e2, e3⟩, e4⟩ := ite_some h
    subst e1 e2 e4
    exact ⟨_, _, rfl, e3⟩
  · cases h
/-- an __init__ with defaults -/
theorem okI {x qual : Str} {params : Arguments} {bd : List Stmt} {scope : Scope} {dvs : List V} {f : Addr} {fd : FuncData} {N ps : List Str} {k n c : Nat} {C : Addr} {ns : List Str} {g : FS} (G : List D → Option (List D)) (F : FunD K x qual params bd scope dvs [] f fd) (S : FnScope N ps scope) (hn : ps.length = n + 1) (hT : T c = some (C, ns))
    (body : ∀ (cdv : Value) (A : Around) (outer : List PySem.Env) (s : Shared) (H : Hp) (E : XK), Quiet A → Room k (A.deeper (envOfC qual scope s.heap.objs.size f cdv)) → PSs (cxOf CX0 P w K mg base N qual scope f cdv A outer s H E).nox bd (tSt T g))
    (tell : ∀ dx ds fs, ds.length = n → G ds = some fs → ∃ r, g (.own (.ini C dx ns) [] :: ini (N.length - 1) ds) = some r ∧ endI C ns r = some fs) : FnG P w K mg base (k + 1) f fd ps (spI T c n G) := by
  have hN : 0 < N.length := by
    have h := congrArg List.length S.pre
    rw [List.length_take, hn] at h
    omega
  obtain ⟨oc, od, dV, kV, doc, pm, an, cdv, ct, osl, rfl, lk, hcd, _, _⟩ := F.ex
  refine fnG_of lk hcd S (fun vs H Q E h => ?_) (fun A outer s H vs Q E hq hr h => ?_)
  · obtain ⟨S, y, C', dx, ns', ws, ds, fs, rfl, _, _, _, _, hl, r, _⟩ := h
    rw [List.length_cons, r.length, hl, hn]
  · obtain ⟨S, y, C', dx, ns', ws, ds, fs, rfl, hT', hy, tr, hp, hl, r, eG, q⟩ := h
    rw [hT] at hT'; cases hT'
    obtain ⟨r1, e1, e2⟩ := tell dx ds fs hl eG
    obtain ⟨ok, own1⟩ := iniP_ok (w := .ini C dx ns) (us := []) (xs := []) (by intro z; cases z) tr hp (by rw [hy]; simp [hoOf]) Reps.nil r hN
    refine ⟨_, body cdv A outer s H E hq hr, S, _, r1, ok, e1, ?_⟩
    obtain ⟨dx', δ1, rfl, hlen⟩ := endI_some e2
    refine fun σ' H' ok' s => ?_
    obtain ⟨a, us', e3, e4, rs, _⟩ := ok'.ow 0 _ fs rfl
    obtain ⟨⟨es, e6⟩, e5⟩ := s.pot 0 _ fs (by intro z; cases z) rfl
    simp at e6
    obtain ⟨rfl, _⟩ := e6
    rw [e3] at e5
    have ep : a = y := by
      have h0 : (L2.start N (V.ref y :: ws))[0]? = some (some (V.ref y)) := by unfold L2.start; simp
      rw [h0] at e5
      injection e5 with e5
      injection e5 with e5
      injection e5
    subst ep
    exact q H' us' (fun b o e ne => s.keep b o e fun z => ne (own1 b z)) e4 (by rw [rs.length, hlen]) (rs.sub fun b z => .inl z)
end
end Dl
namespace OwB
open PySem PySem.W PySem.SeqAt PyProof.Rows PySem.Builtin
section
variable {prog : Program} {w : World} {A : Around} {E : Value → Shared → Prop} {s : Shared} {K : Frag} {x C f : Addr} {h₀ : Heap} {m : Str → Option Value} {ox : Obj} {od : Option Obj}
theorem ne_body {b : Value} {Q : Fin → Shared → Prop} (X : K.In s.heap) (I : InstAt s.heap x ox C od) (hu : A.units < cLine) (hs : findIn K (.ref C) "__eq__" = some (some (.ref f))) (hf : isFn K (.ref f) = true)
    (h : wpAny (model prog w) A (call (.ref f) [.ref x, b]) (fun v s' => ∃ k, v = .bool k ∧ Q (.done (.ret (.bool (!k)))) s') E s) : wpAny (model prog w) A (Builtin.«object.__ne__» ⟨[.ref x, b], []⟩) Q E s := by
  unfold Builtin.«object.__ne__»
  repeat (first
    | with_reducible refine wpAny_cRoomFor hu ?_
    | (refine wpAny_bind (m := callSpecialIfBound? (.ref x) (Str.ofString "__eq__") [b]) (ifBound_K X I hs hf (wpAny_mono h (fun r s' hr => by
          obtain ⟨k, rfl, hq⟩ := hr
          repeat (first | exact hq | exact wpAny_pure hq | exact wpAny_truthy_bool hq | (refine wpAny_bind (m := truthy (.bool _)) (wpAny_truthy_bool ?_)) | wp_step)) fun _ _ e => e)))
    | wp_step)
theorem try_ne {b : Value} {Q : Option Value → Shared → Prop} (X : K.In s.heap) (I : InstAt s.heap x ox C od) (hu : A.units + 1 < cLine) (hn : findIn K (.ref C) "__ne__" = some (some (.builtin "object.__ne__"))) (hob : subIn K (.ref C) (.type "object") = some true)
    (hs : findIn K (.ref C) "__eq__" = some (some (.ref f))) (hf : isFn K (.ref f) = true)
    (h : wpAny (model prog w) A.in1 (call (.ref f) [.ref x, b]) (fun v s' => ∃ k, v = .bool k ∧ Q (some (.bool (!k))) s') E s) : wpAny (model prog w) A (tryCompare (.ref x) "__ne__" b) Q E s := by
  have LI : Looks (model prog w) s.heap (isInstance (.ref x) (.type "object")) true := I.type.andThen (looks_subIn X hob)
  simp only [tryCompare, callSpecialIfBound?, bindSpecialIfBound?]
  refine wpAny_bind (wpAny_holding (wpAny_bind (wpAny_bind (wpAny_bind (I.type.here ((looks_findIn X hn).here ?_))))))
  have run : wpAny (model prog w) A (call (.builtin "object.__ne__") [.ref x, b]) (fun v s' => ∃ k, v = .bool k ∧ Q (some (.bool k)) s') E s := by
    refine wpAny_call (codeAny_call_builtin F.cmp_object.ne.plain F.cmpEntry_ne (@PySem.W.check_slot (model prog w) _ _ s "object.__ne__" "object" "__ne__" (.ref x) [b] [] _ (by decide +kernel) (by decide +kernel) LI (F.cmpArgs_ne _ _) ?_))
    refine ne_body (A := A.in1) X I hu hs hf (wpAny_mono h (fun v s' hv => ?_) fun _ _ e => e)
    obtain ⟨k, rfl, q⟩ := hv
    exact ⟨k, rfl, _, rfl, q⟩
  have fin : wpAny (model prog w) A (call (.builtin "object.__ne__") ([.ref x] ++ [b]) >>= fun v => pure (some v)) (fun r s' => ∃ k, r = some (.bool k) ∧ Q (some (.bool k)) s') E s := wpAny_bind (wpAny_mono run (fun v s' ⟨k, e, q⟩ => wpAny_pure ⟨k, by rw [e], q⟩) fun _ _ e => e)
  have end_ : ∀ r s', (∃ k, r = some (.bool k) ∧ Q (some (.bool k)) s') → wpAny (model prog w) A (match r with
        | some Value.notImplemented => pure none
        | none => pure none
        | some v => pure (some v)) Q E s' := fun r s' ⟨k, e, q⟩ => by
    subst e
    exact wpAny_pure q
  refine wpAny_bind (wpAny_askSetting (wpAny_ite ?_))
  simp only [F.cmp_object.ne.bind]
  split
  · exact wpAny_bind (wpAny_pure (wpAny_pure (wpAny_mono fin (fun r s' z => end_ r s' z) fun _ _ e => e)))
  · exact wpAny_tryCatch (wpAny_bind (wpAny_pure (wpAny_pure (wpAny_mono fin (fun r s' z => end_ r s' z) fun _ _ e => e))))
/-- x != b by the own == -/
theorem ne_own {b tb : Value} {Q : Value → Shared → Prop} (hu : A.units + 1 < cLine) (X : K.In s.heap) (I : InstAt s.heap x ox C od) (hb : Looks (model prog w) s.heap (typeOf b) tb) (hnf : notFirst K C tb = true) (hn : findIn K (.ref C) "__ne__" = some (some (.builtin "object.__ne__"))) (hob : subIn K (.ref C) (.type "object") = some true)
    (hs : findIn K (.ref C) "__eq__" = some (some (.ref f))) (hf : isFn K (.ref f) = true)
    (h : wpAny (model prog w) A.in1 (call (.ref f) [.ref x, b]) (fun v s' => ∃ k, v = .bool k ∧ Q (.bool (!k)) s') E s) : wpAny (model prog w) A (richCompare .NotEq (.ref x) b) Q E s := by
  have both : ∀ q : Value → Shared → Prop, (∀ v s', (∃ k, v = .bool k ∧ Q (.bool k) s') → q v s') → wpAny (model prog w) A (tryCompare (.ref x) "__ne__" b) (fun r s' => ∃ v, r = some v ∧ q v s') E s := fun q hq =>
    try_ne X I hu hn hob hs hf (wpAny_mono h (fun v s' ⟨k, e, z⟩ => ⟨k, e, _, rfl, hq _ _ ⟨_, rfl, z⟩⟩) fun _ _ e => e)
  unfold richCompare
  simp only [oneThing_ref]
  refine wpAny_holding (wpAny_bind (wpAny_cRoomFor (Nat.lt_of_succ_lt hu) (wpAny_bind (I.type.here (wpAny_bind (hb.here ?_))))))
  rw [cmpInfo_NotEq]
  dsimp only
  have tail : ∀ r s', (∃ v, r = some v ∧ ∃ k, v = Value.bool k ∧ Q (.bool k) s') → ∀ t : Sem Value, wpAny (model prog w) A (match r with
      | some v => pure v
      | none => t) Q E s' := fun r s' ⟨v, e, k, e2, q⟩ t => by
    subst e; subst e2
    exact wpAny_pure q
  split
  · rename_i q
    have e : subIn K tb (.ref C) = some false := by
      rcases Bool.or_eq_true_iff.mp hnf with e | e
      · rw [beq_iff_eq.mp e] at q; simp at q
      · exact beq_iff_eq.mp e
    refine wpAny_bind ((looks_subIn X e).here ?_)
    simp only [Bool.false_eq_true, if_false]
    refine wpAny_bind (wpAny_mono (both _ fun _ _ z => z) (fun r s' z => ?_) fun _ _ e => e)
    obtain ⟨v, rfl, k, rfl, hq⟩ := z
    exact wpAny_pure hq
  · refine wpAny_bind (wpAny_pure ?_)
    simp only [Bool.false_eq_true, if_false]
    refine wpAny_bind (wpAny_mono (both _ fun _ _ z => z) (fun r s' z => ?_) fun _ _ e => e)
    obtain ⟨v, rfl, k, rfl, hq⟩ := z
    exact wpAny_pure hq
end
end OwB
namespace Dl
open PySem PySem.Spec PyProof.Rows L2
/-! ### own operators -/
structure OwnOp (K : PySem.W.Frag) (C : Addr) (op : Operator) (f : Addr) : Prop where
  hc : PySem.W.selfFirst K C = true
  hs : PySem.W.findIn K (.ref C) (PySem.dunder op.info.2) = some (some (.ref f))
  hf : PySem.W.isFn K (.ref f) = true
  hr : ∃ rc, PySem.W.findIn K (.ref C) (PySem.dunderR op.info.2) = some rc ∧ (rc = none ∨ ∃ g : Addr, rc = some (.ref g))
  h1 : ∃ fo, PySem.W.findIn K (.type "int") (PySem.dunder op.info.2) = some fo
  h2 : ∃ ro, PySem.W.findIn K (.type "int") (PySem.dunderR op.info.2) = some ro
  sub : PySem.W.subIn K (.type "int") (.ref C) = some false
def rOwnB (C : Addr) (sp : Sp) (E : XK) : R2 := fun x y H Q => ∃ a dx fs, x = .ref a ∧ H a = some (.ins C dx fs) ∧ ((∃ i, y = .int i) ∨ ∃ b dy gs, y = .ref b ∧ H b = some (.ins C dy gs)) ∧ sp [x, y] H Q E
structure OwnRev (K : PySem.W.Frag) (C : Addr) (op : Operator) (g : Addr) (id : String) (B : Builtin) : Prop where
  hc : PySem.W.selfFirst K C = true
  hs : ∃ f : Addr, PySem.W.findIn K (.ref C) (PySem.dunder op.info.2) = some (some (.ref f))
  hr : PySem.W.findIn K (.ref C) (PySem.dunderR op.info.2) = some (some (.ref g))
  hf : PySem.W.isFn K (.ref g) = true
  sub : PySem.W.subIn K (.ref C) (.type "int") = some false
def rOwnR (C : Addr) (sp : Sp) (E : XK) : R2 := fun x y H Q => ∃ i b dy gs, x = .int i ∧ y = .ref b ∧ H b = some (.ins C dy gs) ∧ sp [y, x] H Q E
def rOwnU (C : Addr) (sp : Sp) (E : XK) : V → Hp → VK → Prop := fun x H Q => ∃ a dx fs, x = .ref a ∧ H a = some (.ins C dx fs) ∧ sp [x] H Q E
section
variable {X : Cx} {k : Nat} {f C : Addr} {fd : FuncData} {ps : List Str} {sp : Sp} {E : XK}
theorem op_ownB {op : Operator} (w : OwnOp X.K C op f) (F : FnG X.prog X.w X.K X.mg X.base k f fd ps sp) (hqt : Quiet X.A) (hr : Room k X.A) (hb : Binds X.K fd ps []) (hn : ps.length = 2) : OpR X (binaryOp op) (rOwnB C sp E) := by
  intro pins s σ H x y v u Q I rx ry h
  obtain ⟨a, dx, fs, rfl, ha, hy, q⟩ := h
  cases (show v = Value.ref a from rx)
  obtain ⟨mA, O, _⟩ := ins_get I.hok ha
  obtain ⟨od, J, _⟩ := O.look
  obtain ⟨m, hF⟩ := I.fr
  have run : wpAny (model X.prog X.w) X.A (call (.ref f) [.ref a, u]) (PySem.W.CmpBack (EP X pins σ Q)) X.xe s := by
    refine wpAny_mono (run_fnG (us := [.ref a, u]) (ws := []) (vs := [.ref a, y]) (zs := []) F hqt hr (kbn_pos hb hn) I (.cons rfl (.cons ry .nil)) .nil rfl rfl q) (fun z s' hz => ?_) fun _ _ x => x
    obtain ⟨z', H', I', rz, qz⟩ := hz
    exact SlX.cmpback rz ⟨z', H', I', rz, qz⟩
  rcases hy with ⟨i, rfl⟩ | ⟨b, dy, gs, rfl, hb'⟩
  · obtain ⟨t, rfl⟩ := ry
    obtain ⟨rc, r1, r2⟩ := w.hr
    obtain ⟨fo, h1⟩ := w.h1
    obtain ⟨ro, h2⟩ := w.h2
    exact PySem.W.ksp_binT (T := "int") hF I.ok.mod.kin J rfl w.hc w.hs w.hf r1 r2 h1 h2 w.sub run
  · cases (show u = Value.ref b from ry)
    obtain ⟨mB, O', _⟩ := ins_get I.hok hb'
    obtain ⟨od', J', _⟩ := O'.look
    exact OwB.bin_same I.kIn J J' w.hc w.hs w.hf run
theorem op_ownR {op : Operator} {id : String} {B : Builtin} (w : OwnRev X.K C op f id B) (F : FnG X.prog X.w X.K X.mg X.base k f fd ps sp) (hqt : Quiet X.A) (hr : Room k X.A) (hb : Binds X.K fd ps []) (hn : ps.length = 2)
    (fills : fillsNumberSlot (.type "int") op.info.2 = pure true) (slot : Slot "int" (PySem.dunder op.info.2) id) (entry : entryFor table id = some B) (args : ∀ a b, argsOk id ⟨[a, b], []⟩)
    (dec : ∀ (b : Int) (t : Tok) (y dx : Addr), Meets (B ⟨[.int b t, .ref y], []⟩) (fun _ R s => s.heap.get? y = some (PySem.W.instObj C dx) ∧ R (.ok (.ret .notImplemented)) s)) : OpR X (binaryOp op) (rOwnR C sp E) := by
  intro pins s σ H x y v u Q I rx ry h
  obtain ⟨i, b, dy, gs, rfl, rfl, hy, q⟩ := h
  cases (show u = Value.ref b from ry)
  obtain ⟨t, rfl⟩ := rx
  obtain ⟨mA, O, _⟩ := ins_get I.hok hy
  obtain ⟨od, J, _⟩ := O.look
  obtain ⟨_, _, _, hobj, _⟩ := (show ObjOk X.prog X.w H s.heap b (.ins C dy gs) from I.hok b _ hy)
  obtain ⟨f', hs⟩ := w.hs
  refine OwB.bin_rev I.kIn J w.hc hs w.hr w.hf w.sub fills slot entry (args _ _) (dec i t b dy) hobj ?_
  refine wpAny_mono (run_fnG (us := [.ref b, .int i t]) (ws := []) (vs := [.ref b, .int i]) (zs := []) F hqt hr (kbn_pos hb hn) I (.cons rfl (.cons ⟨t, rfl⟩ .nil)) .nil rfl rfl q) (fun z s' hz => ?_) fun _ _ x => x
  obtain ⟨z', H', I', rz, qz⟩ := hz
  exact SlX.cmpback rz ⟨z', H', I', rz, qz⟩
theorem un_ownN (hs : PySem.W.findIn X.K (.ref C) "__neg__" = some (some (.ref f))) (hf : PySem.W.isFn X.K (.ref f) = true) (F : FnG X.prog X.w X.K X.mg X.base k f fd ps sp) (hqt : Quiet X.A) (hr : Room k X.A) (hb : Binds X.K fd ps []) (hn : ps.length = 1) : UnR X (unaryOp .USub) (rOwnU C sp E) := by
  intro pins s σ H x v Q I rx h
  obtain ⟨a, dx, fs, rfl, ha, q⟩ := h
  cases (show v = Value.ref a from rx)
  obtain ⟨mA, O, _⟩ := ins_get I.hok ha
  obtain ⟨od, J, _⟩ := O.look
  obtain ⟨m, hF⟩ := I.fr
  exact PySem.W.ksp_neg hF I.ok.mod.kin J hs hf (run_fnG (us := [.ref a]) (ws := []) (vs := [.ref a]) (zs := []) F hqt hr (kbn_pos hb hn) I (.cons rfl .nil) .nil rfl rfl q)
end
end Dl
namespace Dl
open PySem PySem.Spec PyProof.Rows L2
/-! ### the kinds of values -/
/-- an own class as isinstance and == see it -/
structure ClsT (K : PySem.W.Frag) (C : Addr) : Prop where
  cl : Cls K C
  ca : PySem.W.findIn K (.ref C) "__class__" = some (some (.builtin "object.__class__"))
  cn : PySem.W.specialIn K (.builtin "object.__class__") "__get__" = some (some (.builtin "getset_descriptor.__get__"))
  ct : PySem.W.takesIn K (.builtin "object.__class__") = some true
  cm : PySem.W.mroIn K C (.type "object") = some true
/-- the kinds that data have, as values of types -/
def kindOf (T : CT) : D → Option Value
  | .non => some (.type "NoneType") | .bl _ => some (.type "bool") | .int _ => some (.type "int") | .str _ => some (.type "str") | .lst _ => some (.type "list") | .tup _ => some (.type "tuple")
  | .obj c _ => (T c).map fun q => .ref q.1
  | .cls _ => none
  | .scr _ => none
/-- all the own classes of T are known -/
def ClsAll (K : PySem.W.Frag) (T : CT) : Prop := ∀ c q, T c = some q → ClsT K q.1
theorem tyx_of {K : PySem.W.Frag} {T : CT} {H : Hp} {S : Addr → Prop} {d : D} {v : V} (hA : ClsAll K T) (hd : isC d = false) (r : Rep T H S d v) : ∃ t, kindOf T d = some t ∧ TyX K H v t := by
  cases d with
  | non => rw [rep_non r]; exact ⟨_, rfl, .base .non⟩
  | bl b => rw [rep_bl r]; exact ⟨_, rfl, .base (.bl b)⟩
  | int i => rw [rep_int r]; exact ⟨_, rfl, .base (.int i)⟩
  | str s => rw [rep_str r]; exact ⟨_, rfl, .base (.str s)⟩
  | lst ds =>
    rw [Rep] at r
    obtain ⟨a, vs, rfl, ha, _⟩ := r
    exact ⟨_, rfl, .base (.lst ha)⟩
  | tup ds =>
    rw [Rep] at r
    obtain ⟨a, vs, rfl, ha, _⟩ := r
    exact ⟨_, rfl, .base (.tup ha)⟩
  | obj c ds =>
    rw [Rep] at r
    obtain ⟨a, dx, C, ns, vs, rfl, hT, ha, _⟩ := r
    have q := hA c _ hT
    exact ⟨.ref C, by show (T c).map _ = _; rw [hT]; rfl, .base (.ins ha q.cl q.ca q.cn q.ct q.cm)⟩
  | cls c => cases hd
  | scr c => cases hd
/-- what isinstance(x, u) is, by the kinds -/
def Isi (K : PySem.W.Frag) (T : CT) (u : Value) (p : D → Bool) : Prop := ∀ d t, kindOf T d = some t → PySem.W.kitOne K t u = some (p d)
def fIsi (p : D → Bool) (fe : FE) : FE := fun δ => (fe δ).bind fun (d, δ1) => if isC d = false then some (.bl (p d), δ1) else none
section
variable {X : Cx} {T : CT} {k n c : Nat} {f C : Addr} {fd : FuncData} {ps : List Str} {x m : Str} {p pos apos : Pos} {e o : Expr} {es : List Expr} {fa : FA} {fo fe : FE}
theorem pd_isi {te : Expr} {u : Value} {cv : V} {pr : D → Bool} (he : PE X e (tD T fe)) (hc : PE X te (tC cv)) (hcv : ClsV cv u) (hA : ClsAll X.K T) (hI : Isi X.K T u pr) (hm : X.mg "isinstance" = none) (hg : Gl X "isinstance" := by rfl)
    (h1 : starEach [e, te] X.env = (false, eval e X.env) :: starEach [te] X.env := by rfl) (h2 : starEach [te] X.env = (false, eval te X.env) :: starEach [] X.env := by rfl) (hpl : (backTo pos (starEach [te] X.env)).any (·.1) = false := by rfl) : PE X (.Call (.Name "isinstance" p) [e, te] [] pos) (tD T (fIsi pr fe)) :=
  PE.imp (pe_callB call_isi hg hm (by decide +kernel) (pa_cons he (pa_cons hc pa_nil h2) h1) (by decide) (by decide) h1 hpl) fun σ H Q ⟨S0, δ, d, δ', ok, e, q⟩ => by
    obtain ⟨d1, δ1, e1, e2⟩ := bind_some2 e
    obtain ⟨hd, e2⟩ := ite_some e2
    cases e2
    refine ⟨S0, δ, d1, δ', ok, e1, fun v H1 ok1 s1 r => ?_⟩
    obtain ⟨t, ht, ty⟩ := tyx_of hA hd r
    exact ⟨v, cv, t, u, pr d1, rfl, hcv, ty, hI d1 t ht, q _ H1 ok1 s1 (rep_lit rfl)⟩
theorem pd_isi2 {te1 te2 : Expr} {u1 u2 : Value} {c1 c2 : V} {p1 p2 : D → Bool} {kt : Nat} {pt : Pos} (he : PE X e (tD T fe)) (hc1 : PE X te1 (tC c1)) (hc2 : PE X te2 (tC c2)) (hv1 : ClsV c1 u1) (hv2 : ClsV c2 u2) (hA : ClsAll X.K T) (hI1 : Isi X.K T u1 p1) (hI2 : Isi X.K T u2 p2) (hm : X.mg "isinstance" = none) (hg : Gl X "isinstance" := by rfl)
    (h0 : starEach [te1, te2] X.env = (false, eval te1 X.env) :: starEach [te2] X.env := by rfl) (h00 : starEach [te2] X.env = (false, eval te2 X.env) :: starEach [] X.env := by rfl)
    (h1 : starEach [e, .Tuple [te1, te2] kt pt] X.env = (false, eval e X.env) :: starEach [.Tuple [te1, te2] kt pt] X.env := by rfl) (h2 : starEach [.Tuple [te1, te2] kt pt] X.env = (false, eval (.Tuple [te1, te2] kt pt) X.env) :: starEach [] X.env := by rfl)
    (hpl : (backTo pos (starEach [.Tuple [te1, te2] kt pt] X.env)).any (·.1) = false := by rfl) : PE X (.Call (.Name "isinstance" p) [e, .Tuple [te1, te2] kt pt] [] pos) (tD T (fIsi (fun d => p1 d || p2 d) fe)) :=
  PE.imp (pe_callB call_isiT hg hm (by decide +kernel) (pa_cons he (pa_cons (pe_tup (pa_cons hc1 (pa_cons hc2 pa_nil h00) h0)) pa_nil h2) h1) (by decide) (by decide) h1 hpl) fun σ H Q ⟨S0, δ, d, δ', ok, e, q⟩ => by
    obtain ⟨d1, δ1, e1, e2⟩ := bind_some2 e
    obtain ⟨hd, e2⟩ := ite_some e2
    cases e2
    refine ⟨S0, δ, d1, δ', ok, e1, fun v H1 ok1 s1 r => ⟨by show 2 ≤ sizeLine; decide, fun tp htp => ?_⟩⟩
    have sm : Same H1 (upd H1 tp (.tup [c1, c2])) := fun b o e => by rw [upd_ne (ne_of_none e htp)]; exact e
    have r' := r.same sm
    obtain ⟨t, ht, ty⟩ := tyx_of hA hd r'
    have k1 := hI1 d1 t ht
    have k2 := hI2 d1 t ht
    have kk : PySem.W.kitAny X.K t [u1, u2] = some (p1 d1 || p2 d1) := by
      cases hp : p1 d1 with
      | true => rw [hp] at k1; exact kitAny_cons k1 (fun z => by cases z) (fun _ => rfl)
      | false => rw [hp] at k1; exact kitAny_cons k1 (fun _ => by
          cases hp2 : p2 d1 with
          | true => rw [hp2] at k2; exact kitAny_cons k2 (fun z => by cases z) (fun _ => rfl)
          | false => rw [hp2] at k2; exact kitAny_cons k2 (fun _ => kitAny_nil) (fun z => by cases z)) (fun z => by cases z)
    exact ⟨v, tp, [c1, c2], t, [u1, u2], p1 d1 || p2 d1, rfl, upd_same, .cons hv1 (.cons hv2 .nil), ty, kk, q _ _ (ok1.same sm) (s1.trans (Step.same sm)) (rep_lit rfl)⟩

/-! ### calls of built-ins by values -/
/-- r, of the values, follows from F, of the data -/
def CallV (T : CT) (r : List V → Hp → VK → Prop) (F : List D → Option D) : Prop := ∀ (S : Addr → Prop) (ds : List D) (vs : List V) (H : Hp) (d : D) (Q : VK), (∀ b, S b → ∃ o, H b = some o) → Reps T H S ds vs → F ds = some d → (∀ v H', Same H H' → Rep T H' S d v → Q v H') → r vs H Q
def fFun (F : List D → Option D) (fa : FA) : FE := fun δ => (fa δ).bind fun (ds, δ1) => (F ds).map fun d => (d, δ1)
theorem fun_imp {r : List V → Hp → VK → Prop} {F : List D → Option D} (hv : CallV T r F) {σ : L2.St} {H : Hp} {Q : VK} (h : tD T (fFun F fa) σ H Q) : tCB r (tDs T fa) σ H Q := by
  obtain ⟨S0, δ, d, δ', ok, e, q⟩ := h
  obtain ⟨ds, δ1, e1, e2⟩ := bind_some2 e
  dsimp only at e2
  obtain ⟨d1, e3, e4⟩ := map_some1 e2
  cases e4
  exact ⟨S0, δ, ds, δ', ok, e1, fun vs H1 ok1 s1 r1 => hv _ ds vs H1 d Q (fun b z => ok1.trk z) r1 e3 fun v H' sm r => q v H' (ok1.same sm) (s1.trans (Step.same sm)) r⟩
theorem pd_blt {id : String} {r : List V → Hp → VK → Prop} {F : List D → Option D} (hc : CallR X (.builtin id) r) (hv : CallV T r F) (hm : X.mg x = none) (hb : bootBuiltins x = some (.builtin id)) (ha : PA X (e :: es) (tDs T fa)) (hg : Gl X x := by rfl) (hn : x ≠ "__name__" := by decide) (hdb : (x == ("__debug__" : Str)) = false := by decide)
    (he : starEach (e :: es) X.env = (false, eval e X.env) :: starEach es X.env := by rfl) (hpl : (backTo pos (starEach es X.env)).any (·.1) = false := by rfl) : PE X (.Call (.Name x p) (e :: es) [] pos) (tD T (fFun F fa)) :=
  PE.imp (pe_callB hc hg hm hb ha hn hdb he hpl) fun _ _ _ h => fun_imp hv h
theorem pd_bty {id : String} {r : List V → Hp → VK → Prop} {F : List D → Option D} (hc : CallR X (.type id) r) (hv : CallV T r F) (hm : X.mg x = none) (hb : bootBuiltins x = some (.type id)) (ha : PA X (e :: es) (tDs T fa)) (hg : Gl X x := by rfl) (hn : x ≠ "__name__" := by decide) (hdb : (x == ("__debug__" : Str)) = false := by decide)
    (he : starEach (e :: es) X.env = (false, eval e X.env) :: starEach es X.env := by rfl) (hpl : (backTo pos (starEach es X.env)).any (·.1) = false := by rfl) : PE X (.Call (.Name x p) (e :: es) [] pos) (tD T (fFun F fa)) :=
  PE.imp (pe_callTy hc hg hm hb ha hn hdb he hpl) fun _ _ _ h => fun_imp hv h
theorem pd_bfun {id : String} {r : List V → Hp → VK → Prop} {F : List D → Option D} (hc : CallR X (.builtin id) r) (hv : CallV T r F) (hm : X.mg x = some (.builtin id)) (ha : PA X (e :: es) (tDs T fa)) (hg : Gl X x := by rfl) (hdb : (x == ("__debug__" : Str)) = false := by decide)
    (he : starEach (e :: es) X.env = (false, eval e X.env) :: starEach es X.env := by rfl) (hpl : (backTo pos (starEach es X.env)).any (·.1) = false := by rfl) : PE X (.Call (.Name x p) (e :: es) [] pos) (tD T (fFun F fa)) :=
  PE.imp (pe_callBfun hc hg hm ha hdb he hpl) fun _ _ _ h => fun_imp hv h
/-- one, two literal values in, one out -/
def fun1I (k : Int → D) : List D → Option D
  | [.int i] => some (k i)
  | _ => none
theorem reps_int1 {H : Hp} {S : Addr → Prop} {i : Int} {vs : List V} (h : Reps T H S [.int i] vs) : vs = [.int i] := by
  rw [Reps] at h
  obtain ⟨v, r, rfl, h1, h2⟩ := h
  rw [Reps] at h2; subst h2
  rw [rep_int h1]
theorem reps_int2 {H : Hp} {S : Addr → Prop} {i j : Int} {vs : List V} (h : Reps T H S [.int i, .int j] vs) : vs = [.int i, .int j] := by
  rw [Reps] at h
  obtain ⟨v, r, rfl, h1, h2⟩ := h
  rw [reps_int1 h2, rep_int h1]
theorem callv_abs : CallV T (fun xs H Q => ∃ i, xs = [.int i] ∧ Q (.int (if i < 0 then -i else i)) H) (fun1I fun i => .int (if i < 0 then -i else i)) := by
  intro S ds vs H d Q tr r e q
  unfold fun1I at e
  split at e <;> cases e
  exact ⟨_, reps_int1 r, q _ H (Same.refl _) (rep_lit rfl)⟩
def funGcd : List D → Option D
  | [.int i, .int j] => some (.int ((Nat.gcd i.natAbs j.natAbs : Nat) : Int))
  | _ => none
theorem callv_gcd : CallV T rGcd funGcd := by
  intro S ds vs H d Q tr r e q
  unfold funGcd at e
  split at e <;> cases e
  exact ⟨_, _, reps_int2 r, q _ H (Same.refl _) (rep_lit rfl)⟩
def funMax2 : List D → Option D
  | [.int i, .int j] => some (.int (if j > i then j else i))
  | _ => none
theorem callv_max2 : CallV T (fun xs H Q => ∃ i j, xs = [.int i, .int j] ∧ Q (.int (if j > i then j else i)) H) funMax2 := by
  intro S ds vs H d Q tr r e q
  unfold funMax2 at e
  split at e <;> cases e
  exact ⟨_, _, reps_int2 r, q _ H (Same.refl _) (rep_lit rfl)⟩
def funInt : List D → Option D
  | [.int i] => some (.int i)
  | [.bl b] => some (.int (if b then 1 else 0))
  | _ => none
theorem callv_int : CallV T (fun xs H Q => (∃ i, xs = [.int i] ∧ Q (.int i) H) ∨ ∃ k, xs = [.bl k] ∧ Q (.int (if k then 1 else 0)) H) funInt := by
  intro S ds vs H d Q tr r e q
  unfold funInt at e
  split at e
  · cases e
    exact .inl ⟨_, reps_int1 r, q _ H (Same.refl _) (rep_lit rfl)⟩
  · cases e
    rw [Reps] at r
    obtain ⟨v, r', rfl, h1, h2⟩ := r
    rw [Reps] at h2; subst h2
    exact .inr ⟨_, by rw [rep_bl h1], q _ H (Same.refl _) (rep_lit rfl)⟩
  · cases e
/-- str(n) -/
def okNum (i : Int) : Bool := decide (i.natAbs.log2 < 1920)
def funStrI : List D → Option D
  | [.int i] => if okNum i = true then some (.str (toString i)) else none
  | _ => none
theorem callv_strI : CallV T (fun xs H Q => ∃ i, xs = [.int i] ∧ i.natAbs.log2 < 1920 ∧ Q (.str (toString i)) H) funStrI := by
  intro S ds vs H d Q tr r e q
  unfold funStrI at e
  split at e
  · obtain ⟨h, e⟩ := ite_some e
    subst e
    exact ⟨_, reps_int1 r, of_decide_eq_true h, q _ H (Same.refl _) (rep_lit rfl)⟩
  · cases e

/-! ### numbers of any size -/
/-- sizes within which numbers are multiplied and divided -/
def okMul (i j : Int) : Bool := decide (i.natAbs < 2 ^ 4000) && decide (j.natAbs < 2 ^ 4000)
def okDiv (i j : Int) : Bool := decide (0 < j) && decide (j.natAbs < 2 ^ 4000)
def okPos (_ j : Int) : Bool := decide (0 < j)
theorem opv_mulW : OpV T (rI CMulW fun i j => .int (i * j)) (gI okMul fun i j => .int (i * j)) := opv_I (fun i j h => by
  unfold okMul at h
  rw [Bool.and_eq_true] at h
  exact wide_mul (of_decide_eq_true h.1) (of_decide_eq_true h.2) (by decide) (by decide) (by decide)) fun _ _ => rfl
theorem opv_divW : OpV T (rI CDivW fun i j => .int (i / j)) (gI okDiv fun i j => .int (i / j)) := opv_I (fun i j h => by
  unfold okDiv at h
  rw [Bool.and_eq_true] at h
  exact wide_div (of_decide_eq_true h.1) (of_decide_eq_true h.2) (by decide) (by decide)) fun _ _ => rfl
theorem opv_mod : OpV T (rI (fun _ j => 0 < j) fun i j => .int (i % j)) (gI okPos fun i j => .int (i % j)) := opv_I (fun i j h => of_decide_eq_true h) fun _ _ => rfl
def okPow (i j : Int) : Bool := decide (0 ≤ j) && decide (j ≤ 1000) && decide (i.natAbs < 2 ^ 64)
theorem opv_pow : OpV T (rI CPow fun i j => .int (i ^ j.toNat)) (gI okPow fun i j => .int (i ^ j.toNat)) := opv_I (fun i j h => by
  unfold okPow at h
  rw [Bool.and_eq_true, Bool.and_eq_true] at h
  exact ⟨of_decide_eq_true h.1.1, Int.le_trans (of_decide_eq_true h.1.2) (by decide), of_decide_eq_true h.2⟩) fun _ _ => rfl
theorem opv_add : OpV T (rI0 fun i j => .int (i + j)) (gI0 fun i j => .int (i + j)) := opv_I0 fun _ _ => rfl
theorem opv_sub : OpV T (rI0 fun i j => .int (i - j)) (gI0 fun i j => .int (i - j)) := opv_I0 fun _ _ => rfl
theorem opv_lt : OpV T (rI0 fun i j => .bl (decide (i < j))) (gI0 fun i j => .bl (decide (i < j))) := opv_I0 fun _ _ => rfl
theorem opv_le : OpV T (rI0 fun i j => .bl (decide (i ≤ j))) (gI0 fun i j => .bl (decide (i ≤ j))) := opv_I0 fun _ _ => rfl
theorem opv_gt : OpV T (rI0 fun i j => .bl (decide (j < i))) (gI0 fun i j => .bl (decide (j < i))) := opv_I0 fun _ _ => rfl
theorem opv_ge : OpV T (rI0 fun i j => .bl (decide (j ≤ i))) (gI0 fun i j => .bl (decide (j ≤ i))) := opv_I0 fun _ _ => rfl
/-- one operand -/
def UnV (T : CT) (r : V → Hp → VK → Prop) (g : D → Option D) : Prop := ∀ (S : Addr → Prop) (x : D) (v : V) (H : Hp) (d : D) (Q : VK), (∀ b, S b → ∃ o, H b = some o) → Rep T H S x v → g x = some d → (∀ v H', Same H H' → Rep T H' S d v → Q v H') → r v H Q
def fUn (g : D → Option D) (fa : FE) : FE := fun δ => (fa δ).bind fun (x, δ1) => (g x).map fun d => (d, δ1)
theorem pd_un {op : UnaryOp} {r : V → Hp → VK → Prop} {g : D → Option D} (ho : UnR X (unaryOp op) r) (hv : UnV T r g) (ha : PE X e (tD T fe)) : PE X (.UnaryOp op e pos) (tD T (fUn g fe)) := PE.imp (pe_un ho ha) fun σ H Q ⟨S0, δ, d, δ', ok, e, q⟩ => by
  obtain ⟨x, δ1, e1, e2⟩ := bind_some2 e
  dsimp only at e2
  obtain ⟨d1, e3, e4⟩ := map_some1 e2
  cases e4
  exact ⟨S0, δ, x, δ', ok, e1, fun v H1 ok1 s1 r1 => hv _ x v H1 d Q (fun b z => ok1.trk z) r1 e3 fun v H' sm r => q v H' (ok1.same sm) (s1.trans (Step.same sm)) r⟩
def gNeg : D → Option D
  | .int i => some (.int (-i))
  | _ => none
theorem unv_neg : UnV T (rU fun i => .int (-i)) gNeg := by
  intro S x v H d Q tr r e q
  cases x <;> cases e
  rw [rep_int r]
  exact ⟨_, rfl, q _ H (Same.refl _) (rep_lit rfl)⟩
/-- own -x -/
def gOwn1 (c : Nat) (F : List D → Option D) : D → Option D
  | .obj c' ds => if c' = c then F [.obj c' ds] else none
  | _ => none
theorem unv_own {ns : List Str} {F : List D → Option D} {E : XK} (hT : T c = some (C, ns)) : UnV T (rOwnU C (sp0 T 1 F) E) (gOwn1 c F) := by
  intro S x v H d Q tr r e q
  cases x <;> first | cases e | skip
  rename_i c' ds
  unfold gOwn1 at e
  dsimp only at e
  by_cases hc : c' = c
  · subst hc
    rw [if_pos rfl] at e
    have r' := r
    rw [Rep] at r
    obtain ⟨a, dx, C', ns', vs, rfl, hT', ha, _⟩ := r
    rw [hT] at hT'; cases hT'
    exact ⟨a, dx, _, rfl, ha, S, [.obj c' ds], d, tr, rfl, Reps.cons r' Reps.nil, e, q⟩
  · rw [if_neg hc] at e; cases e
/-- own a + b, b one of the class or an int -/
def gOwn2 (c : Nat) (F : List D → Option D) : D → D → Option D
  | .obj c' ds, .int i => if c' = c then F [.obj c' ds, .int i] else none
  | .obj c' ds, .obj c'' es => if c' = c ∧ c'' = c then F [.obj c' ds, .obj c'' es] else none
  | _, _ => none
theorem opv_own2 {ns : List Str} {F : List D → Option D} {E : XK} (hT : T c = some (C, ns)) : OpV T (rOwnB C (sp0 T 2 F) E) (gOwn2 c F) := by
  intro S x y vx vy H d Q tr rx ry e q
  unfold gOwn2 at e
  split at e
  · rename_i c' ds i
    by_cases hc : c' = c
    · subst hc
      rw [if_pos rfl] at e
      have rx' := rx
      rw [Rep] at rx
      obtain ⟨a, dx, C', ns', vs, rfl, hT', ha, _⟩ := rx
      rw [hT] at hT'; cases hT'
      exact ⟨a, dx, _, rfl, ha, .inl ⟨i, rep_int ry⟩, S, _, d, tr, rfl, Reps.cons rx' (Reps.cons ry Reps.nil), e, q⟩
    · rw [if_neg hc] at e; cases e
  · rename_i c' ds c'' es
    by_cases hc : c' = c ∧ c'' = c
    · obtain ⟨h1, h2⟩ := hc
      subst h1
      rw [if_pos ⟨rfl, h2⟩] at e
      subst h2
      have rx' := rx
      have ry' := ry
      rw [Rep] at rx ry
      obtain ⟨a, dx, C', ns', vs, rfl, hT', ha, _⟩ := rx
      obtain ⟨b, dy, C'', ns'', ws, rfl, hT'', hb, _⟩ := ry
      rw [hT] at hT' hT''; cases hT'; cases hT''
      exact ⟨a, dx, _, rfl, ha, .inr ⟨b, dy, _, rfl, hb⟩, S, _, d, tr, rfl, Reps.cons rx' (Reps.cons ry' Reps.nil), e, q⟩
    · rw [if_neg hc] at e; cases e
  · cases e
/-- an int on the left -/
def gOwnR (c : Nat) (F : List D → Option D) : D → D → Option D
  | .int i, .obj c' es => if c' = c then F [.obj c' es, .int i] else none
  | _, _ => none
theorem opv_ownR {ns : List Str} {F : List D → Option D} {E : XK} (hT : T c = some (C, ns)) : OpV T (rOwnR C (sp0 T 2 F) E) (gOwnR c F) := by
  intro S x y vx vy H d Q tr rx ry e q
  unfold gOwnR at e
  split at e
  · rename_i i c' es
    by_cases hc : c' = c
    · subst hc
      rw [if_pos rfl] at e
      have ry' := ry
      rw [Rep] at ry
      obtain ⟨b, dy, C', ns', ws, rfl, hT', hb, _⟩ := ry
      rw [hT] at hT'; cases hT'
      exact ⟨i, b, dy, _, rep_int rx, rfl, hb, S, _, d, tr, rfl, Reps.cons ry' (Reps.cons rx Reps.nil), e, q⟩
    · rw [if_neg hc] at e; cases e
  · cases e
end
end Dl
namespace Dl
open PySem PySem.Spec PyProof.Rows L2
section
variable {X : Cx} {T : CT} {k n c : Nat} {f C : Addr} {fd : FuncData} {ps : List Str} {sp : Sp} {E : XK}
/-- a call somewhat below the body -/
theorem run_lowG {A : Around} {pins : List (Addr × Obj)} {σ : L2.St} {H : Hp} {s : Shared} {Q : VK} {us : List Value} {vs : List V} (F : FnG X.prog X.w X.K X.mg X.base k f fd ps sp) (hq : Quiet A) (hr : Room k A) (e0 : Env0 X.prog X.w X.K X.mg X.base A X.stack s H) (hb : Binds X.K fd ps []) (hn : ps.length = us.length)
    (I : Inv X pins σ H s) (r : Vals vs us) (h : sp vs H Q E) : wpAny (model X.prog X.w) A (call (.ref f) us) (EP X pins σ Q) X.xe s := by
  apply wpAny_call
  have hbt := hb s us I.kIn (by rw [List.append_nil, hn])
  rw [List.append_nil] at hbt
  refine codeAny_mono (F.run A X.stack s H ⟨us, []⟩ us vs Q E hq hr e0 hbt r h) fun z s' hz => ?_
  have e := endG I z s' hz
  match z, e with
  | .ok (.ret _), e => exact e
  | .error _, e => exact e

/-! ### == and != -/
def gEqF : D → D → Option D := fun x y => match litV x, litV y with
  | some a, some b => if scal a b = true then some (.bl (decide (a = b))) else none
  | _, _ => none
def gNeF : D → D → Option D := fun x y => match litV x, litV y with
  | some a, some b => if scal a b = true then some (.bl (!decide (a = b))) else none
  | _, _ => none
theorem lit_rep {H : Hp} {S : Addr → Prop} {d : D} {v w : V} (r : Rep T H S d v) (h : litV d = some w) : v = w := by
  cases d <;> simp [litV] at h <;> subst h
  · exact rep_non r
  · exact rep_bl r
  · exact rep_int r
  · exact rep_str r
theorem opv_eqF : OpV T rEq gEqF := by
  intro S x y vx vy H d Q tr rx ry e q
  unfold gEqF at e
  split at e
  · rename_i a b ha hb
    obtain ⟨hs, e⟩ := ite_some e
    subst e
    rw [lit_rep rx ha, lit_rep ry hb]
    exact ⟨hs, q _ H (Same.refl _) (rep_lit rfl)⟩
  · cases e
theorem opv_neF : OpV T rNe gNeF := by
  intro S x y vx vy H d Q tr rx ry e q
  unfold gNeF at e
  split at e
  · rename_i a b ha hb
    obtain ⟨hs, e⟩ := ite_some e
    subst e
    rw [lit_rep rx ha, lit_rep ry hb]
    exact ⟨hs, q _ H (Same.refl _) (rep_lit rfl)⟩
  · cases e
/-- a value's kind -/
def Kd (T : CT) (H : Hp) (y : V) (t : Value) : Prop := ∃ d S, Rep T H S d y ∧ kindOf T d = some t
theorem looks_kind {pins : List (Addr × Obj)} {σ : L2.St} {H : Hp} {s : Shared} {y : V} {u t : Value} (I : Inv X pins σ H s) (r : RelV y u) (h : Kd T H y t) : PySem.W.Looks (model X.prog X.w) s.heap (typeOf u) t := by
  obtain ⟨d, S, rd, ht⟩ := h
  have byObj : ∀ (a : Addr) (o : Obj), s.heap.get? a = some o → o.cls = t → PySem.W.Looks (model X.prog X.w) s.heap (typeOf (.ref a)) t := fun a o ho hc A Q E s1 kk q => by
    have h1 := kk _ _ ho
    refine wpAny_typeOf_ref (o := o) h1 ?_
    rw [hc]
    exact q
  cases d with
  | non => cases ht; rw [rep_non rd] at r; cases r; exact PySem.W.Looks.of_pure rfl
  | bl b => cases ht; rw [rep_bl rd] at r; cases r; exact PySem.W.Looks.of_pure rfl
  | int i => cases ht; rw [rep_int rd] at r; obtain ⟨tk, rfl⟩ := r; exact PySem.W.Looks.of_pure rfl
  | str x => cases ht; rw [rep_str rd] at r; obtain ⟨tk, rfl⟩ := r; exact PySem.W.Looks.of_pure rfl
  | lst ds =>
    cases ht
    rw [Rep] at rd
    obtain ⟨a, vs, rfl, ha, _⟩ := rd
    cases r
    obtain ⟨_, its, m, _, ho⟩ := (show ObjOk X.prog X.w H s.heap a (.lst vs) from I.hok a _ ha)
    exact byObj a _ ho rfl
  | tup ds =>
    cases ht
    rw [Rep] at rd
    obtain ⟨a, vs, rfl, ha, _⟩ := rd
    cases r
    obtain ⟨_, its, _, o, ho, hc, _⟩ := (show ObjOk X.prog X.w H s.heap a (.tup vs) from I.hok a _ ha)
    exact byObj a _ ho hc
  | obj c ds =>
    rw [Rep] at rd
    obtain ⟨a, dx, C', ns, vs, rfl, hT, ha, _⟩ := rd
    have e : t = .ref C' := by
      have h2 : (T c).map (fun q => Value.ref q.1) = some t := ht
      rw [hT] at h2
      exact (Option.some.inj h2).symm
    subst e
    cases r
    obtain ⟨mA, O, _⟩ := ins_get I.hok ha
    obtain ⟨od, J, _⟩ := O.look
    exact J.type
  | cls c => cases ht
  | scr c => cases ht
def rOwnE (K : PySem.W.Frag) (T : CT) (C : Addr) (sp : Sp) (E : XK) : R2 := fun x y H Q => ∃ a dx fs t, x = .ref a ∧ H a = some (.ins C dx fs) ∧ Kd T H y t ∧ PySem.W.notFirst K C t = true ∧ sp [x, y] H Q E
theorem op_ownE (hs : PySem.W.findIn X.K (.ref C) "__eq__" = some (some (.ref f))) (hf : PySem.W.isFn X.K (.ref f) = true) (F : FnG X.prog X.w X.K X.mg X.base k f fd ps sp) (hqt : Quiet X.A) (hr : Room k X.A) (hb : Binds X.K fd ps []) (hps : ps.length = 2) : OpR X (compareOp .Eq) (rOwnE X.K T C sp E) := by
  intro pins s σ H x y v u Q I rx ry h
  obtain ⟨a, dx, fs, t, rfl, ha, hy, hn, q⟩ := h
  cases (show v = Value.ref a from rx)
  obtain ⟨mA, O, _⟩ := ins_get I.hok ha
  obtain ⟨od, J, _⟩ := O.look
  obtain ⟨m, hF⟩ := I.fr
  show wpAny (model X.prog X.w) X.A (richCompare .Eq (.ref a) u) (EP X pins σ Q) X.xe s
  refine PySem.W.cmp_K (op := .Eq) (tb := t) hr.units0 hF I.ok.mod.kin J (looks_kind I ry hy) hn hs hf ?_
  refine wpAny_mono (run_lowG (us := [.ref a, u]) (vs := [.ref a, y]) F hqt hr I.env0 hb hps I (.cons rfl (.cons ry .nil)) q) (fun z s' hz => ?_) fun _ _ x => x
  obtain ⟨z', H', I', rz, qz⟩ := hz
  exact SlX.cmpback rz ⟨z', H', I', rz, qz⟩
def rOwnNe (K : PySem.W.Frag) (T : CT) (C : Addr) (sp : Sp) (E : XK) : R2 := fun x y H Q => ∃ a dx fs t, x = .ref a ∧ H a = some (.ins C dx fs) ∧ Kd T H y t ∧ PySem.W.notFirst K C t = true ∧ sp [x, y] H (fun v H' => ∃ b, v = .bl b ∧ Q (.bl (!b)) H') E
theorem op_ownNe (hs : PySem.W.findIn X.K (.ref C) "__eq__" = some (some (.ref f))) (hf : PySem.W.isFn X.K (.ref f) = true) (hne : PySem.W.findIn X.K (.ref C) "__ne__" = some (some (.builtin "object.__ne__"))) (hob : PySem.W.subIn X.K (.ref C) (.type "object") = some true)
    (F : FnG X.prog X.w X.K X.mg X.base k f fd ps sp) (hqt : Quiet X.A) (hr : Room (k + 1) X.A) (hb : Binds X.K fd ps []) (hps : ps.length = 2) : OpR X (compareOp .NotEq) (rOwnNe X.K T C sp E) := by
  intro pins s σ H x y v u Q I rx ry h
  obtain ⟨a, dx, fs, t, rfl, ha, hy, hn, q⟩ := h
  cases (show v = Value.ref a from rx)
  obtain ⟨mA, O, _⟩ := ins_get I.hok ha
  obtain ⟨od, J, _⟩ := O.look
  show wpAny (model X.prog X.w) X.A (richCompare .NotEq (.ref a) u) (EP X pins σ Q) X.xe s
  refine OwB.ne_own (by have := hr.units; omega) I.kIn J (looks_kind I ry hy) hn hne hob hs hf ?_
  refine wpAny_mono (run_lowG (A := X.A.in1) (us := [.ref a, u]) (vs := [.ref a, y]) F hqt hr.in1 I.env0.in1 hb hps I (.cons rfl (.cons ry .nil)) q) (fun z s' hz => ?_) fun _ _ x => x
  obtain ⟨z', H', I', rz, b, e, qz⟩ := hz
  subst e
  cases rz
  exact ⟨b, rfl, .bl (!b), H', I', rfl, qz⟩
/-- x == y, x an object of class c -/
def gOwnE (c : Nat) (F : List D → Option D) : D → D → Option D
  | .obj c' ds, y => if c' = c ∧ isC y = false then F [.obj c' ds, y] else none
  | _, _ => none
def gOwnNe (c : Nat) (F : List D → Option D) : D → D → Option D
  | .obj c' ds, y => if c' = c ∧ isC y = false then (match F [.obj c' ds, y] with
    | some (.bl b) => some (.bl (!b))
    | _ => none) else none
  | _, _ => none
/-- no kind is a class below C -/
def Top (K : PySem.W.Frag) (T : CT) (C : Addr) : Prop := ∀ d t, kindOf T d = some t → PySem.W.notFirst K C t = true
theorem kind_some {H : Hp} {S : Addr → Prop} {d : D} {v : V} (hd : isC d = false) (r : Rep T H S d v) : ∃ t, kindOf T d = some t := by
  cases d <;> first | exact ⟨_, rfl⟩ | cases hd | skip
  rw [Rep] at r
  obtain ⟨a, dx, C', ns, vs, rfl, hT, _⟩ := r
  exact ⟨.ref C', by show (T _).map _ = _; rw [hT]; rfl⟩
theorem opv_ownE {ns : List Str} {F : List D → Option D} (hT : T c = some (C, ns)) (hN : Top X.K T C) : OpV T (rOwnE X.K T C (sp0 T 2 F) E) (gOwnE c F) := by
  intro S x y vx vy H d Q tr rx ry e q
  unfold gOwnE at e
  split at e
  · rename_i c' ds
    by_cases hc : c' = c ∧ isC y = false
    · obtain ⟨rfl, hy⟩ := hc
      rw [if_pos ⟨rfl, hy⟩] at e
      have rx' := rx
      rw [Rep] at rx
      obtain ⟨a, dx, C', ns', vs, rfl, hT', ha, _⟩ := rx
      rw [hT] at hT'; cases hT'
      obtain ⟨t, ht⟩ := kind_some hy ry
      exact ⟨a, dx, _, t, rfl, ha, ⟨y, S, ry, ht⟩, hN y t ht, S, _, d, tr, rfl, Reps.cons rx' (Reps.cons ry Reps.nil), e, q⟩
    · rw [if_neg hc] at e; cases e
  · cases e
theorem opv_ownNe {ns : List Str} {F : List D → Option D} (hT : T c = some (C, ns)) (hN : Top X.K T C) : OpV T (rOwnNe X.K T C (sp0 T 2 F) E) (gOwnNe c F) := by
  intro S x y vx vy H d Q tr rx ry e q
  unfold gOwnNe at e
  split at e
  · rename_i c' ds
    by_cases hc : c' = c ∧ isC y = false
    · obtain ⟨rfl, hy⟩ := hc
      rw [if_pos ⟨rfl, hy⟩] at e
      have rx' := rx
      rw [Rep] at rx
      obtain ⟨a, dx, C', ns', vs, rfl, hT', ha, _⟩ := rx
      rw [hT] at hT'; cases hT'
      obtain ⟨t, ht⟩ := kind_some hy ry
      split at e
      · rename_i b hb
        cases e
        exact ⟨a, dx, _, t, rfl, ha, ⟨y, S, ry, ht⟩, hN y t ht, S, _, _, tr, rfl, Reps.cons rx' (Reps.cons ry Reps.nil), hb, fun v H' sm r => ⟨b, rep_bl r, q _ H' sm (rep_lit rfl)⟩⟩
      · cases e
    · rw [if_neg hc] at e; cases e
  · cases e
/-- is, is not of truths -/
def gIsB : D → D → Option D
  | .bl a, .bl b => some (.bl (decide (a = b)))
  | _, _ => none
def gIsNotB : D → D → Option D
  | .bl a, .bl b => some (.bl (!decide (a = b)))
  | _, _ => none
theorem opv_isB : OpV T (fun x y H Q => ∃ a b, x = .bl a ∧ y = .bl b ∧ Q (.bl (decide (a = b))) H) gIsB := by
  intro S x y vx vy H d Q tr rx ry e q
  unfold gIsB at e
  split at e <;> cases e
  exact ⟨_, _, rep_bl rx, rep_bl ry, q _ H (Same.refl _) (rep_lit rfl)⟩
theorem opv_isNotB : OpV T (fun x y H Q => ∃ a b, x = .bl a ∧ y = .bl b ∧ Q (.bl (!decide (a = b))) H) gIsNotB := by
  intro S x y vx vy H d Q tr rx ry e q
  unfold gIsNotB at e
  split at e <;> cases e
  exact ⟨_, _, rep_bl rx, rep_bl ry, q _ H (Same.refl _) (rep_lit rfl)⟩

/-! ### texts of objects and of data -/
def rTxt (C : Addr) (sp : Sp) (E : XK) : List V → Hp → VK → Prop := fun vs H Q => ∃ a dx fs, vs = [.ref a] ∧ H a = some (.ins C dx fs) ∧ sp [.ref a] H (fun v H' => ∃ y, v = .str y ∧ Q v H') E
theorem strback {P : Value → Shared → Prop} {y : Str} {v : Value} {s : Shared} (r : RelV (.str y) v) (h : P v s) : PySem.W.StrBack P v s := by
  obtain ⟨t, rfl⟩ := r
  exact h
theorem call_strOwn (hs : PySem.W.findIn X.K (.ref C) "__str__" = some (some (.ref f))) (hf : PySem.W.isFn X.K (.ref f) = true) (F : FnG X.prog X.w X.K X.mg X.base k f fd ps sp) (hqt : Quiet X.A) (hr : Room (k + 2) X.A) (hb : Binds X.K fd ps []) (hps : ps.length = 1) : CallR X (.type "str") (rTxt C sp E) := by
  intro pins s σ H xs us Q I r h
  obtain ⟨a, dx, fs, rfl, ha, q⟩ := h
  obtain ⟨u, rfl, ru⟩ := r.one
  cases (show u = Value.ref a from ru)
  obtain ⟨mA, O, _⟩ := ins_get I.hok ha
  obtain ⟨od, J, _⟩ := O.look
  have hr1 : Room (k + 1) X.A.in1 := hr.in1
  refine PySem.W.kso_call hr1.in1.units0 I.kIn J hs hf ?_
  refine wpAny_mono (run_lowG (A := X.A.in1.in1) (us := [.ref a]) (vs := [.ref a]) F hqt hr1.in1 I.env0.in1.in1 hb hps I (.cons rfl .nil) q) (fun z s' hz => ?_) fun _ _ x => x
  obtain ⟨z', H', I', rz, y, e, qz⟩ := hz
  subst e
  exact strback rz ⟨_, H', I', rz, qz⟩
theorem call_reprOwn (hs : PySem.W.findIn X.K (.ref C) "__repr__" = some (some (.ref f))) (hf : PySem.W.isFn X.K (.ref f) = true) (F : FnG X.prog X.w X.K X.mg X.base k f fd ps sp) (hqt : Quiet X.A) (hr : Room (k + 1) X.A) (hb : Binds X.K fd ps []) (hps : ps.length = 1) : CallR X (.builtin "repr") (rTxt C sp E) := by
  intro pins s σ H xs us Q I r h
  obtain ⟨a, dx, fs, rfl, ha, q⟩ := h
  obtain ⟨u, rfl, ru⟩ := r.one
  cases (show u = Value.ref a from ru)
  obtain ⟨mA, O, _⟩ := ins_get I.hok ha
  obtain ⟨od, J, _⟩ := O.look
  obtain ⟨m, hF⟩ := I.fr
  refine PySem.W.repr_K hr.in1.units0 hF I.ok.mod.kin J hs hf ?_
  refine wpAny_mono (run_lowG (A := X.A.in1) (us := [.ref a]) (vs := [.ref a]) F hqt hr.in1 I.env0.in1 hb hps I (.cons rfl .nil) q) (fun z s' hz => ?_) fun _ _ x => x
  obtain ⟨z', H', I', rz, y, e, qz⟩ := hz
  subst e
  exact strback rz ⟨_, H', I', rz, qz⟩
def funTxt (c : Nat) (F : List D → Option D) : List D → Option D
  | [.obj c' ds] => if c' = c then (match F [.obj c' ds] with
    | some (.str y) => some (.str y)
    | _ => none) else none
  | _ => none
theorem callv_txt {ns : List Str} {F : List D → Option D} (hT : T c = some (C, ns)) : CallV T (rTxt C (sp0 T 1 F) E) (funTxt c F) := by
  intro S ds vs H d Q tr r e q
  unfold funTxt at e
  split at e
  · rename_i c' es
    by_cases hc : c' = c
    · subst hc
      rw [if_pos rfl] at e
      have r' := r
      rw [Reps] at r
      obtain ⟨v, r2, rfl, h1, h2⟩ := r
      rw [Reps] at h2; subst h2
      rw [Rep] at h1
      obtain ⟨a, dx, C', ns', ws, rfl, hT', ha, _⟩ := h1
      rw [hT] at hT'; cases hT'
      split at e
      · rename_i y hy
        cases e
        exact ⟨a, dx, _, rfl, ha, S, _, _, tr, rfl, r', hy, fun v H' sm rr => ⟨y, rep_str rr, q v H' sm rr⟩⟩
      · cases e
    · rw [if_neg hc] at e; cases e
  · cases e
/-! data without objects -/
mutual
def toPy : D → Option PyData
  | .non => some .none
  | .bl b => some (.bool b)
  | .int i => some (.int i)
  | .str s => some (.str s)
  | .lst ds => (toPys ds).map .list
  | .tup ds => (toPys ds).map .tuple
  | .obj _ _ => none
  | .cls _ => none
  | .scr _ => none
def toPys : List D → Option (List PyData)
  | [] => some []
  | d :: ds => (toPy d).bind fun x => (toPys ds).map fun xs => x :: xs
end
mutual
theorem dp_of {K : PySem.W.Frag} {H : Hp} {S : Addr → Prop} : ∀ {d : D} {v : V} {y : PyData}, Rep T H S d v → toPy d = some y → Dp K H v y
  | .non, v, y, r, e => by rw [rep_non r]; cases e; exact .non
  | .bl b, v, y, r, e => by rw [rep_bl r]; cases e; exact .bl b
  | .int i, v, y, r, e => by rw [rep_int r]; cases e; exact .int i
  | .str s, v, y, r, e => by rw [rep_str r]; cases e; exact .str s
  | .lst ds, v, y, r, e => by
    rw [toPy] at e
    obtain ⟨xs, e1, e2⟩ := map_some1 e
    subst e2
    rw [Rep] at r
    obtain ⟨a, vs, rfl, ha, _, rs⟩ := r
    exact .lst (SqL.of ha) (dps_of rs e1)
  | .tup ds, v, y, r, e => by
    rw [toPy] at e
    obtain ⟨xs, e1, e2⟩ := map_some1 e
    subst e2
    rw [Rep] at r
    obtain ⟨a, vs, rfl, ha, _, rs⟩ := r
    exact .tup (SqT.of ha) (dps_of rs e1)
  | .obj _ _, _, _, _, e => by rw [toPy] at e; cases e
  | .cls _, _, _, _, e => by rw [toPy] at e; cases e
  | .scr _, _, _, _, e => by rw [toPy] at e; cases e
theorem dps_of {K : PySem.W.Frag} {H : Hp} {S : Addr → Prop} : ∀ {ds : List D} {vs : List V} {ys : List PyData}, Reps T H S ds vs → toPys ds = some ys → DpAll K H vs ys
  | [], vs, ys, r, e => by rw [Reps] at r; subst r; rw [toPys] at e; cases e; exact .nil
  | d :: ds, vs, ys, r, e => by
    rw [toPys] at e
    cases h1 : toPy d with
    | none => rw [h1] at e; cases e
    | some x =>
      rw [h1] at e
      obtain ⟨xs, h2, e2⟩ := map_some1 e
      subst e2
      rw [Reps] at r
      obtain ⟨v, w, rfl, r1, r2⟩ := r
      exact .cons (dp_of r1 h1) (dps_of r2 h2)
end
/-- repr of a list or tuple of plain data -/
def okRepr (y : PyData) : Bool := y.showable && decide (y.shown.length ≤ big) && !y.hasDict && decide (y.depth ≤ 40)
def funReprD : List D → Option D
  | [.lst ds] => (toPy (.lst ds)).bind fun y => if okRepr y = true then some (.str y.shown) else none
  | [.tup ds] => (toPy (.tup ds)).bind fun y => if okRepr y = true then some (.str y.shown) else none
  | _ => none
def rReprD (K : PySem.W.Frag) : List V → Hp → VK → Prop := fun vs H Q => ∃ a y, vs = [.ref a] ∧ Dp K H (.ref a) y ∧ okRepr y = true ∧ Q (.str y.shown) H
theorem call_reprD (hq : Quiet X.A) (hr : Room 1 X.A) : CallR X (.builtin "repr") (rReprD X.K) := by
  intro pins s σ H xs us Q I r h
  obtain ⟨a, y, rfl, hd, hok, q⟩ := h
  obtain ⟨u, rfl, ru⟩ := r.one
  cases (show u = Value.ref a from ru)
  obtain ⟨as, rd⟩ := Dp.reads I y (.ref a) (.ref a) hd rfl
  unfold okRepr at hok
  simp only [Bool.and_eq_true, Bool.not_eq_true', decide_eq_true_eq] at hok
  obtain ⟨⟨⟨h1, h2⟩, h3⟩, h4⟩ := hok
  have hu := hr.un
  refine repr_of_reads' rd h1 (fun z => by rw [h3] at z; cases z) hq (by omega) (fun _ _ e => e) (fun h' w tk kk => ⟨.str y.shown, H, I.kept (t' := tk) kk, ⟨w, rfl⟩, q⟩) (big_line h2)
theorem callv_reprD {K : PySem.W.Frag} : CallV T (rReprD K) funReprD := by
  intro S ds vs H d Q tr r e q
  have go : ∀ (x : D) (v : V), (∃ a, v = V.ref a) → Rep T H S x v → ((toPy x).bind fun y => if okRepr y = true then some (D.str y.shown) else none) = some d → rReprD K [v] H Q := fun x v ⟨a, ea⟩ rx e => by
    subst ea
    cases h1 : toPy x with
    | none => rw [h1] at e; cases e
    | some y =>
      rw [h1] at e
      obtain ⟨hok, e⟩ := ite_some e
      subst e
      exact ⟨a, y, rfl, dp_of rx h1, hok, q _ H (Same.refl _) (rep_lit rfl)⟩
  unfold funReprD at e
  split at e
  · rename_i es
    rw [Reps] at r
    obtain ⟨v, r2, rfl, h1, h2⟩ := r
    rw [Reps] at h2; subst h2
    exact go _ v (by rw [Rep] at h1; obtain ⟨a, _, rfl, _⟩ := h1; exact ⟨a, rfl⟩) h1 e
  · rename_i es
    rw [Reps] at r
    obtain ⟨v, r2, rfl, h1, h2⟩ := r
    rw [Reps] at h2; subst h2
    exact go _ v (by rw [Rep] at h1; obtain ⟨a, _, rfl, _⟩ := h1; exact ⟨a, rfl⟩) h1 e
  · cases e
/-- either of two rules for a call -/
def funOr (F G : List D → Option D) : List D → Option D := fun ds => match F ds with
  | some d => some d
  | none => G ds
theorem CallV.or {r r' : List V → Hp → VK → Prop} {F G : List D → Option D} (h : CallV T r F) (h' : CallV T r' G) : CallV T (fun xs H Q => r xs H Q ∨ r' xs H Q) (funOr F G) := by
  intro S ds vs H d Q tr rr e q
  unfold funOr at e
  cases z : F ds with
  | some d' => rw [z] at e; cases e; exact .inl (h S ds vs H d Q tr rr z q)
  | none => rw [z] at e; exact .inr (h' S ds vs H d Q tr rr e q)
/-! f-strings of texts and ints -/
def fFmt (fe : FE) : FE := fun δ => (fe δ).bind fun (d, δ1) => match d with
  | .str y => if y.length ≤ big then some (.str y, δ1) else none
  | .int i => if okNum i = true then some (.str (toString i), δ1) else none
  | _ => none
theorem pd_fmt {e : Expr} {fe : FE} {pos : Pos} (he : PE X e (tD T fe)) : PE X (.FormattedValue e (-1) none pos) (tD T (fFmt fe)) := PE.imp (pe_fmt he) fun σ H Q ⟨S0, δ, d, δ', ok, e, q⟩ => by
  obtain ⟨d1, δ1, e1, e2⟩ := bind_some2 e
  refine ⟨S0, δ, d1, δ1, ok, e1, fun v H1 ok1 s1 r => ?_⟩
  cases d1 <;> first | cases e2 | skip
  · rename_i i
    dsimp only at e2
    obtain ⟨h, e2⟩ := ite_some e2
    cases e2
    exact .inr ⟨i, rep_int r, of_decide_eq_true h, q _ H1 ok1 s1 (rep_lit rfl)⟩
  · rename_i y
    dsimp only at e2
    obtain ⟨h, e2⟩ := ite_some e2
    cases e2
    exact .inl ⟨y, rep_str r, big_line h, q _ H1 ok1 s1 (rep_lit rfl)⟩
def fJoin : List FE → Str → FE
  | [], acc => fun δ => some (.str acc, δ)
  | f :: fs, acc => fun δ => (f δ).bind fun (d, δ1) => match d with
    | .str y => if (acc ++ y).length ≤ big then fJoin fs (acc ++ y) δ1 else none
    | _ => none
inductive JD (X : Cx) (T : CT) : List Expr → List FE → Prop where
  | nil : JD X T [] []
  | cons {e : Expr} {f : FE} {es : List Expr} {fs : List FE} (h : PE X e (tD T f)) (r : JD X T es fs) : JD X T (e :: es) (f :: fs)
theorem JD.pj {es : List Expr} {fs : List FE} (h : JD X T es fs) : PJ X es (fs.map (tD T)) := by
  induction h with
  | nil => exact .nil
  | cons h _ ih => exact .cons h ih
theorem join_imp : ∀ (fs : List FE) (acc : Str) {σ : L2.St} {H : Hp} {Q : VK}, tD T (fJoin fs acc) σ H Q → tJs (fs.map (tD T)) acc σ H fun out H1 => Q (.str out) H1
  | [], acc, σ, H, Q, ⟨S0, δ, d, δ', ok, e, q⟩ => by
    cases e
    exact q _ H ok Step.refl (rep_lit rfl)
  | f :: fs, acc, σ, H, Q, ⟨S0, δ, d, δ', ok, e, q⟩ => by
    obtain ⟨d1, δ1, e1, e2⟩ := bind_some2 e
    refine ⟨S0, δ, d1, δ1, ok, e1, fun v H1 ok1 s1 r => ?_⟩
    cases d1 <;> first | cases e2 | skip
    rename_i y
    dsimp only at e2
    by_cases hz : (acc ++ y).length ≤ big
    · rw [if_pos hz] at e2
      exact ⟨y, rep_str r, big_line hz, join_imp fs (acc ++ y) ⟨S0, δ1, d, δ', ok1, e2, fun v H' ok' s' r' => q v H' ok' (s1.trans s') r'⟩⟩
    · rw [if_neg hz] at e2; cases e2
theorem pd_joined {v1 v2 : Expr} {rest : List Expr} {fs : List FE} {pos : Pos} (h : JD X T (v1 :: v2 :: rest) fs) : PE X (.JoinedStr (v1 :: v2 :: rest) pos) (tD T (fJoin fs Str.empty)) := PE.imp (pe_joined h.pj) fun _ _ _ z => join_imp fs Str.empty z
/-- text + text -/
def gCatS : D → D → Option D
  | .str a, .str b => if a.length + b.length ≤ big then some (.str (a ++ b)) else none
  | _, _ => none
theorem opv_catS : OpV T (fun x y H Q => ∃ i j, x = .str i ∧ y = .str j ∧ i.length + j.length ≤ sizeLine ∧ Q (.str (i ++ j)) H) gCatS := by
  intro S x y vx vy H d Q tr rx ry e q
  unfold gCatS at e
  split at e
  · obtain ⟨h, e⟩ := ite_some e
    subst e
    exact ⟨_, _, rep_str rx, rep_str ry, big_line h, q _ H (Same.refl _) (rep_lit rfl)⟩
  · cases e
end
end Dl
namespace Dl
open PySem PySem.Spec PyProof.Rows L2
section
variable {X : Cx} {T : CT} {k n c : Nat} {x m : Str} {p pos apos : Pos} {e o : Expr} {es : List Expr} {fa : FA} {fo fe fb : FE}

/-! ### items, slices, lengths -/
def gIx : D → D → Option D
  | .lst ds, .int i => atI ds i
  | .tup ds, .int i => atI ds i
  | _, _ => none
theorem atI_reps {H : Hp} {S : Addr → Prop} {ds : List D} {vs : List V} {i : Int} {d : D} (r : Reps T H S ds vs) (h : atI ds i = some d) : ∃ v, atI vs i = some v ∧ Rep T H S d v := by
  unfold atI at h ⊢
  rw [r.length]
  cases q : ixN ds.length i with
  | none => rw [q] at h; cases h
  | some j =>
    rw [q] at h
    exact r.get h
def rIx2 (K : PySem.W.Frag) : R2 := fun x y H Q => rIxL K x y H Q ∨ rIxT K x y H Q
theorem ix_two : IxR X (rIx2 X.K) := ix_list.or ix_tup
theorem opv_ix {K : PySem.W.Frag} : OpV T (rIx2 K) gIx := by
  intro S x y vx vy H d Q tr rx ry e q
  unfold gIx at e
  split at e
  · rw [Rep] at rx
    obtain ⟨a, vs, rfl, ha, _, rs⟩ := rx
    obtain ⟨v, hv, rv⟩ := atI_reps rs e
    exact .inl ⟨a, vs, _, v, rfl, rep_int ry, SqL.of ha, hv, q v H (Same.refl _) rv⟩
  · rw [Rep] at rx
    obtain ⟨a, vs, rfl, ha, _, rs⟩ := rx
    obtain ⟨v, hv, rv⟩ := atI_reps rs e
    exact .inr ⟨a, vs, _, v, rfl, rep_int ry, SqT.of ha, hv, q v H (Same.refl _) rv⟩
  · cases e
theorem pd_ix {a b : Expr} (ha : PE X a (tD T fo)) (hb : PE X b (tD T fb)) (hs : PlainIx b := by exact fun _ _ => rfl) : PE X (.Subscript a b pos) (tD T (fBin gIx fo fb)) := PE.imp (pe_ix ix_two ha hb hs) fun _ _ _ h => bin_imp opv_ix h
/-- an item of a name's own list -/
def fIxO (i : Nat) (fb : FE) : FE := fun δ => if isOwn δ[i]? = true then (fb δ).bind fun (y, δ1) => match δ1[i]?, y with
    | some (.own w xs), .int j => if isL w = true then (atI xs j).map fun d => (d, δ1) else none
    | _, _ => none
  else none
theorem own_of {s : Option Sl} (h : isOwn s = true) : ∃ w xs, s = some (.own w xs) := by
  cases s with
  | none => cases h
  | some sl =>
    cases sl with
    | un => cases h
    | val _ => cases h
    | own p xs => exact ⟨p, xs, rfl⟩
theorem pd_ixO {i : Nat} {b : Expr} {y : Str} {py : Pos} (hb : PE X b (tD T fb)) (hs : PlainIx b := by exact fun _ _ => rfl) (hN : X.N[i]? = some y := by rfl) (hv : Vis X.env.scope y := by first | exact Or.inl rfl | exact Or.inr (Or.inl rfl) | exact Or.inr (Or.inr rfl))
    (hdy : (y == ("__debug__" : Str)) = false := by decide) (hcd : (y == ("__classdict__" : Str)) = false := by decide) : PE X (.Subscript (.Name y py) b pos) (tD T (fIxO i fb)) := PE.imp (pe_ix ix_list (pe_var hN hv hdy hcd) hb hs) fun σ H Q ⟨S0, δ, d, δ', ok, e, q⟩ => by
  unfold fIxO at e
  by_cases h0 : isOwn δ[i]? = true
  case neg => rw [if_neg h0] at e; cases e
  rw [if_pos h0] at e
  obtain ⟨yd, δ1, e1, e2⟩ := bind_some2 e
  obtain ⟨w0, xs0, e0⟩ := own_of h0
  obtain ⟨a, us, ea, _⟩ := ok.ow i w0 xs0 e0
  refine ⟨_, ea, S0, δ, yd, δ1, ok, e1, fun vy H1 ok1 s1 r1 => ?_⟩
  dsimp only at e2
  split at e2
  · rename_i w xs j hw
    by_cases hp : isL w = true
    case neg => rw [if_neg hp] at e2; cases e2
    rw [if_pos hp] at e2
    obtain ⟨d1, e4, e5⟩ := map_some1 e2
    cases e5
    obtain ⟨b, vs, q1, q2, q3, _⟩ := ok1.ow i w xs hw
    rw [ea] at q1; cases q1
    rw [isL_ho hp] at q2
    obtain ⟨v, hv, rv⟩ := atI_reps q3 e4
    exact ⟨a, vs, j, v, rfl, rep_int r1, SqL.of q2, hv, q v H1 ok1 s1 rv⟩
  · cases e2
/-- len -/
def funLen : List D → Option D
  | [.lst ds] => some (.int ds.length)
  | [.tup ds] => some (.int ds.length)
  | _ => none
theorem callv_len {K : PySem.W.Frag} : CallV T (fun xs H Q => ∃ p ys, xs = [.ref p] ∧ (SqL K H p ys ∨ SqT K H p ys) ∧ Q (.int ys.length) H) funLen := by
  intro S ds vs H d Q tr r e q
  unfold funLen at e
  split at e
  · cases e
    rw [Reps] at r
    obtain ⟨v, r2, rfl, h1, h2⟩ := r
    rw [Reps] at h2; subst h2
    rw [Rep] at h1
    obtain ⟨a, ws, rfl, ha, _, rs⟩ := h1
    exact ⟨a, ws, rfl, .inl (SqL.of ha), by rw [rs.length]; exact q _ H (Same.refl _) (rep_lit rfl)⟩
  · cases e
    rw [Reps] at r
    obtain ⟨v, r2, rfl, h1, h2⟩ := r
    rw [Reps] at h2; subst h2
    rw [Rep] at h1
    obtain ⟨a, ws, rfl, ha, _, rs⟩ := h1
    exact ⟨a, ws, rfl, .inr (SqT.of ha), by rw [rs.length]; exact q _ H (Same.refl _) (rep_lit rfl)⟩
  · cases e
/-- len of a name's own list -/
def fLenO (i : Nat) : FE := fun δ => match δ[i]? with
  | some (.own w xs) => if isL w = true then some (.int xs.length, δ) else none
  | _ => none
theorem pd_lenO {i : Nat} {y : Str} {py : Pos} (hm : X.mg "len" = none) (hN : X.N[i]? = some y := by rfl) (hv : Vis X.env.scope y := by first | exact Or.inl rfl | exact Or.inr (Or.inl rfl) | exact Or.inr (Or.inr rfl)) (hdy : (y == ("__debug__" : Str)) = false := by decide) (hcd : (y == ("__classdict__" : Str)) = false := by decide) (hg : Gl X "len" := by rfl)
    (he : starEach [.Name y py] X.env = (false, eval (.Name y py) X.env) :: starEach [] X.env := by rfl) (hpl : (backTo pos (starEach [] X.env)).any (·.1) = false := by rfl) : PE X (.Call (.Name "len" p) [.Name y py] [] pos) (tD T (fLenO i)) :=
  PE.imp (pe_callB call_len_seq hg hm PySem.boot_len (pa_cons (pe_var hN hv hdy hcd) pa_nil he) (by decide) (by decide) he hpl) fun σ H Q ⟨S0, δ, d, δ', ok, e, q⟩ => by
    unfold fLenO at e
    split at e
    · rename_i w xs hw
      obtain ⟨hp, e⟩ := ite_some e
      cases e
      obtain ⟨a, vs, q1, q2, q3, _⟩ := ok.ow i w xs hw
      rw [isL_ho hp] at q2
      exact ⟨_, q1, a, vs, rfl, .inl (SqL.of q2), by rw [q3.length]; exact q _ H ok Step.refl (rep_lit rfl)⟩
    · cases e
/-- slices of a list: a new one -/
def fPart (f : FE) : Es → Option (Option Int × Es) := fun δ => (f δ).bind fun (d, δ1) => match d with
  | .int i => some (some i, δ1)
  | _ => none
def fNoPart : Es → Option (Option Int × Es) := fun δ => some (none, δ)
def tDo (T : CT) (f : Es → Option (Option Int × Es)) : TO := fun σ H Q => ∃ S0 δ d δ', Ok T S0 σ δ H ∧ f δ = some (d, δ') ∧ ∀ H', Ok T S0 σ δ' H' → Step σ δ H σ δ' H' → Q d H'
theorem PO.imp {e : Option Expr} {t u : TO} (h : PO X e t) (i : ∀ σ H Q, u σ H Q → t σ H Q) : PO X e u := ⟨fun pins s σ H Q I q => h.run pins s σ H Q I (i σ H Q q)⟩
theorem pdo_none : PO X none (tDo T fNoPart) := PO.imp po_none fun σ H Q ⟨S0, δ, d, δ', ok, e, q⟩ => by
  cases e
  exact q H ok Step.refl
theorem pdo_some {e : Expr} {f : FE} (h : PE X e (tD T f)) : PO X (some e) (tDo T (fPart f)) := PO.imp (po_some h) fun σ H Q ⟨S0, δ, d, δ', ok, e, q⟩ => by
  obtain ⟨d1, δ1, e1, e2⟩ := bind_some2 e
  refine ⟨S0, δ, d1, δ1, ok, e1, fun v H1 ok1 s1 r => ?_⟩
  cases d1 <;> cases e2
  exact ⟨_, rep_int r, q H1 ok1 s1⟩
def cutD (xs : List D) (lo hi : Option Int) : List D := (xs.drop (HT.sIx xs.length 0 lo)).take (HT.sIx xs.length xs.length hi - HT.sIx xs.length 0 lo)
def fSlice (f : FE) (fl fh : Es → Option (Option Int × Es)) : FA := fun δ => (f δ).bind fun (d, δ1) => (fl δ1).bind fun (l, δ2) => (fh δ2).bind fun (h, δ3) => match d with
  | .lst ds => some (cutD ds l h, δ3)
  | _ => none
theorem pf_slice {lo hi : Option Expr} {fl fh : Es → Option (Option Int × Es)} {p2 : Pos} (he : PE X e (tD T fe)) (hl : PO X lo (tDo T fl)) (hh : PO X hi (tDo T fh)) : PE X (.Subscript e (.Slice lo hi none p2) pos) (tF T (fSlice fe fl fh)) := PE.imp (pe_slice sl_list he hl hh) fun σ H Q ⟨S0, δ, ds, δ', ok, e, q⟩ => by
  obtain ⟨d1, δ1, e1, e2⟩ := bind_some2 e
  obtain ⟨l, δ2, e3, e4⟩ := bind_some2 e2
  obtain ⟨h, δ3, e5, e6⟩ := bind_some2 e4
  refine ⟨S0, δ, d1, δ1, ok, e1, fun v H1 ok1 s1 r => ⟨S0, δ1, l, δ2, ok1, e3, fun H2 ok2 s2 => ⟨S0, δ2, h, δ3, ok2, e5, fun H3 ok3 s3 => ?_⟩⟩⟩
  have r3 := (s2.trans s3).rep r
  dsimp only at e6
  cases d1 <;> cases e6
  rw [Rep] at r3
  obtain ⟨a, vs, rfl, ha, _, rs⟩ := r3
  refine ⟨a, vs, rfl, SqL.of ha, fun p hp => q p _ H3 ok3 ((s1.trans s2).trans s3) hp ?_⟩
  unfold cutV cutD
  rw [rs.length]
  exact (rs.drop _).take _
/-- list + list -/
def gCatL : D → D → Option D
  | .lst a, .lst b => if a.length + b.length ≤ big then some (.lst (a ++ b)) else none
  | _, _ => none
theorem fresh_rep {H : Hp} {S : Addr → Prop} {ds : List D} {vs : List V} {p : Addr} (tr : ∀ b, S b → ∃ o, H b = some o) (hp : H p = none) (r : Reps T H S ds vs) : Same H (upd H p (.lst vs)) ∧ Rep T (upd H p (.lst vs)) S (.lst ds) (.ref p) := by
  have sm : Same H (upd H p (.lst vs)) := fun b o e => by rw [upd_ne (ne_of_none e hp)]; exact e
  refine ⟨sm, ?_⟩
  rw [Rep]
  exact ⟨p, vs, rfl, upd_same, (fun z => by obtain ⟨o, e⟩ := tr p z; rw [hp] at e; cases e), r.same sm⟩
theorem opv_catL : OpV T rCat gCatL := by
  intro S x y vx vy H d Q tr rx ry e q
  unfold gCatL at e
  split at e
  · obtain ⟨h, e⟩ := ite_some e
    subst e
    rw [Rep] at rx ry
    obtain ⟨a, vs, rfl, ha, _, rs⟩ := rx
    obtain ⟨b, ws, rfl, hb, _, rs'⟩ := ry
    refine ⟨a, b, vs, ws, rfl, rfl, ha, hb, by rw [rs.length, rs'.length]; exact big_line h, fun p hp => ?_⟩
    obtain ⟨sm, rr⟩ := fresh_rep tr hp (rs.append rs')
    exact q _ _ sm rr
  · cases e
/-- list(xs), tuple(xs) of a list -/
def funList : List D → Option D
  | [.lst ds] => some (.lst ds)
  | [.tup ds] => some (.lst ds)
  | _ => none
theorem callv_list {K : PySem.W.Frag} : CallV T (fun xs H Q => ∃ p ys, xs = [.ref p] ∧ (SqL K H p ys ∨ SqT K H p ys) ∧ ∀ l, H l = none → Q (.ref l) (upd H l (.lst ys))) funList := by
  intro S ds vs H d Q tr r e q
  unfold funList at e
  split at e
  · cases e
    rw [Reps] at r
    obtain ⟨v, r2, rfl, h1, h2⟩ := r
    rw [Reps] at h2; subst h2
    rw [Rep] at h1
    obtain ⟨a, ws, rfl, ha, _, rs⟩ := h1
    exact ⟨a, ws, rfl, .inl (SqL.of ha), fun l hl => let ⟨sm, rr⟩ := fresh_rep tr hl rs; q _ _ sm rr⟩
  · cases e
    rw [Reps] at r
    obtain ⟨v, r2, rfl, h1, h2⟩ := r
    rw [Reps] at h2; subst h2
    rw [Rep] at h1
    obtain ⟨a, ws, rfl, ha, _, rs⟩ := h1
    exact ⟨a, ws, rfl, .inr (SqT.of ha), fun l hl => let ⟨sm, rr⟩ := fresh_rep tr hl rs; q _ _ sm rr⟩
  · cases e
def funTup : List D → Option D
  | [.lst ds] => some (.tup ds)
  | [.tup ds] => some (.tup ds)
  | _ => none
theorem callv_tup {K : PySem.W.Frag} : CallV T (fun xs H Q => ∃ p ys, xs = [.ref p] ∧ ((SqL K H p ys ∧ ∀ l, H l = none → Q (.ref l) (upd H l (.tup ys))) ∨ (SqT K H p ys ∧ Q (.ref p) H))) funTup := by
  intro S ds vs H d Q tr r e q
  unfold funTup at e
  split at e
  · cases e
    rw [Reps] at r
    obtain ⟨v, r2, rfl, h1, h2⟩ := r
    rw [Reps] at h2; subst h2
    rw [Rep] at h1
    obtain ⟨a, ws, rfl, ha, _, rs⟩ := h1
    refine ⟨a, ws, rfl, .inl ⟨SqL.of ha, fun l hl => ?_⟩⟩
    have sm : Same H (upd H l (.tup ws)) := fun b o e => by rw [upd_ne (ne_of_none e hl)]; exact e
    refine q _ _ sm ?_
    rw [Rep]
    exact ⟨l, ws, rfl, upd_same, (fun z => by obtain ⟨o, e⟩ := tr l z; rw [hl] at e; cases e), rs.same sm⟩
  · cases e
    rw [Reps] at r
    obtain ⟨v, r2, rfl, h1, h2⟩ := r
    rw [Reps] at h2; subst h2
    have h1' := h1
    rw [Rep] at h1
    obtain ⟨a, ws, rfl, ha, _, rs⟩ := h1
    exact ⟨a, ws, rfl, .inr ⟨SqT.of ha, q _ H (Same.refl _) h1'⟩⟩
  · cases e
/-- all of a list of truths -/
def blsOf : List D → Option (List Bool)
  | [] => some []
  | .bl b :: r => (blsOf r).map fun bs => b :: bs
  | _ => none
theorem bls_reps {H : Hp} {S : Addr → Prop} : ∀ {ds : List D} {vs : List V} {bs : List Bool}, Reps T H S ds vs → blsOf ds = some bs → vs = bs.map V.bl
  | [], vs, bs, r, e => by rw [Reps] at r; cases e; exact r
  | d :: ds, vs, bs, r, e => by
    unfold blsOf at e
    cases d <;> first | cases e | skip
    dsimp only at e
    obtain ⟨b2, e1, e2⟩ := map_some1 e
    subst e2
    rw [Reps] at r
    obtain ⟨v, w, rfl, r1, r2⟩ := r
    rw [rep_bl r1, bls_reps r2 e1]
    rfl
def funAll : List D → Option D
  | [.lst ds] => (blsOf ds).map fun bs => .bl (bs.all id)
  | _ => none
theorem callv_all {K : PySem.W.Frag} : CallV T (rAll K) funAll := by
  intro S ds vs H d Q tr r e q
  unfold funAll at e
  split at e
  · obtain ⟨bs, e1, e2⟩ := map_some1 e
    subst e2
    rw [Reps] at r
    obtain ⟨v, r2, rfl, h1, h2⟩ := r
    rw [Reps] at h2; subst h2
    rw [Rep] at h1
    obtain ⟨a, ws, rfl, ha, _, rs⟩ := h1
    have e3 := bls_reps rs e1
    subst e3
    exact ⟨a, bs, rfl, SqL.of ha, q _ H (Same.refl _) (rep_lit rfl)⟩
  · cases e

/-! ### a name's own list changed -/
def isOwnL : Option Sl → Bool
  | some (.own w _) => isL w
  | _ => false
theorem ownL_of {s : Option Sl} (h : isOwnL s = true) : ∃ w xs, s = some (.own w xs) ∧ isL w = true := by
  cases s with
  | none => cases h
  | some sl =>
    cases sl with
    | un => cases h
    | val _ => cases h
    | own p xs => exact ⟨p, xs, rfl, h⟩
def sApp (i : Nat) (fe : FE) : FS := fun δ => if isOwnL δ[i]? = true then (fe δ).bind fun (d, δ1) => match δ1[i]? with
    | some (.own w xs) => if isL w = true ∧ xs.length ≤ big then some (.nx (δ1.set i (.own w (xs ++ [d])))) else none
    | _ => none
  else none
theorem st_app {i : Nat} {y : Str} {py pa pe : Pos} (he : PE X e (tD T fe)) (hN : X.N[i]? = some y := by rfl) (hv : Vis X.env.scope y := by first | exact Or.inl rfl | exact Or.inr (Or.inl rfl) | exact Or.inr (Or.inr rfl)) (hdy : (y == ("__debug__" : Str)) = false := by decide) (hcd : (y == ("__classdict__" : Str)) = false := by decide)
    (h : ∀ {ty : TE}, PE X (.Name y py) ty → PE X (.Call (.Attribute (.Name y py) "append" pa) [e] [] pe) (tBM X.K "list" rAppend ty (tCons (tD T fe) tNil))) (hs : swapsWith (.Call (.Attribute (.Name y py) "append" pa) [e] [] pe) none pos.line X.env = pure false := by rfl) :
    PS X (.Expr (.Call (.Attribute (.Name y py) "append" pa) [e] [] pe) pos) (tSt T (sApp i fe)) := PS.imp (ps_expr (h (pe_var hN hv hdy hcd)) hs) fun E σ H ⟨S0, δ, r, ok, e, q⟩ => by
  unfold sApp at e
  by_cases h0 : isOwnL δ[i]? = true
  case neg => rw [if_neg h0] at e; cases e
  rw [if_pos h0] at e
  obtain ⟨d, δ1, e1, e2⟩ := bind_some2 e
  obtain ⟨w0, xs0, e0, w0L⟩ := ownL_of h0
  obtain ⟨a, us, ea, ha0, _⟩ := ok.ow i w0 xs0 e0
  dsimp only at e2
  split at e2
  case h_2 => cases e2
  rename_i w xs hw
  obtain ⟨⟨hp, hlen⟩, e2⟩ := ite_some e2
  subst e2
  rw [isL_ho w0L] at ha0
  refine ⟨_, ea, .inl ⟨rfl, _, SqL.of ha0⟩, S0, δ, d, δ1, ok, e1, fun v H1 ok1 s1 r1 => ?_⟩
  obtain ⟨b, vs, q1, q2, q3, _⟩ := ok1.ow i w xs hw
  rw [ea] at q1; cases q1
  rw [isL_ho hp] at q2
  refine ⟨a, vs, v, rfl, rfl, q2, by rw [q3.length]; exact big_line' hlen, ?_⟩
  have na : Av S0 σ δ1 a := .inr ⟨i, w, xs, hw, ea⟩
  have hk : ∀ b o, H1 b = some o → b ≠ a → upd H1 a (.lst (vs ++ [v])) b = some o := fun b o e ne => by rw [upd_ne ne]; exact e
  obtain ⟨ok2, s2⟩ := ok1.change (H' := upd H1 a (.lst (vs ++ [v]))) (us := vs ++ [v]) hw ea hk (by rw [isL_ho hp]; exact upd_same) ((q3.append (Reps.cons r1 Reps.nil)).move (fun b o e n => hk b o e fun z => n (by rw [z]; exact na)) fun b z => .inl z)
  exact q _ _ ok2 (s1.trans s2)
end
end Dl
namespace Dl
open PySem PySem.Spec PyProof.Rows L2
section
variable {T : CT} {S0 S1 : Addr → Prop} {σ σ1 σ2 : L2.St} {δ δ1 δ2 : Es} {H H1 H2 : Hp}
/-- slots of which nothing is known may hold anything -/
theorem Ok.agree (k : Ok T S0 σ δ H) (hl : σ1.length = σ.length) (ha : ∀ (i : Nat) s, δ[i]? = some s → s ≠ .un → σ1[i]? = σ[i]?) : Ok T S0 σ1 δ H ∧ Step σ δ H σ1 δ H := by
  have own' : ∀ b, ownAt σ1 δ b → ownAt σ δ b := fun b ⟨i, p, ds, h1, h2⟩ => ⟨i, p, ds, h1, by rw [← ha i _ h1 (by intro z; cases z)]; exact h2⟩
  have sub : ∀ b, Av S0 σ1 δ b → Av S0 σ δ b := fun b z => z.elim .inl fun z => .inr (own' b z)
  refine ⟨⟨by rw [hl]; exact k.len, k.tr, fun i d h => ?_, fun i p ds h => ?_, fun i j p q ds es a h1 h2 h3 h4 => ?_⟩, ⟨fun _ _ z _ => z, fun b z => .inl (own' b z), fun _ o z => ⟨o, z⟩, fun i p ds _ h => ⟨⟨ds, h⟩, ha i _ h (by intro z; cases z)⟩⟩⟩
  · obtain ⟨v, q1, q2⟩ := k.sl i d h
    exact ⟨v, by rw [ha i _ h (by intro z; cases z)]; exact q1, q2.sub sub⟩
  · obtain ⟨a, vs, q1, q2, q3, q4⟩ := k.ow i p ds h
    exact ⟨a, vs, by rw [ha i _ h (by intro z; cases z)]; exact q1, q2, q3.sub sub, q4⟩
  · rw [ha i _ h1 (by intro z; cases z)] at h3
    rw [ha j _ h2 (by intro z; cases z)] at h4
    exact k.dj i j p q ds es a h1 h2 h3 h4
def wipeE (δ : Es) : List Nat → Es
  | [] => δ
  | v :: vs => (wipeE δ vs).set v .un
theorem Ok.wipe (k : Ok T S0 σ δ H) : ∀ vs : List Nat, Ok T S0 (L2.wipe σ vs) (wipeE δ vs) H ∧ Step σ δ H (L2.wipe σ vs) (wipeE δ vs) H
  | [] => ⟨k, Step.refl⟩
  | v :: vs => by
    obtain ⟨k1, s1⟩ := k.wipe vs
    obtain ⟨k2, s2⟩ := k1.junk (i := v) (v := none)
    exact ⟨k2, s1.trans s2⟩
theorem wipeE_un : ∀ {vs : List Nat} {δ : Es} {i : Nat} {s : Sl}, i ∈ vs → (wipeE δ vs)[i]? = some s → s = .un
  | v :: vs, δ, i, s, hi, h => by
    unfold wipeE at h
    rcases get_set h with ⟨_, _, z⟩ | ⟨hj, h⟩
    · exact z
    · rcases List.mem_cons.mp hi with e | e
      · exact absurd e hj
      · exact wipeE_un e h
theorem wipe_get : ∀ (vs : List Nat) (σ : L2.St) (i : Nat), (L2.wipe σ vs)[i]? = if i ∈ vs ∧ i < σ.length then some none else σ[i]?
  | [], σ, i => by simp [L2.wipe]
  | v :: vs, σ, i => by
    show ((L2.wipe σ vs).set v none)[i]? = _
    by_cases e : i = v
    · subst e
      by_cases hl : i < σ.length
      · rw [List.getElem?_set_self (by rw [L2.wipe_length]; exact hl), if_pos ⟨List.mem_cons_self, hl⟩]
      · rw [List.set_eq_of_length_le (by rw [L2.wipe_length]; omega), wipe_get vs σ i, if_neg (fun z => hl z.2), if_neg (fun z => hl z.2)]
    · rw [List.getElem?_set_ne (Ne.symm e), wipe_get vs σ i]
      simp [e]
theorem wipe_eq {vs : List Nat} {σ σ1 : L2.St} (hl : σ1.length = σ.length) (ha : ∀ i, i ∉ vs → σ1[i]? = (L2.wipe σ vs)[i]?) : L2.wipe σ1 vs = L2.wipe σ vs := by
  apply List.ext_getElem?
  intro i
  rw [wipe_get vs σ1 i, wipe_get vs σ i, hl]
  by_cases h : i ∈ vs ∧ i < σ.length
  · rw [if_pos h, if_pos h]
  · rw [if_neg h, if_neg h]
    by_cases hi : i ∈ vs
    · have : ¬ i < σ.length := fun z => h ⟨hi, z⟩
      rw [List.getElem?_eq_none (by omega), List.getElem?_eq_none (by omega)]
    · rw [ha i hi, wipe_get, if_neg h]
/-- an address that no name holds and no datum has is written -/
theorem Ok.poke {D : Addr} {o : HO} (k : Ok T S0 σ δ H) (hD : S0 D) (hn : ¬ ownAt σ δ D) : Ok T S0 σ δ (upd H D o) := by
  have mv : ∀ b u, H b = some u → ¬ Av S0 σ δ b → upd H D o b = some u := fun b u e n => by rw [upd_ne (fun z => n (by rw [z]; exact .inl hD))]; exact e
  refine ⟨k.len, fun b z => ?_, fun i d h => ?_, fun i p ds h => ?_, k.dj⟩
  · obtain ⟨u, e⟩ := k.tr b z
    by_cases q : b = D
    · exact ⟨o, by rw [q]; exact upd_same⟩
    · exact ⟨u, by rw [upd_ne q]; exact e⟩
  · obtain ⟨v, q1, q2⟩ := k.sl i d h
    exact ⟨v, q1, q2.move mv fun b z => .inl z⟩
  · obtain ⟨a, vs, q1, q2, q3, q4⟩ := k.ow i p ds h
    refine ⟨a, vs, q1, ?_, q3.move mv fun b z => .inl z, q4⟩
    rw [upd_ne (fun z => hn (by rw [← z]; exact ⟨i, p, ds, h, q1⟩))]
    exact q2
theorem Step.poke {D : Addr} {o : HO} (s : Step σ δ H σ1 δ1 H1) (hD : H D = none) : Step σ δ H σ1 δ1 (upd H1 D o) where
  keep := fun b u e n => by
    rw [upd_ne (ne_of_none e hD)]
    exact s.keep b u e n
  own := s.own
  trk := fun b u e => by
    rw [upd_ne (ne_of_none e hD)]
    exact s.trk b u e
  pot := s.pot
def er (H : Hp) (D : Addr) : Hp := fun b => if b = D then none else H b
theorem er_ne {H : Hp} {b D : Addr} (h : b ≠ D) : er H D b = H b := by unfold er; rw [if_neg h]
theorem er_self {H : Hp} {D : Addr} : er H D D = none := by unfold er; rw [if_pos rfl]
theorem upd_er {H : Hp} {D : Addr} {o : HO} (h : H D = some o) : upd (er H D) D o = H := by
  funext b
  by_cases e : b = D
  · subst e; rw [upd_same, h]
  · rw [upd_ne e, er_ne e]
def orD (S0 : Addr → Prop) (D : Addr) : Addr → Prop := fun b => S0 b ∨ b = D
theorem Ok.erase {D : Addr} (k : Ok T (orD S0 D) σ δ H) (hS : ¬ S0 D) (hn : ¬ ownAt σ δ D) : Ok T S0 σ δ (er H D) ∧ ∀ {ds : List Dl.D} {vs : List V}, Reps T H (Av (orD S0 D) σ δ) ds vs → Reps T (er H D) (Av S0 σ δ) ds vs := by
  have mv : ∀ b u, H b = some u → ¬ Av (orD S0 D) σ δ b → er H D b = some u := fun b u e n => by rw [er_ne (fun z => n (.inl (.inr z)))]; exact e
  have sub : ∀ b, Av S0 σ δ b → Av (orD S0 D) σ δ b ∨ H b = none := fun b z => .inl (z.elim (fun z => .inl (.inl z)) .inr)
  refine ⟨⟨k.len, fun b z => ?_, fun i d h => ?_, fun i p ds h => ?_, k.dj⟩, fun r => r.move mv sub⟩
  · obtain ⟨u, e⟩ := k.tr b (.inl z)
    exact ⟨u, by rw [er_ne (fun q => hS (by rw [← q]; exact z))]; exact e⟩
  · obtain ⟨v, q1, q2⟩ := k.sl i d h
    exact ⟨v, q1, q2.move mv sub⟩
  · obtain ⟨a, vs, q1, q2, q3, q4⟩ := k.ow i p ds h
    refine ⟨a, vs, q1, ?_, q3.move mv sub, fun z q => q4 z (.inl q)⟩
    rw [er_ne (fun z => hn (by rw [← z]; exact ⟨i, p, ds, h, q1⟩))]
    exact q2
theorem Step.erase {D : Addr} (s : Step σ δ H σ1 δ1 H1) (hD : H D = none) : Step σ δ H σ1 δ1 (er H1 D) where
  keep := fun b u e n => by
    rw [er_ne (ne_of_none e hD)]
    exact s.keep b u e n
  own := s.own
  trk := fun b u e => by
    rw [er_ne (ne_of_none e hD)]
    exact s.trk b u e
  pot := s.pot
/-- a new address is set apart -/
theorem Ok.apart {D : Addr} {o : HO} (k : Ok T S0 σ δ H) (hD : H D = none) : Ok T (orD S0 D) σ δ (upd H D o) ∧ ¬ ownAt σ δ D := by
  have hn : ¬ Av S0 σ δ D := k.fresh hD
  have mv : ∀ b u, H b = some u → ¬ Av S0 σ δ b → upd H D o b = some u := fun b u e n => by rw [upd_ne (ne_of_none e hD)]; exact e
  have sub : ∀ b, Av (orD S0 D) σ δ b → Av S0 σ δ b ∨ H b = none := fun b z => z.elim (fun z => z.elim (fun z => .inl (.inl z)) fun z => .inr (by rw [z]; exact hD)) fun z => .inl (.inr z)
  refine ⟨⟨k.len, fun b z => ?_, fun i d h => ?_, fun i p ds h => ?_, k.dj⟩, fun z => hn (.inr z)⟩
  · by_cases q : b = D
    · exact ⟨o, by rw [q]; exact upd_same⟩
    · obtain ⟨u, e⟩ := k.tr b (z.elim id fun z => absurd z q)
      exact ⟨u, by rw [upd_ne q]; exact e⟩
  · obtain ⟨v, q1, q2⟩ := k.sl i d h
    exact ⟨v, q1, q2.move mv sub⟩
  · obtain ⟨a, vs, q1, q2, q3, q4⟩ := k.ow i p ds h
    have hne : a ≠ D := fun z => by rw [z, hD] at q2; cases q2
    refine ⟨a, vs, q1, by rw [upd_ne hne]; exact q2, q3.move mv sub, fun z q => q.elim (q4 z) hne⟩
end

/-! ### targets -/
def Agr (ws : List Nat) (σ' σ : L2.St) : Prop := σ'.length = σ.length ∧ ∀ i, i ∉ ws → σ'[i]? = σ[i]?
theorem Agr.refl {ws : List Nat} {σ : L2.St} : Agr ws σ σ := ⟨rfl, fun _ _ => rfl⟩
theorem Agr.trans {ws : List Nat} {a b c : L2.St} (h : Agr ws a b) (h' : Agr ws b c) : Agr ws a c := ⟨h.1.trans h'.1, fun i hi => (h.2 i hi).trans (h'.2 i hi)⟩
abbrev FG := D → Es → Option Es
def tTg (T : CT) (ws : List Nat) (ft : FG) : TG := fun x σ H Q => ∃ S0 δ d δ', Ok T S0 σ δ H ∧ Rep T H (Av S0 σ δ) d x ∧ ft d δ = some δ' ∧ ∀ σ' H', Agr ws σ' σ → Ok T S0 σ' δ' H' → Step σ δ H σ' δ' H' → Q σ' H'
def tTgs (T : CT) (ws : List Nat) (ft : List D → Es → Option Es) : TGs := fun xs σ H Q => ∃ S0 δ ds δ', Ok T S0 σ δ H ∧ Reps T H (Av S0 σ δ) ds xs ∧ ft ds δ = some δ' ∧ ∀ σ' H', Agr ws σ' σ → Ok T S0 σ' δ' H' → Step σ δ H σ' δ' H' → Q σ' H'
section
variable {X : Cx} {T : CT} {pos : Pos} {ws : List Nat}
theorem PG.imp {e : Expr} {t u : TG} (h : PG X e t) (i : ∀ x σ H Q, u x σ H Q → t x σ H Q) : PG X e u := ⟨fun pins s σ H v x Q I r q => h.run pins s σ H v x Q I r (i _ σ H Q q)⟩
theorem PGs.imp {e : List Expr} {t u : TGs} (h : PGs X e t) (i : ∀ x σ H Q, u x σ H Q → t x σ H Q) : PGs X e u := ⟨fun pins s σ H v x Q I r q => h.run pins s σ H v x Q I r (i _ σ H Q q)⟩
theorem PI.imp {tg e : Expr} {t u : TI} (h : PI X tg e t) (i : ∀ σ H Q, u σ H Q → t σ H Q) : PI X tg e u := ⟨fun pins s σ H R I q => h.run pins s σ H R I (i σ H R q)⟩
def gN (i : Nat) : FG := fun d δ => some (δ.set i (.val d))
theorem tg_n (i : Nat) {x : Str} (hN : X.N.Nodup) (hw : i ∈ ws := by decide) (hi : X.N[i]? = some x := by rfl) (hx : Loc X.env.scope x := by first | exact .inl rfl | exact .inr rfl) (hf : X.fn x = true ∨ X.env.scope.names.lookup x = some .local := by first | exact .inl rfl | exact .inr rfl | assumption) :
    PG X (.Name x pos) (tTg T ws (gN i)) := PG.imp (pg_name hN hi hx hf) fun v σ H Q ⟨S0, δ, d, δ', ok, r, e, q⟩ => by
  cases e
  obtain ⟨ok2, s2⟩ := ok.store (i := i) r
  exact q _ H ⟨by rw [List.length_set], fun j hj => by rw [List.getElem?_set_ne (fun z => hj (by rw [← z]; exact hw))]⟩ ok2 s2
def gsNil : List D → Es → Option Es
  | [], δ => some δ
  | _, _ => none
def gsCons (f : FG) (g : List D → Es → Option Es) : List D → Es → Option Es
  | d :: ds, δ => (f d δ).bind fun δ1 => g ds δ1
  | _, _ => none
theorem bind_some1 {α γ : Type} {o : Option α} {k : α → Option γ} {c : γ} (h : o.bind k = some c) : ∃ a, o = some a ∧ k a = some c := by
  cases o with
  | none => cases h
  | some p => exact ⟨p, rfl, h⟩
theorem tgs_nil : PGs X [] (tTgs T ws gsNil) := PGs.imp pgs_nil fun xs σ H Q ⟨S0, δ, ds, δ', ok, r, e, q⟩ => by
  cases ds with
  | nil =>
    cases e
    rw [Reps] at r
    exact ⟨r, q σ H Agr.refl ok Step.refl⟩
  | cons _ _ => cases e
theorem tgs_cons {e : Expr} {es : List Expr} {f : FG} {g : List D → Es → Option Es} (h1 : PG X e (tTg T ws f)) (h2 : PGs X es (tTgs T ws g))
    (hs : (assignEach (e :: es) X.env).map (·.2) = assign e X.env :: (assignEach es X.env).map (·.2) := by rfl) : PGs X (e :: es) (tTgs T ws (gsCons f g)) := PGs.imp (pgs_cons h1 h2 hs) fun xs σ H Q ⟨S0, δ, ds, δ', ok, r, e, q⟩ => by
  cases ds with
  | nil => cases e
  | cons d ds =>
    obtain ⟨δ1, e1, e2⟩ := bind_some1 e
    rw [Reps] at r
    obtain ⟨v, vr, rfl, r1, r2⟩ := r
    exact ⟨v, vr, rfl, S0, δ, d, δ1, ok, r1, e1, fun σ1 H1 a1 ok1 s1 => ⟨S0, δ1, ds, δ', ok1, s1.reps r2, e2, fun σ2 H2 a2 ok2 s2 => q σ2 H2 (a2.trans a1) ok2 (s1.trans s2)⟩⟩
def gT (n : Nat) (g : List D → Es → Option Es) : FG := fun d δ => match d with
  | .tup ds => if ds.length = n then g ds δ else none
  | _ => none
theorem tg_t {es : List Expr} {k n : Nat} {g : List D → Es → Option Es} (hc : X.calm = true) (h : PGs X es (tTgs T ws g)) (hn : (assignEach es X.env).length = n := by rfl) (hst : (assignEach es X.env).findIdx? (·.1) = none := by rfl) :
    PG X (.Tuple es k pos) (tTg T ws (gT n g)) := PG.imp (pg_tup hc h hn hst) fun v σ H Q ⟨S0, δ, d, δ', ok, r, e, q⟩ => by
  cases d <;> first | cases e | skip
  rename_i ds
  change (if ds.length = n then g ds δ else none) = some δ' at e
  by_cases hl : ds.length = n
  case neg => rw [if_neg hl] at e; cases e
  rw [if_pos hl] at e
  rw [Rep] at r
  obtain ⟨a, vs, rfl, ha, _, rs⟩ := r
  exact ⟨a, vs, rfl, SqT.of ha, by rw [rs.length, hl], S0, δ, ds, δ', ok, rs, e, q⟩
/-- an item of a name's own list -/
def gI1 (i : Nat) (fe : FE) : FG := fun d δ => if isOwnL δ[i]? = true then (fe δ).bind fun (j, δ1) => match δ1[i]?, j with
    | some (.own w xs), .int k => if isL w = true then (ixN xs.length k).map fun n => δ1.set i (.own w (xs.set n d)) else none
    | _, _ => none
  else none
theorem tg_i {i : Nat} {e : Expr} {y : Str} {py : Pos} {fe : FE} (he : PE X e (tD T fe)) (hN : X.N[i]? = some y := by rfl) (hv : Vis X.env.scope y := by first | exact Or.inl rfl | exact Or.inr (Or.inl rfl) | exact Or.inr (Or.inr rfl)) (hdy : (y == ("__debug__" : Str)) = false := by decide) (hcd : (y == ("__classdict__" : Str)) = false := by decide)
    (ha : ∀ v, assign (.Subscript (.Name y py) e pos) X.env v = (do
      let ov ← holding [v] (eval (.Name y py) X.env)
      let iv ← holding [v, ov] (eval e X.env)
      standAt pos
      holding [v, ov, iv] (setItem ov iv v)
      release [v, ov, iv] []) := by intro _; rfl) : PG X (.Subscript (.Name y py) e pos) (tTg T ws (gI1 i fe)) := PG.imp (pg_sub (pe_var hN hv hdy hcd) he set_list ha) fun v σ H Q ⟨S0, δ, d, δ', ok, r, e, q⟩ => by
  unfold gI1 at e
  by_cases h0 : isOwnL δ[i]? = true
  case neg => rw [if_neg h0] at e; cases e
  rw [if_pos h0] at e
  obtain ⟨j, δ1, e1, e2⟩ := bind_some2 e
  obtain ⟨w0, xs0, e0, w0L⟩ := ownL_of h0
  obtain ⟨a, us, ea, ha0, _⟩ := ok.ow i w0 xs0 e0
  refine ⟨_, ea, S0, δ, j, δ1, ok, e1, fun vj H1 ok1 s1 r1 => ?_⟩
  dsimp only at e2
  split at e2
  case h_2 => cases e2
  rename_i w xs k hw
  by_cases hp : isL w = true
  case neg => rw [if_neg hp] at e2; cases e2
  rw [if_pos hp] at e2
  obtain ⟨n, e3, e4⟩ := map_some1 e2
  subst e4
  obtain ⟨b, vs, q1, q2, q3, _⟩ := ok1.ow i w xs hw
  rw [ea] at q1; cases q1
  rw [isL_ho hp] at q2
  refine ⟨a, vs, k, n, rfl, rep_int r1, q2, by rw [q3.length]; exact e3, ?_⟩
  have na : Av S0 σ δ1 a := .inr ⟨i, w, xs, hw, ea⟩
  have hk : ∀ b o, H1 b = some o → b ≠ a → upd H1 a (.lst (vs.set n v)) b = some o := fun b o e ne => by rw [upd_ne ne]; exact e
  obtain ⟨ok2, s2⟩ := ok1.change (H' := upd H1 a (.lst (vs.set n v))) (us := vs.set n v) hw ea hk (by rw [isL_ho hp]; exact upd_same) ((Reps.set (s1.rep r) n q3).move (fun b o e n => hk b o e fun z => n (by rw [z]; exact na)) fun b z => .inl z)
  exact q _ _ Agr.refl ok2 (s1.trans s2)

/-! ### stores -/
def sAsg (f : FE) (ft : FG) : FS := fun δ => (f δ).bind fun (d, δ1) => (ft d δ1).map fun δ2 => .nx δ2
theorem st_asg {tg e : Expr} {f : FE} {ft : FG} (he : PE X e (tD T f)) (hg : PG X tg (tTg T ws ft)) (hs : swapsWithSole [tg] e pos.line X.env = pure false := by rfl) (hw : swappedStores [tg] e X.env = pure none := by rfl)
    (h1 : (assignEach [tg] X.env).map (·.2) = [assign tg X.env] := by rfl) : PS X (.Assign [tg] e pos) (tSt T (sAsg f ft)) := PS.imp (ps_asg he hg hs hw h1) fun E σ H ⟨S0, δ, r, ok, e, q⟩ => by
  obtain ⟨d, δ1, e1, e2⟩ := bind_some2 e
  obtain ⟨δ2, e3, e4⟩ := map_some1 e2
  subst e4
  exact ⟨S0, δ, d, δ1, ok, e1, fun v H1 ok1 s1 r1 => ⟨S0, δ1, d, δ2, ok1, r1, e3, fun σ2 H2 _ ok2 s2 => q σ2 H2 ok2 (s1.trans s2)⟩⟩
def sPar (i j : Nat) (fa : FA) : FS := fun δ => (fa δ).bind fun (ds, δ1) => match ds with
  | [a, b] => some (.nx ((δ1.set i (.val a)).set j (.val b)))
  | _ => none
theorem st_par (i j : Nat) {x y : Str} {a b : Expr} {fa : FA} {px py pt : Pos} {kt k2 pt2} (hc : X.calm = true) (hN : X.N.Nodup) (ha : PA X [a, b] (tDs T fa)) (hij : i ≠ j := by decide) (hi : X.N[i]? = some x := by rfl) (hj : X.N[j]? = some y := by rfl)
    (hx : X.env.scope.names.lookup x = some .local := by rfl) (hy : X.env.scope.names.lookup y = some .local := by rfl)
    (hw : swappedStores [.Tuple [.Name x px, .Name y py] kt pt] (.Tuple [a, b] k2 pt2) X.env = pure (some [x, y]) := by rfl)
    (hs : swapsWithSole [.Tuple [.Name x px, .Name y py] kt pt] (.Tuple [a, b] k2 pt2) pos.line X.env = pure false := by rfl) :
    PS X (.Assign [.Tuple [.Name x px, .Name y py] kt pt] (.Tuple [a, b] k2 pt2) pos) (tSt T (sPar i j fa)) := PS.imp (ps_par hc hN hi hj hij hx hy ha hw hs) fun E σ H ⟨S0, δ, r, ok, e, q⟩ => by
  obtain ⟨ds, δ1, e1, e2⟩ := bind_some2 e
  dsimp only at e2
  split at e2
  case h_2 => cases e2
  rename_i da db
  cases e2
  refine ⟨S0, δ, [da, db], δ1, ok, e1, fun vs H1 ok1 s1 r1 => ?_⟩
  rw [Reps] at r1
  obtain ⟨v, vr, rfl, r2, r3⟩ := r1
  rw [Reps] at r3
  obtain ⟨w, wr, rfl, r4, r5⟩ := r3
  rw [Reps] at r5; subst r5
  obtain ⟨ok2, s2⟩ := ok1.store (i := i) r2
  obtain ⟨ok3, s3⟩ := ok2.store (i := j) (s2.rep r4)
  exact ⟨v, w, rfl, q _ H1 ok3 ((s1.trans s2).trans s3)⟩
def sPar3 (i j l : Nat) (fa : FA) : FS := fun δ => (fa δ).bind fun (ds, δ1) => match ds with
  | [a, b, c] => some (.nx (((δ1.set i (.val a)).set j (.val b)).set l (.val c)))
  | _ => none
theorem st_par3 (i j l : Nat) {x y z : Str} {a b c : Expr} {fa : FA} {px py pz pt : Pos} {kt k2 pt2} (hc : X.calm = true) (hN : X.N.Nodup) (ha : PA X [a, b, c] (tDs T fa)) (hij : i ≠ j := by decide) (hil : i ≠ l := by decide) (hjl : j ≠ l := by decide) (hi : X.N[i]? = some x := by rfl) (hj : X.N[j]? = some y := by rfl) (hl : X.N[l]? = some z := by rfl)
    (hx : X.env.scope.names.lookup x = some .local := by rfl) (hy : X.env.scope.names.lookup y = some .local := by rfl) (hz : X.env.scope.names.lookup z = some .local := by rfl)
    (hw : swappedStores [.Tuple [.Name x px, .Name y py, .Name z pz] kt pt] (.Tuple [a, b, c] k2 pt2) X.env = pure (some [x, y, z]) := by rfl)
    (hs : swapsWithSole [.Tuple [.Name x px, .Name y py, .Name z pz] kt pt] (.Tuple [a, b, c] k2 pt2) pos.line X.env = pure false := by rfl) :
    PS X (.Assign [.Tuple [.Name x px, .Name y py, .Name z pz] kt pt] (.Tuple [a, b, c] k2 pt2) pos) (tSt T (sPar3 i j l fa)) := PS.imp (ps_par3 hc hN hi hj hl hij hil hjl hx hy hz ha hw hs) fun E σ H ⟨S0, δ, r, ok, e, q⟩ => by
  obtain ⟨ds, δ1, e1, e2⟩ := bind_some2 e
  dsimp only at e2
  split at e2
  case h_2 => cases e2
  rename_i da db dc
  cases e2
  refine ⟨S0, δ, [da, db, dc], δ1, ok, e1, fun vs H1 ok1 s1 r1 => ?_⟩
  rw [Reps] at r1
  obtain ⟨v, vr, rfl, r2, r3⟩ := r1
  rw [Reps] at r3
  obtain ⟨w, wr, rfl, r4, r5⟩ := r3
  rw [Reps] at r5
  obtain ⟨u, ur, rfl, r6, r7⟩ := r5
  rw [Reps] at r7; subst r7
  obtain ⟨ok2, s2⟩ := ok1.store (i := i) r2
  obtain ⟨ok3, s3⟩ := ok2.store (i := j) (s2.rep r4)
  obtain ⟨ok4, s4⟩ := ok3.store (i := l) ((s2.trans s3).rep r6)
  exact ⟨v, w, u, rfl, q _ H1 ok4 (((s1.trans s2).trans s3).trans s4)⟩
end
end Dl
namespace Dl
open PySem PySem.Spec PyProof.Rows L2
/-! ### what is walked -/
def Runs (T : CT) (J : It) (ds : List D) (H : Hp) (S : Addr → Prop) : Prop := ∀ (S1 : Addr → Prop) (H1 : Hp), (∀ b, S1 b → ∃ o, H1 b = some o) → (∀ d v, Rep T H S d v → Rep T H1 S1 d v) →
  (∀ i d, ds[i]? = some d → J.go i H1 ∧ ∀ x H2, J.yld i H1 x H2 → Same H1 H2 ∧ Rep T H2 S1 d x) ∧ J.stop ds.length H1
def tIt (T : CT) (fI : FA) : TI := fun σ H R => ∃ S0 δ ds δ', Ok T S0 σ δ H ∧ fI δ = some (ds, δ') ∧ ∀ J H', Ok T S0 σ δ' H' → Step σ δ H σ δ' H' → Runs T J ds H' (Av S0 σ δ') → R J H'
section
variable {X : Cx} {T : CT} {pos p : Pos} {tg : Expr}
theorem runs_list {K : PySem.W.Frag} {H : Hp} {S : Addr → Prop} {ds : List D} {a : Addr} (r : Rep T H S (.lst ds) (.ref a)) : Runs T (Itl K a) ds H S := fun S1 H1 _ k => by
  have r1 := k _ _ r
  rw [Rep] at r1
  obtain ⟨b, vs, e, ha, _, rs⟩ := r1
  cases e
  refine ⟨fun i d hd => ?_, ⟨vs, SqL.of ha, by rw [rs.length]; exact Nat.le_refl _⟩⟩
  obtain ⟨v, hv, rv⟩ := rs.get hd
  refine ⟨⟨vs, v, SqL.of ha, hv⟩, fun x H2 hy => ?_⟩
  obtain ⟨e, hx⟩ := hy
  have := hx vs (SqL.of ha)
  rw [hv] at this; cases this
  subst e
  exact ⟨Same.refl _, rv⟩
theorem runs_tup {K : PySem.W.Frag} {H : Hp} {S : Addr → Prop} {ds : List D} {a : Addr} (r : Rep T H S (.tup ds) (.ref a)) : Runs T (Itt K a) ds H S := fun S1 H1 _ k => by
  have r1 := k _ _ r
  rw [Rep] at r1
  obtain ⟨b, vs, e, ha, _, rs⟩ := r1
  cases e
  refine ⟨fun i d hd => ?_, ⟨vs, SqT.of ha, by rw [rs.length]; exact Nat.le_refl _⟩⟩
  obtain ⟨v, hv, rv⟩ := rs.get hd
  refine ⟨⟨vs, v, SqT.of ha, hv⟩, fun x H2 hy => ?_⟩
  obtain ⟨e, hx⟩ := hy
  have := hx vs (SqT.of ha)
  rw [hv] at this; cases this
  subst e
  exact ⟨Same.refl _, rv⟩
def intsD (lo : Int) (n : Nat) : List D := (List.range n).map fun (i : Nat) => .int (lo + i)
theorem runs_range {H : Hp} {S : Addr → Prop} {lo : Int} {n : Nat} : Runs T (Itr lo n) (intsD lo n) H S := fun S1 H1 _ k => by
  refine ⟨fun i d hd => ?_, by show n ≤ _; simp [intsD]⟩
  unfold intsD at hd
  rw [List.getElem?_map] at hd
  by_cases h : i < n
  · rw [List.getElem?_range h] at hd
    cases hd
    refine ⟨h, fun x H2 hy => ?_⟩
    obtain ⟨e, rfl⟩ := hy
    subst e
    exact ⟨Same.refl _, rep_lit rfl⟩
  · rw [List.getElem?_eq_none (by simp; omega)] at hd; cases hd
def fSq (f : FE) : FA := fun δ => (f δ).bind fun (d, δ1) => match d with
  | .lst ds => some (ds, δ1)
  | .tup ds => some (ds, δ1)
  | _ => none
theorem pi_or {e : Expr} {t u : TI} (h : PI X tg e t) (h' : PI X tg e u) : PI X tg e (fun σ H R => t σ H R ∨ u σ H R) := ⟨fun pins s σ H R I q => q.elim (h.run pins s σ H R I) (h'.run pins s σ H R I)⟩
theorem pid_sq {e : Expr} {f : FE} (h : PE X e (tD T f)) : PI X tg e (tIt T (fSq f)) := PI.imp (pi_or (pi_list h) (pi_tup h)) fun σ H R ⟨S0, δ, ds, δ', ok, e, q⟩ => by
  obtain ⟨d, δ1, e1, e2⟩ := bind_some2 e
  cases d <;> first | cases e2 | skip
  · refine .inl ⟨S0, δ, _, δ', ok, e1, fun v H1 ok1 s1 r => ?_⟩
    have r0 := r
    rw [Rep] at r
    obtain ⟨a, vs, rfl, ha, _, rs⟩ := r
    exact ⟨a, rfl, ⟨vs, SqL.of ha⟩, q _ H1 ok1 s1 (runs_list r0)⟩
  · refine .inr ⟨S0, δ, _, δ', ok, e1, fun v H1 ok1 s1 r => ?_⟩
    have r0 := r
    rw [Rep] at r
    obtain ⟨a, vs, rfl, ha, _, rs⟩ := r
    exact ⟨a, rfl, ⟨vs, SqT.of ha⟩, q _ H1 ok1 s1 (runs_tup r0)⟩
def fRg1 (fa : FA) : FA := fun δ => (fa δ).bind fun (ds, δ1) => match ds with
  | [.int j] => if -(2 ^ 62) ≤ j ∧ j < 2 ^ 62 then some (intsD 0 j.toNat, δ1) else none
  | _ => none
theorem pid_rg1 {a : Expr} {fa : FA} (hm : X.mg "range" = none) (ha : PA X [a] (tDs T fa)) (hg : Gl X "range" := by rfl) (hs : starEach [a] X.env = [(false, eval a X.env)] := by rfl) : PI X tg (.Call (.Name "range" p) [a] [] pos) (tIt T (fRg1 fa)) := PI.imp (pi_range1 hg hm ha hs) fun σ H R ⟨S0, δ, ds, δ', ok, e, q⟩ => by
  obtain ⟨d, δ1, e1, e2⟩ := bind_some2 e
  dsimp only at e2
  split at e2
  case h_2 => cases e2
  obtain ⟨⟨h1, h2⟩, e2⟩ := ite_some e2
  cases e2
  refine ⟨S0, δ, _, δ', ok, e1, fun vs H1 ok1 s1 r => ?_⟩
  rw [Reps] at r
  obtain ⟨v, vr, rfl, r1, r2⟩ := r
  rw [Reps] at r2; subst r2
  exact ⟨_, by rw [rep_int r1], h1, h2, q _ H1 ok1 s1 runs_range⟩
def fRg2 (fa : FA) : FA := fun δ => (fa δ).bind fun (ds, δ1) => match ds with
  | [.int i, .int j] => if -(2 ^ 62) ≤ i ∧ i < 2 ^ 62 ∧ -(2 ^ 62) ≤ j ∧ j < 2 ^ 62 then some (intsD i (j - i).toNat, δ1) else none
  | _ => none
theorem pid_rg2 {a b : Expr} {fa : FA} (hm : X.mg "range" = none) (ha : PA X [a, b] (tDs T fa)) (hg : Gl X "range" := by rfl) (hs : starEach [a, b] X.env = [(false, eval a X.env), (false, eval b X.env)] := by rfl) (hs2 : starEach [b] X.env = [(false, eval b X.env)] := by rfl) :
    PI X tg (.Call (.Name "range" p) [a, b] [] pos) (tIt T (fRg2 fa)) := PI.imp (pi_range2 hg hm ha hs hs2) fun σ H R ⟨S0, δ, ds, δ', ok, e, q⟩ => by
  obtain ⟨d, δ1, e1, e2⟩ := bind_some2 e
  dsimp only at e2
  split at e2
  case h_2 => cases e2
  obtain ⟨⟨h1, h2, h3, h4⟩, e2⟩ := ite_some e2
  cases e2
  refine ⟨S0, δ, _, δ', ok, e1, fun vs H1 ok1 s1 r => ?_⟩
  rw [Reps] at r
  obtain ⟨v, vr, rfl, r1, r2⟩ := r
  rw [Reps] at r2
  obtain ⟨w, wr, rfl, r3, r4⟩ := r2
  rw [Reps] at r4; subst r4
  exact ⟨_, _, by rw [rep_int r1, rep_int r3], ⟨h1, h2, h3, h4⟩, q _ H1 ok1 s1 runs_range⟩

/-- pairs that a walk makes: they are new -/
theorem pair_new {H : Hp} {S : Addr → Prop} {p : Addr} {d e : D} {x y : V} (tr : ∀ b, S b → ∃ o, H b = some o) (hp : H p = none) (rx : Rep T H S d x) (ry : Rep T H S e y) : Same H (upd H p (.tup [x, y])) ∧ Rep T (upd H p (.tup [x, y])) S (.tup [d, e]) (.ref p) := by
  have sm : Same H (upd H p (.tup [x, y])) := fun b o q => by rw [upd_ne (ne_of_none q hp)]; exact q
  refine ⟨sm, ?_⟩
  rw [Rep]
  exact ⟨p, _, rfl, upd_same, (fun z => by obtain ⟨o, q⟩ := tr p z; rw [hp] at q; cases q), (Reps.cons rx (Reps.cons ry Reps.nil)).same sm⟩
def pairsD (xs ys : List D) : List D := List.zipWith (fun x y => D.tup [x, y]) xs ys
theorem runs_zip {K : PySem.W.Frag} {H : Hp} {S : Addr → Prop} {xs ys : List D} {a b : Addr} (ra : Rep T H S (.lst xs) (.ref a)) (rb : Rep T H S (.lst ys) (.ref b)) : Runs T (Itz K a b) (pairsD xs ys) H S := fun S1 H1 tr k => by
  have r1 := k _ _ ra
  have r2 := k _ _ rb
  rw [Rep] at r1 r2
  obtain ⟨a', us, e1, ha, _, rs⟩ := r1
  obtain ⟨b', ws, e2, hb, _, rt⟩ := r2
  cases e1; cases e2
  refine ⟨fun i d hd => ?_, ⟨us, ws, SqL.of ha, SqL.of hb, by rw [rs.length, rt.length]; simp [pairsD]; omega⟩⟩
  unfold pairsD at hd
  rw [List.getElem?_zipWith] at hd
  cases hx : xs[i]? with
  | none => rw [hx] at hd; simp at hd
  | some x =>
    cases hy : ys[i]? with
    | none => rw [hx, hy] at hd; simp at hd
    | some y =>
      rw [hx, hy] at hd
      cases hd
      obtain ⟨u, hu, ru⟩ := rs.get hx
      obtain ⟨v, hv, rv⟩ := rt.get hy
      refine ⟨⟨us, ws, u, v, SqL.of ha, SqL.of hb, hu, hv⟩, fun z H2 hz => ?_⟩
      obtain ⟨p, u', v', rfl, hp, rfl, q1, q2⟩ := hz
      have q1' := q1 us (SqL.of ha)
      have q2' := q2 ws (SqL.of hb)
      rw [hu] at q1'; cases q1'
      rw [hv] at q2'; cases q2'
      exact pair_new tr hp ru rv
def fZip (fa : FA) : FA := fun δ => (fa δ).bind fun (ds, δ1) => match ds with
  | [.lst xs, .lst ys] => some (pairsD xs ys, δ1)
  | _ => none
theorem pid_zip {e e2 : Expr} {fa : FA} {elts : List Expr} {kk : Nat} {tpos : Pos} (hm : X.mg "zip" = none) (ha : PA X [e, e2] (tDs T fa)) (hg : Gl X "zip" := by rfl)
    (hs : starEach [e, e2] X.env = (false, eval e X.env) :: starEach [e2] X.env := by rfl) (hpl : (backTo pos (starEach [e2] X.env)).any (·.1) = false := by rfl) : PI X (.Tuple elts kk tpos) (.Call (.Name "zip" p) [e, e2] [] pos) (tIt T (fZip fa)) := PI.imp (pi_zip hg hm ha hs hpl) fun σ H R ⟨S0, δ, ds, δ', ok, e, q⟩ => by
  obtain ⟨d, δ1, e1, e2⟩ := bind_some2 e
  dsimp only at e2
  split at e2
  case h_2 => cases e2
  rename_i xs ys
  cases e2
  refine ⟨S0, δ, _, δ', ok, e1, fun vs H1 ok1 s1 r => ?_⟩
  rw [Reps] at r
  obtain ⟨v, vr, rfl, r1, r2⟩ := r
  rw [Reps] at r2
  obtain ⟨w, wr, rfl, r3, r4⟩ := r2
  rw [Reps] at r4; subst r4
  have r1' := r1
  have r3' := r3
  rw [Rep] at r1 r3
  obtain ⟨a, us, rfl, ha, _, _⟩ := r1
  obtain ⟨b, ws, rfl, hb, _, _⟩ := r3
  exact ⟨a, b, us, ws, rfl, SqL.of ha, SqL.of hb, q _ H1 ok1 s1 (runs_zip r1' r3')⟩
def enumD (xs : List D) : List D := xs.mapIdx fun i x => D.tup [.int i, x]
theorem runs_enum {K : PySem.W.Frag} {H : Hp} {S : Addr → Prop} {xs : List D} {a : Addr} (ra : Rep T H S (.lst xs) (.ref a)) : Runs T (Ite K a) (enumD xs) H S := fun S1 H1 tr k => by
  have r1 := k _ _ ra
  rw [Rep] at r1
  obtain ⟨a', us, e1, ha, _, rs⟩ := r1
  cases e1
  refine ⟨fun i d hd => ?_, ⟨us, SqL.of ha, by rw [rs.length]; simp [enumD]⟩⟩
  unfold enumD at hd
  rw [List.getElem?_mapIdx] at hd
  obtain ⟨x, hx, rfl⟩ := map_some1 hd
  obtain ⟨u, hu, ru⟩ := rs.get hx
  refine ⟨⟨us, u, SqL.of ha, hu⟩, fun z H2 hz => ?_⟩
  obtain ⟨p, u', rfl, hp, rfl, q1⟩ := hz
  have q1' := q1 us (SqL.of ha)
  rw [hu] at q1'; cases q1'
  exact pair_new tr hp (rep_lit rfl) ru
def fEnum (fa : FA) : FA := fun δ => (fa δ).bind fun (ds, δ1) => match ds with
  | [.lst xs] => some (enumD xs, δ1)
  | _ => none
theorem pid_enum {e : Expr} {fa : FA} {elts : List Expr} {kk : Nat} {tpos : Pos} (hm : X.mg "enumerate" = none) (ha : PA X [e] (tDs T fa)) (hg : Gl X "enumerate" := by rfl) (hs : starEach [e] X.env = [(false, eval e X.env)] := by rfl) :
    PI X (.Tuple elts kk tpos) (.Call (.Name "enumerate" p) [e] [] pos) (tIt T (fEnum fa)) := PI.imp (pi_enum hg hm ha hs) fun σ H R ⟨S0, δ, ds, δ', ok, e, q⟩ => by
  obtain ⟨d, δ1, e1, e2⟩ := bind_some2 e
  dsimp only at e2
  split at e2
  case h_2 => cases e2
  cases e2
  refine ⟨S0, δ, _, δ', ok, e1, fun vs H1 ok1 s1 r => ?_⟩
  rw [Reps] at r
  obtain ⟨v, vr, rfl, r1, r2⟩ := r
  rw [Reps] at r2; subst r2
  have r1' := r1
  rw [Rep] at r1
  obtain ⟨a, us, rfl, ha, _, _⟩ := r1
  exact ⟨a, us, rfl, SqL.of ha, q _ H1 ok1 s1 (runs_enum r1')⟩

/-! ### for -/
def loopF (ft : FG) (g : FS) : List D → Es → Option Fl
  | [], δ => some (.nx δ)
  | d :: ds, δ => (ft d δ).bind fun δ1 => (g δ1).bind fun r => match r with
    | .nx δ2 => loopF ft g ds δ2
    | .ct δ2 => loopF ft g ds δ2
    | .bk δ2 => some (.nx δ2)
    | .rt d δ2 => some (.rt d δ2)
def sFor (fI : FA) (ft : FG) (g : FS) : FS := fun δ => (fI δ).bind fun (ds, δ1) => loopF ft g ds δ1
theorem drop_cons {α : Type} {ds : List α} {i : Nat} (h : i < ds.length) : ds.drop i = ds[i] :: ds.drop (i + 1) := List.drop_eq_getElem_cons h
theorem st_for {iter : Expr} {body : List Stmt} {fI : FA} {ws : List Nat} {ft : FG} {g : FS} (hp : PassesOwn (model X.prog X.w) X.A X.env X.xe) (hc : X.calm = true) (hi : PI X tg iter (tIt T fI)) (hg : PG X tg (tTg T ws ft)) (hb : PSs X body (tSt T g))
    (hs : ∀ x, foldedSetIterable iter X.env x = pure x := by intro _; rfl) : PS X (.For tg iter body [] pos) (tSt T (sFor fI ft g)) := PS.imp (ps_for hp hc hi hg hb hs) fun E σ H ⟨S0, δ, r, ok, e, q⟩ => by
  obtain ⟨ds, δ1, e1, e2⟩ := bind_some2 e
  refine ⟨S0, δ, ds, δ1, ok, e1, fun J H1 ok1 s1 run => ?_⟩
  refine ⟨fun i m σ' H' => m = ds.length - i ∧ i ≤ ds.length ∧ ∃ δi, Ok T S0 σ' δi H' ∧ Step σ δ1 H1 σ' δi H' ∧ loopF ft g (ds.drop i) δi = some r, ⟨ds.length, by simp, Nat.zero_le _, δ1, ok1, Step.refl, e2⟩, ?_⟩
  rintro i m σ' H' ⟨rfl, hle, δi, oki, si, ei⟩
  obtain ⟨r1, r2⟩ := run (Av S0 σ' δi) H' (fun b z => oki.trk z) fun d v z => si.rep z
  by_cases hlt : i < ds.length
  · refine .inr ⟨(r1 i _ (List.getElem?_eq_getElem hlt)).1, fun σ2 H2 => ∃ δ2, Ok T S0 σ2 δ2 H2 ∧ Step σ δ1 H1 σ2 δ2 H2 ∧ loopF ft g (ds.drop (i + 1)) δ2 = some r, fun σ2 H2 ⟨δ2, a, b, c⟩ => ⟨ds.length - (i + 1), by omega, rfl, hlt, δ2, a, b, c⟩, fun x H2 hy => ?_⟩
    obtain ⟨sm, rx⟩ := (r1 i _ (List.getElem?_eq_getElem hlt)).2 x H2 hy
    replace oki := oki.same sm
    replace si := si.trans (Step.same sm)
    rw [drop_cons hlt] at ei
    obtain ⟨δa, e3, e4⟩ := bind_some1 ei
    obtain ⟨r', e5, e6⟩ := bind_some1 e4
    refine ⟨S0, δi, _, δa, oki, rx, e3, fun σa Ha _ oka sa => ⟨S0, δa, r', oka, e5, ?_⟩⟩
    cases r' with
    | nx δ2 => exact fun σ3 H3 ok3 s3 => ⟨δ2, ok3, (si.trans sa).trans s3, e6⟩
    | ct δ2 => exact fun σ3 H3 ok3 s3 => ⟨δ2, ok3, (si.trans sa).trans s3, e6⟩
    | bk δ2 => cases e6; exact fun σ3 H3 ok3 s3 => q σ3 H3 ok3 ((s1.trans si).trans (sa.trans s3))
    | rt d δ2 => cases e6; exact fun v σ3 H3 ok3 s3 rv => q v σ3 H3 ok3 ((s1.trans si).trans (sa.trans s3)) rv
  · have hi : i = ds.length := by omega
    subst hi
    rw [List.drop_length] at ei
    cases ei
    exact .inl ⟨r2, q σ' H' oki (s1.trans si)⟩

/-! ### while -/
def whileF (c : FT) (g : FS) : Nat → Es → Option Fl
  | 0, _ => none
  | n + 1, δ => (c δ).bind fun (b, δ1) => if b = true then (g δ1).bind fun r => match r with
    | .nx δ2 => whileF c g n δ2
    | .ct δ2 => whileF c g n δ2
    | .bk δ2 => some (.nx δ2)
    | .rt d δ2 => some (.rt d δ2)
    else some (.nx δ1)
def sWhile (fu : Es → Nat) (c : FT) (g : FS) : FS := fun δ => whileF c g (fu δ) δ
theorem st_while {c : Expr} {body : List Stmt} {fc : FT} {g : FS} (fu : Es → Nat) (hp : PassesOwn (model X.prog X.w) X.A X.env X.xe) (hc : PT X c (tDt T fc)) (hb : PSs X body (tSt T g)) : PS X (.While c body [] pos) (tSt T (sWhile fu fc g)) := PS.imp (ps_while hp hc hb) fun E σ H ⟨S0, δ, r, ok, e, q⟩ => by
  refine ⟨fun m σ' H' => ∃ δi, Ok T S0 σ' δi H' ∧ Step σ δ H σ' δi H' ∧ whileF fc g m δi = some r, ⟨fu δ, δ, ok, Step.refl, e⟩, ?_⟩
  rintro m σ' H' ⟨δi, oki, si, ei⟩
  cases m with
  | zero => cases ei
  | succ m =>
    obtain ⟨b, δ1, e1, e2⟩ := bind_some2 ei
    refine ⟨S0, δi, b, δ1, oki, e1, fun H1 ok1 s1 => ?_⟩
    cases b with
    | false =>
      dsimp only at e2
      rw [if_neg Bool.false_ne_true] at e2 ⊢
      cases e2
      exact q σ' H1 ok1 (si.trans s1)
    | true =>
      dsimp only at e2
      rw [if_pos rfl] at e2 ⊢
      obtain ⟨r', e3, e4⟩ := bind_some1 e2
      refine ⟨fun σ2 H2 => ∃ δ2, Ok T S0 σ2 δ2 H2 ∧ Step σ δ H σ2 δ2 H2 ∧ whileF fc g m δ2 = some r, fun σ2 H2 z => ⟨m, Nat.lt_succ_self m, z⟩, S0, δ1, r', ok1, e3, ?_⟩
      cases r' with
      | nx δ2 => exact fun σ3 H3 ok3 s3 => ⟨δ2, ok3, (si.trans s1).trans s3, e4⟩
      | ct δ2 => exact fun σ3 H3 ok3 s3 => ⟨δ2, ok3, (si.trans s1).trans s3, e4⟩
      | bk δ2 => cases e4; exact fun σ3 H3 ok3 s3 => q σ3 H3 ok3 ((si.trans s1).trans s3)
      | rt d δ2 => cases e4; exact fun v σ3 H3 ok3 s3 rv => q v σ3 H3 ok3 ((si.trans s1).trans s3) rv

/-! ### comprehensions -/
theorem ite_some' {α : Type} {c : Prop} [Decidable c] {a : Option α} {b : α} (h : (if c then a else none) = some b) : c ∧ a = some b := by
  by_cases q : c
  · rw [if_pos q] at h; exact ⟨q, h⟩
  · rw [if_neg q] at h; cases h
def lcF (ft : FG) (fc : FT) (fe : FE) (vs : List Nat) : List D → List D → Es → Option (List D × Es)
  | [], acc, δ => some (acc, δ)
  | d :: ds, acc, δ => (ft d δ).bind fun δ1 => (fc δ1).bind fun (b, δ2) => if b = true then (fe δ2).bind fun (y, δ3) => if acc.length ≤ big then lcF ft fc fe vs ds (acc ++ [y]) (wipeE δ3 vs) else none
    else lcF ft fc fe vs ds acc (wipeE δ2 vs)
def fLc (fI : FA) (ft : FG) (fc : FT) (fe : FE) (vs : List Nat) : FA := fun δ => (fI δ).bind fun (ds, δ1) => lcF ft fc fe vs ds [] (wipeE δ1 vs)
def fYes : FT := fun δ => some (true, δ)
theorem pts_yes : PTs X [] (tDt T fYes) := ⟨fun pins s σ H Q I ⟨S0, δ, d, δ', ok, e, q⟩ => by cases e; exact pts_nil.run pins s σ H Q I (q H ok Step.refl)⟩
theorem lc_reading {fI : FA} {ft : FG} {fc : FT} {fe : FE} {vs : List Nat} {σ : L2.St} {H : Hp} {Q : VK} (h : tF T (fLc fI ft fc fe vs) σ H Q) : tLc (tIt T fI) (tTg T vs ft) (tDt T fc) (tD T fe) vs σ H Q := by
  obtain ⟨S0, δ, res, δ', ok, e, q⟩ := h
  obtain ⟨ds, δ1, e1, e2⟩ := bind_some2 e
  refine ⟨S0, δ, ds, δ1, ok, e1, fun J H1 ok1 s1 run A hA => ?_⟩
  have hS : ¬ S0 A := fun z => by obtain ⟨o, e⟩ := ok1.tr A z; rw [hA] at e; cases e
  obtain ⟨okw, sw⟩ := ok1.wipe vs
  obtain ⟨okd, nd⟩ := okw.apart (D := A) (o := .lst []) hA
  refine ⟨fun i m H' => m = ds.length - i ∧ i ≤ ds.length ∧ ∃ δi outs acc, Ok T (orD S0 A) (L2.wipe σ vs) δi H' ∧ Step σ δ1 H1 (L2.wipe σ vs) δi H' ∧ H' A = some (.lst acc) ∧ Reps T H' (Av (orD S0 A) (L2.wipe σ vs) δi) outs acc ∧ ¬ ownAt (L2.wipe σ vs) δi A ∧
      (∀ i ∈ vs, ∀ s, δi[i]? = some s → s = .un) ∧ lcF ft fc fe vs (ds.drop i) outs δi = some (res, δ'),
    ⟨ds.length, by simp, Nat.zero_le _, wipeE δ1 vs, [], [], okd, sw.poke hA, upd_same, Reps.nil, nd, fun i hi s hs => wipeE_un hi hs, e2⟩, ?_⟩
  rintro i m H' ⟨rfl, hle, δi, outs, acc, oki, si, hAi, ri, ni, ui, ei⟩
  have pers : ∀ d v, Rep T H1 (Av S0 σ δ1) d v → Rep T H' (Av (orD S0 A) (L2.wipe σ vs) δi) d v := fun d v z => z.move (fun b o e n => si.keep b o e fun w => n (.inr w)) fun b w => w.elim (fun w => w.elim (fun w => .inl (.inl w)) fun w => .inr (by rw [w]; exact hA)) fun w => (si.own b w).elim (fun w => .inl (.inr w)) .inr
  obtain ⟨r1, r2⟩ := run _ H' (fun b z => oki.trk z) pers
  by_cases hlt : i < ds.length
  · refine .inr ⟨(r1 i _ (List.getElem?_eq_getElem hlt)).1, fun H2 => ∃ δi outs acc, Ok T (orD S0 A) (L2.wipe σ vs) δi H2 ∧ Step σ δ1 H1 (L2.wipe σ vs) δi H2 ∧ H2 A = some (.lst acc) ∧ Reps T H2 (Av (orD S0 A) (L2.wipe σ vs) δi) outs acc ∧ ¬ ownAt (L2.wipe σ vs) δi A ∧
      (∀ i ∈ vs, ∀ s, δi[i]? = some s → s = .un) ∧ lcF ft fc fe vs (ds.drop (i + 1)) outs δi = some (res, δ'), fun H2 z => ⟨ds.length - (i + 1), by omega, rfl, hlt, z⟩, fun x H2 hy => ?_⟩
    obtain ⟨sm, rx⟩ := (r1 i _ (List.getElem?_eq_getElem hlt)).2 x H2 hy
    replace oki := oki.same sm
    replace si := si.trans (Step.same sm)
    replace hAi := sm _ _ hAi
    replace ri := ri.same sm
    rw [drop_cons hlt] at ei
    obtain ⟨δa, e3, e4⟩ := bind_some1 ei
    obtain ⟨b, δb, e5, e6⟩ := bind_some2 e4
    refine ⟨orD S0 A, δi, _, δa, oki, rx, e3, fun σa Ha ag oka sa => ?_⟩
    have hw : L2.wipe σa vs = L2.wipe σ vs := by
      rw [wipe_eq (vs := vs) (σ := L2.wipe σ vs) (σ1 := σa) ag.1 fun j hj => by rw [ag.2 j hj, wipe_get vs (L2.wipe σ vs), if_neg (fun z => hj z.1)]]
      exact wipe_eq (by rw [L2.wipe_length]) fun j _ => rfl
    refine ⟨hw, orD S0 A, δa, b, δb, oka, e5, fun Hb okb sb => ?_⟩
    have nown : ∀ {σx : L2.St} {δx : Es} {Hx : Hp}, Step (L2.wipe σ vs) δi H2 σx δx Hx → ¬ ownAt σx δx A := fun s z => (s.own A z).elim ni fun w => by rw [hAi] at w; cases w
    cases b with
    | false =>
      dsimp only at e6
      show (if _ then _ else _)
      rw [if_neg Bool.false_ne_true] at e6 ⊢
      obtain ⟨okc, sc⟩ := okb.wipe vs
      rw [hw] at okc sc
      have st := (sa.trans sb).trans sc
      exact ⟨_, outs, acc, okc, si.trans st, st.keep A _ hAi ni, st.reps ri, nown st, fun i hi s hs => wipeE_un hi hs, e6⟩
    | true =>
      dsimp only at e6
      show (if _ then _ else _)
      rw [if_pos rfl] at e6 ⊢
      obtain ⟨y, δc, e7, e8⟩ := bind_some2 e6
      obtain ⟨hb, e8⟩ := ite_some' e8
      refine ⟨orD S0 A, δb, y, δc, okb, e7, fun vy Hc okc sc ry => ?_⟩
      obtain ⟨okd, sd⟩ := okc.wipe vs
      rw [hw] at okd sd
      have st := ((sa.trans sb).trans sc).trans sd
      have rs := (st.reps ri).append (Reps.cons (sd.rep ry) Reps.nil)
      have mv : ∀ b u, Hc b = some u → ¬ Av (orD S0 A) (L2.wipe σ vs) (wipeE δc vs) b → upd Hc A (.lst (acc ++ [vy])) b = some u := fun b u e n => by rw [upd_ne (fun z => n (by rw [z]; exact .inl (.inr rfl)))]; exact e
      exact ⟨acc, ((sa.trans sb).trans sc).keep A _ hAi ni, by rw [ri.length]; exact big_line' hb, _, _, _, okd.poke (.inr rfl) (nown st), (si.trans st).poke hA, upd_same, rs.move mv fun b z => .inl z, nown st, fun i hi s hs => wipeE_un hi hs, e8⟩
  · have hi : i = ds.length := by omega
    subst hi
    rw [List.drop_length] at ei
    cases ei
    refine .inl ⟨r2, ?_⟩
    have hl : σ.length = (L2.wipe σ vs).length := by rw [L2.wipe_length]
    have ha : ∀ (i : Nat) s, δ'[i]? = some s → s ≠ .un → σ[i]? = (L2.wipe σ vs)[i]? := fun i s hs ns => by
      rw [wipe_get, if_neg]
      exact fun z => ns (ui i z.1 s hs)
    obtain ⟨ok2, s2⟩ := oki.agree hl ha
    have n2 : ¬ ownAt σ δ' A := fun z => (s2.own A z).elim ni fun w => by rw [hAi] at w; cases w
    obtain ⟨ok3, mv⟩ := ok2.erase hS n2
    have s3 := (s1.trans ((si.trans s2).erase hA))
    have := q A acc (er H' A) ok3 s3 er_self (mv (s2.reps ri))
    rw [upd_er hAi] at this
    exact this
theorem pf_lc {elt iter : Expr} {ifs : List Expr} {scope : Scope} {own : List (Str × Nat)} {fI : FA} {ft : FG} {fc : FT} {fe : FE} (hc : X.calm = true) (hN : X.N.Nodup) (ok : BlkOk X.N X.env.scope scope own) (hi : PI X tg iter (tIt T fI))
    (hg : ∀ (s : Shared) (H : Hp) (C : Addr) (cl : List (Str × Addr)) (fp : List Addr), PG (X.blk s H scope (compEnvC scope cl C X.env) fp) tg (tTg T (own.map (·.2)) ft)) (ht : ∀ (s : Shared) (H : Hp) (C : Addr) (cl : List (Str × Addr)) (fp : List Addr), PTs (X.blk s H scope (compEnvC scope cl C X.env) fp) ifs (tDt T fc))
    (he : ∀ (s : Shared) (H : Hp) (C : Addr) (cl : List (Str × Addr)) (fp : List Addr), PE (X.blk s H scope (compEnvC scope cl C X.env) fp) elt (tD T fe)) (hs : ∀ x, foldedSetIterable iter X.env x = pure x := by intro _; rfl) :
    PE X (.ListComp elt [⟨tg, iter, ifs, 0⟩] scope pos) (tF T (fLc fI ft fc fe (own.map (·.2)))) := PE.imp (pe_lc hc hN hi ok hg ht he hs) fun σ H Q h => lc_reading h
theorem st_lc (i : Nat) {x : Str} {py spos : Pos} {elt iter : Expr} {ifs : List Expr} {scope : Scope} {own : List (Str × Nat)} {fI : FA} {ft : FG} {fc : FT} {fe : FE} (hc : X.calm = true) (hN : X.N.Nodup) (ok : BlkOk X.N X.env.scope scope own) (hi : PI X tg iter (tIt T fI))
    (hg : ∀ (s : Shared) (H : Hp) (C : Addr) (cl : List (Str × Addr)) (fp : List Addr), PG (X.blk s H scope (compEnvC scope cl C X.env) fp) tg (tTg T (own.map (·.2)) ft)) (ht : ∀ (s : Shared) (H : Hp) (C : Addr) (cl : List (Str × Addr)) (fp : List Addr), PTs (X.blk s H scope (compEnvC scope cl C X.env) fp) ifs (tDt T fc))
    (he : ∀ (s : Shared) (H : Hp) (C : Addr) (cl : List (Str × Addr)) (fp : List Addr), PE (X.blk s H scope (compEnvC scope cl C X.env) fp) elt (tD T fe)) (hy : X.N[i]? = some x := by rfl) (hyl : X.env.scope.names.lookup x = some .local := by rfl)
    (hsw : swapsWith (.ListComp elt [⟨tg, iter, ifs, 0⟩] scope pos) (some (.Name x py)) spos.line X.env = pure true := by rfl) (hs : ∀ x, foldedSetIterable iter X.env x = pure x := by intro _; rfl) :
    PS X (.Assign [.Name x py] (.ListComp elt [⟨tg, iter, ifs, 0⟩] scope pos) spos) (tSt T (sOwn i (fLc fI ft fc fe (own.map (·.2))))) := PS.imp (ps_setLc hc hN hy hyl hsw hi ok hg ht he hs) fun E σ H ⟨S0, δ, r, ok, e, q⟩ => by
  obtain ⟨d, δ', e1, e2⟩ := map_some2 e
  subst e2
  refine lc_reading ⟨S0, δ, d, δ', ok, e1, fun a vs H' ok' s ha r => ?_⟩
  obtain ⟨ok2, s2⟩ := ok'.storeOwn (i := i) ha r
  exact q _ _ ok2 (s.trans s2)
end
end Dl
namespace Dl
open PySem PySem.Spec PyProof.Rows L2 ClX
section
variable {X : Cx} {T : CT} {k n c : Nat} {f C : Addr} {fd : FuncData} {ps ks : List Str} {x m : Str} {p pos apos : Pos} {e o : Expr} {es : List Expr} {kws : List Keyword} {fa fk : FA} {fo fe fb : FE} {sp : Sp} {E : XK} {t tk : TA} {g : List Value → List Value → List Value} {gV : List V → List V → List V}
/-! ### items and lengths of what a name holds, be it its own list or a value -/
def fIxN (i : Nat) (fb : FE) : FE := fun δ => if isOwn δ[i]? = true then fIxO i fb δ else fBin gIx (fV i) fb δ
theorem PE.orr {e : Expr} {t u : TE} (h : PE X e t) (h' : PE X e u) : PE X e (fun σ H Q => t σ H Q ∨ u σ H Q) := ⟨fun pins s σ H Q I q => q.elim (h.run pins s σ H Q I) (h'.run pins s σ H Q I)⟩
theorem pd_ixN {i : Nat} {b : Expr} {y : Str} {py : Pos} (hb : PE X b (tD T fb)) (hs : PlainIx b := by exact fun _ _ => rfl) (hN : X.N[i]? = some y := by rfl) (hv : Vis X.env.scope y := by first | exact Or.inl rfl | exact Or.inr (Or.inl rfl) | exact Or.inr (Or.inr rfl))
    (hdy : (y == ("__debug__" : Str)) = false := by decide) (hcd : (y == ("__classdict__" : Str)) = false := by decide) : PE X (.Subscript (.Name y py) b pos) (tD T (fIxN i fb)) :=
  PE.imp (PE.orr (pd_ixO hb hs hN hv hdy hcd) (pd_ix (pd_v i hN hv hdy hcd) hb hs)) fun σ H Q ⟨S0, δ, d, δ', ok, e, q⟩ => by
    unfold fIxN at e
    by_cases h : isOwn δ[i]? = true
    · rw [if_pos h] at e; exact .inl ⟨S0, δ, d, δ', ok, e, q⟩
    · rw [if_neg h] at e; exact .inr ⟨S0, δ, d, δ', ok, e, q⟩
def fLenN (i : Nat) : FE := fun δ => if isOwn δ[i]? = true then fLenO i δ else fFun funLen (fCons (fV i) fNil) δ
theorem pd_lenN {i : Nat} {y : Str} {py : Pos} (hm : X.mg "len" = none) (hN : X.N[i]? = some y := by rfl) (hv : Vis X.env.scope y := by first | exact Or.inl rfl | exact Or.inr (Or.inl rfl) | exact Or.inr (Or.inr rfl)) (hdy : (y == ("__debug__" : Str)) = false := by decide) (hcd : (y == ("__classdict__" : Str)) = false := by decide) (hg : Gl X "len" := by rfl)
    (he : starEach [.Name y py] X.env = (false, eval (.Name y py) X.env) :: starEach [] X.env := by rfl) (hpl : (backTo pos (starEach [] X.env)).any (·.1) = false := by rfl) : PE X (.Call (.Name "len" p) [.Name y py] [] pos) (tD T (fLenN i)) :=
  PE.imp (PE.orr (pd_lenO hm hN hv hdy hcd hg he hpl) (pd_blt call_len_seq callv_len hm PySem.boot_len (pds_cons (pd_v i hN hv hdy hcd) pds_nil he) hg (by decide) (by decide) he hpl)) fun σ H Q ⟨S0, δ, d, δ', ok, e, q⟩ => by
    unfold fLenN at e
    by_cases h : isOwn δ[i]? = true
    · rw [if_pos h] at e; exact .inl ⟨S0, δ, d, δ', ok, e, q⟩
    · rw [if_neg h] at e; exact .inr ⟨S0, δ, d, δ', ok, e, q⟩
/-- divmod -/
def funDivmod : List D → Option D
  | [.int i, .int j] => if okDiv i j = true then some (.tup [.int (i / j), .int (i % j)]) else none
  | _ => none
theorem callv_divmod : CallV T (fun xs H Q => ∃ i j, xs = [.int i, .int j] ∧ CDivP i j ∧ ∀ p, H p = none → Q (.ref p) (upd H p (.tup [.int (i / j), .int (i % j)]))) funDivmod := by
  intro S ds vs H d Q tr r e q
  unfold funDivmod at e
  split at e
  · obtain ⟨h, e⟩ := ite_some e
    subst e
    rename_i i j
    unfold okDiv at h
    simp only [Bool.and_eq_true, decide_eq_true_eq] at h
    refine ⟨i, j, reps_int2 r, ⟨h.1, PyProof.noPylong_of_log2 (Nat.lt_of_lt_of_le (PySem.Flt.log2_lt_of (by decide) h.2) (by decide))⟩, fun p hp => ?_⟩
    have sm : Same H (upd H p (.tup [.int (i / j), .int (i % j)])) := fun b o e => by rw [upd_ne (ne_of_none e hp)]; exact e
    refine q _ _ sm ?_
    rw [Rep]
    exact ⟨p, _, rfl, upd_same, (fun z => by obtain ⟨o, e⟩ := tr p z; rw [hp] at e; cases e), Reps.cons (rep_lit rfl) (Reps.cons (rep_lit rfl) Reps.nil)⟩
  · cases e

/-! ### classmethods, classes as values -/
theorem run_cmG {pins : List (Addr × Obj)} {σ : L2.St} {H : Hp} {s : Shared} {Q : VK} {q h : Addr} {us ws : List Value} {vs zs : List V} (F : FnG X.prog X.w X.K X.mg X.base k h fd ps sp) (hq : Quiet X.A) (hr : Room k X.A) (hb : KBn X.K fd ps (n + 1) ks g gV)
    (I : Inv X ((q, PySem.W.methodObj (.ref h) (.ref C)) :: pins) σ H s) (r : Vals vs us) (rz : Vals zs ws) (l1 : vs.length = n) (l2 : zs.length = ks.length) (hsp : sp (gV (.ref C :: vs) zs) H Q E) : wpAny (model X.prog X.w) X.A (call (.ref q) us (ks.zip ws)) (EP X pins σ Q) X.xe s := by
  have r1 : Vals (V.ref C :: vs) (Value.ref C :: us) := .cons rfl r
  have z : wpAny (model X.prog X.w) X.A (call (.ref q) us (ks.zip ws)) (EP X ((q, PySem.W.methodObj (.ref h) (.ref C)) :: pins) σ Q) X.xe s := by
    refine wpAny_call (PySem.W.method_call (pin_at I) ?_)
    refine codeAny_mono (F.run X.A X.stack s H ⟨.ref C :: us, ks.zip ws⟩ (g (.ref C :: us) ws) (gV (.ref C :: vs) zs) Q E hq hr I.env0 (hb.to s _ ws I.kIn (r1.length.symm.trans (congrArg Nat.succ l1)) (rz.length.symm.trans l2)) (hb.rel r1 rz) hsp) fun z s' hz => ?_
    have e := endG I z s' hz
    match z, e with
    | .ok (.ret _), e => exact e
    | .error _, e => exact e
  exact thn z fun _ _ y => unpinE y
def tCMethN (C : Addr) (n j : Nat) (sp : Sp) (gV : List V → List V → List V) (E : XK) (ta : TE) (t tk : TA) : TE := fun σ H Q => ta σ H fun x H1 => x = .ref C ∧ t σ H1 fun vs H2 => tk σ H2 fun zs H3 => vs.length = n ∧ zs.length = j ∧ sp (gV (.ref C :: vs) zs) H3 Q E
theorem pe_cmethG {pl : Sem Bool} {ta : TE} {mc : Value} {q h : Addr} (ho : PE X o ta) (r : CRead X.K C mc) (cm : CMet X.K C mc m q h) (F : FnG X.prog X.w X.K X.mg X.base k h fd ps sp) (hq : Quiet X.A) (hr : Room k X.A) (hb : KBn X.K fd ps (n + 1) ks g gV) (ha : PA X (e :: es) t) (hkw : PK X kws tk)
    (hall : (backToKw pos (keywordEach kws X.env)).all (·.1.isSome) = true) (hks : (backToKw pos (keywordEach kws X.env)).filterMap (·.1) = ks) (he : starEach (e :: es) X.env = (false, eval e X.env) :: starEach es X.env)
    (hpl : ((backTo pos (starEach (e :: es) X.env)).any (·.1) || (backToKw pos (keywordEach kws X.env)).any (·.1.isNone)) = false)
    (ht : eval (.Call (.Attribute o m apos) (e :: es) kws pos) X.env = (do
      let y ← eval o X.env
      standAt apos.atName
      let (h, first) ← holding [y] (getMethod y m pl)
      callWith pos h first (backTo pos (starEach (e :: es) X.env)) (backToKw pos (keywordEach kws X.env)))) : PE X (.Call (.Attribute o m apos) (e :: es) kws pos) (tCMethN C n ks.length sp gV E ta t tk) := by
  refine ⟨fun pins s σ H Q I hw => ?_⟩
  refine PySem.W.methodCall_KW (pl := pl) (thn (ho.run pins s σ H _ I hw) fun u s1 ⟨x, H1, I1, rx, ex, q1⟩ => ?_) ht
  subst ex
  obtain rfl : u = Value.ref C := rx
  refine getmethcm_ok I1 r cm fun s2 I2 => ?_
  refine PySem.W.callWith_of hpl (PySem.W.keeps_M (K := X.K) (self := .ref C) cm.fi) (PyProof.Rows.evalArgs_kw2 hall (thn (ha.run pos _ s2 σ H1 _ I2 q1) ?_) he)
  rintro us s3 ⟨vs, H2, I3, r3, q3⟩
  refine thn (hkw.run pos _ s3 σ H2 _ I3 q3) ?_
  rintro ws s4 ⟨zs, H3, I4, rz, l1, l2, q4⟩
  refine ⟨⟨pin_at I4, I4.kIn⟩, ?_⟩
  rw [hks]
  exact run_cmG F hq hr hb I4 r3 rz l1 l2 q4
theorem pe_cmethG0 {pl : Sem Bool} {ta : TE} {mc : Value} {q h : Addr} (ho : PE X o ta) (r : CRead X.K C mc) (cm : CMet X.K C mc m q h) (F : FnG X.prog X.w X.K X.mg X.base k h fd ps sp) (hq : Quiet X.A) (hr : Room k X.A) (hb : KBn X.K fd ps (0 + 1) ks g gV) (hkw : PK X kws tk)
    (hall : (backToKw pos (keywordEach kws X.env)).all (·.1.isSome) = true) (hks : (backToKw pos (keywordEach kws X.env)).filterMap (·.1) = ks)
    (hpl : ((backTo pos (starEach [] X.env)).any (·.1) || (backToKw pos (keywordEach kws X.env)).any (·.1.isNone)) = false)
    (ht : eval (.Call (.Attribute o m apos) [] kws pos) X.env = (do
      let y ← eval o X.env
      standAt apos.atName
      let (h, first) ← holding [y] (getMethod y m pl)
      callWith pos h first (backTo pos (starEach [] X.env)) (backToKw pos (keywordEach kws X.env)))) : PE X (.Call (.Attribute o m apos) [] kws pos) (tCMethN C 0 ks.length sp gV E ta tNil tk) := by
  refine ⟨fun pins s σ H Q I hw => ?_⟩
  refine PySem.W.methodCall_KW (pl := pl) (thn (ho.run pins s σ H _ I hw) fun u s1 ⟨x, H1, I1, rx, ex, q1⟩ => ?_) ht
  subst ex
  obtain rfl : u = Value.ref C := rx
  refine getmethcm_ok I1 r cm fun s2 I2 => ?_
  refine PySem.W.callWith_of hpl (PySem.W.keeps_M (K := X.K) (self := .ref C) cm.fi) (PyProof.Rows.evalArgs_kw2_nil hall (thn (hkw.run pos _ s2 σ H1 _ I2 q1) ?_))
  rintro ws s4 ⟨zs, H3, I4, rz, l1, l2, q4⟩
  refine ⟨⟨pin_at I4, I4.kIn⟩, ?_⟩
  rw [hks]
  exact run_cmG (us := []) (vs := []) F hq hr hb I4 .nil rz l1 l2 q4
def fCM (c : Nat) (F : List D → Option D) (gD : List D → List D → List D) (fa fk : FA) : FE := fun δ => (fa δ).bind fun (ds, δ1) => (fk δ1).bind fun (es, δ2) => (F (gD (.cls c :: ds) es)).map fun d => (d, δ2)
theorem cm_imp {ns : List Str} {F : List D → Option D} {gD : List D → List D → List D} {j i : Nat} (hT : T c = some (C, ns)) (hl : LenA fa j) (hk : LenA fk i) (hn : ∀ ds es, ds.length = j + 1 → es.length = i → (gD ds es).length = n)
    (hG : ∀ (T : CT) (H : Hp) (S : Addr → Prop) (ds es : List D) (vs zs : List V), ds.length = j + 1 → es.length = i → Reps T H S ds vs → Reps T H S es zs → Reps T H S (gD ds es) (gV vs zs)) {σ : L2.St} {H : Hp} {Q : VK} (h : tD T (fCM c F gD fa fk) σ H Q) :
    tCMethN C j i (sp0 T n F) gV E (tC (.ref C)) (tDs T fa) (tDs T fk) σ H Q := by
  obtain ⟨S0, δ, d, δ', ok, e, q⟩ := h
  obtain ⟨ds, δ1, e1, e2⟩ := bind_some2 e
  obtain ⟨es, δ2, e3, e4⟩ := bind_some2 e2
  dsimp only at e4
  obtain ⟨d1, e5, e6⟩ := map_some1 e4
  cases e6
  refine ⟨rfl, S0, δ, ds, δ1, ok, e1, fun vs H1 ok1 s1 r1 => ⟨S0, δ1, es, δ', ok1, e3, fun zs H2 ok2 s2 r2 => ?_⟩⟩
  have r1' := s2.reps r1
  have l1 := hl _ _ _ e1
  have l2 := hk _ _ _ e3
  have rc : Rep T H2 (Av S0 σ δ') (.cls c) (.ref C) := by rw [Rep]; exact ⟨C, ns, hT, rfl⟩
  exact ⟨by rw [r1.length, l1], by rw [r2.length, l2], _, gD (.cls c :: ds) es, d, fun b z => ok2.trk z, hn _ _ (by rw [List.length_cons, l1]) l2, hG _ _ _ _ _ _ _ (by rw [List.length_cons, l1]) l2 (Reps.cons rc r1') r2, e5, fun v H' sm r => q v H' (ok2.same sm) ((s1.trans s2).trans (Step.same sm)) r⟩
theorem pd_cm {pl : Sem Bool} {ns : List Str} {F : List D → Option D} {gD : List D → List D → List D} {j : Nat} {mc : Value} {y : Str} {py : Pos} {q h : Addr} (hT : T c = some (C, ns)) (hmC : X.mg y = some (.ref C)) (r : CRead X.K C mc) (cm : CMet X.K C mc m q h) (G : FnG X.prog X.w X.K X.mg X.base k h fd ps (sp0 T n F)) (hq : Quiet X.A) (hr : Room k X.A) (hb : Bnd X.K fd ps (j + 1) ks gD)
    (ha : PA X (e :: es) (tDs T fa)) (hkw : PK X kws (tDs T fk)) (hn : ∀ ds es, ds.length = j + 1 → es.length = ks.length → (gD ds es).length = n := by intro ds es h1 h2; simp [gPos, h1, h2]) (hl : LenA fa j := by repeat (first | exact lenA_nil | refine lenA_cons ?_)) (hlk : LenA fk ks.length := by repeat (first | exact lenA_nil | refine lenA_cons ?_)) (hgl : Gl X y := by rfl) (hdb : (y == ("__debug__" : Str)) = false := by decide)
    (hall : (backToKw pos (keywordEach kws X.env)).all (·.1.isSome) = true := by rfl) (hks : (backToKw pos (keywordEach kws X.env)).filterMap (·.1) = ks := by rfl) (he : starEach (e :: es) X.env = (false, eval e X.env) :: starEach es X.env := by rfl)
    (hpl : ((backTo pos (starEach (e :: es) X.env)).any (·.1) || (backToKw pos (keywordEach kws X.env)).any (·.1.isNone)) = false := by rfl)
    (ht : eval (.Call (.Attribute (.Name y py) m apos) (e :: es) kws pos) X.env = (do
      let y ← eval (.Name y py) X.env
      standAt apos.atName
      let (h, first) ← holding [y] (getMethod y m pl)
      callWith pos h first (backTo pos (starEach (e :: es) X.env)) (backToKw pos (keywordEach kws X.env))) := by rfl) : PE X (.Call (.Attribute (.Name y py) m apos) (e :: es) kws pos) (tD T (fCM c F gD fa fk)) := by
  obtain ⟨g, gV, hb, hG⟩ := hb
  exact PE.imp (pe_cmethG (E := E0) (pe_glob (v := .ref C) hgl hmC rfl hdb) r cm G hq hr hb ha hkw hall hks he hpl ht) fun _ _ _ h => cm_imp hT hl hlk hn hG h
theorem pd_cm0 {pl : Sem Bool} {ns : List Str} {F : List D → Option D} {gD : List D → List D → List D} {mc : Value} {y : Str} {py : Pos} {q h : Addr} (hT : T c = some (C, ns)) (hmC : X.mg y = some (.ref C)) (r : CRead X.K C mc) (cm : CMet X.K C mc m q h) (G : FnG X.prog X.w X.K X.mg X.base k h fd ps (sp0 T n F)) (hq : Quiet X.A) (hr : Room k X.A) (hb : Bnd X.K fd ps (0 + 1) ks gD)
    (hkw : PK X kws (tDs T fk)) (hn : ∀ ds es, ds.length = 0 + 1 → es.length = ks.length → (gD ds es).length = n := by intro ds es h1 h2; simp [gPos, h1, h2]) (hlk : LenA fk ks.length := by repeat (first | exact lenA_nil | refine lenA_cons ?_)) (hgl : Gl X y := by rfl) (hdb : (y == ("__debug__" : Str)) = false := by decide)
    (hall : (backToKw pos (keywordEach kws X.env)).all (·.1.isSome) = true := by rfl) (hks : (backToKw pos (keywordEach kws X.env)).filterMap (·.1) = ks := by rfl)
    (hpl : ((backTo pos (starEach [] X.env)).any (·.1) || (backToKw pos (keywordEach kws X.env)).any (·.1.isNone)) = false := by rfl)
    (ht : eval (.Call (.Attribute (.Name y py) m apos) [] kws pos) X.env = (do
      let y ← eval (.Name y py) X.env
      standAt apos.atName
      let (h, first) ← holding [y] (getMethod y m pl)
      callWith pos h first (backTo pos (starEach [] X.env)) (backToKw pos (keywordEach kws X.env))) := by rfl) : PE X (.Call (.Attribute (.Name y py) m apos) [] kws pos) (tD T (fCM c F gD fNil fk)) := by
  obtain ⟨g, gV, hb, hG⟩ := hb
  refine PE.imp (pe_cmethG0 (E := E0) (pe_glob (v := .ref C) hgl hmC rfl hdb) r cm G hq hr hb hkw hall hks hpl ht) fun σ H Q h => ?_
  obtain ⟨ex, S0, δ, d, δ1, ok, e1, q1⟩ := cm_imp hT lenA_nil hlk hn hG h
  cases e1
  exact ⟨ex, q1 [] H ok Step.refl Reps.nil⟩
end
end Dl
namespace Dl
open PySem PySem.Spec PyProof.Rows L2 ClX
section
variable {X : Cx} {T : CT} {k n c : Nat} {f C : Addr} {fd : FuncData} {ps ks : List Str} {x m : Str} {p pos apos : Pos} {e o : Expr} {es : List Expr} {kws : List Keyword} {fa fk : FA} {fo fe fb : FE} {sp : Sp} {E : XK} {t tk : TA} {g : List Value → List Value → List Value} {gV : List V → List V → List V}
/-! ### a class that a local name holds is called -/
theorem pe_makeL {i : Nat} (M : Mk X.K C f) (F : FnG X.prog X.w X.K X.mg X.base k f fd ps sp) (hq : Quiet X.A) (hr : Room (k + 1) X.A) (hN : X.N[i]? = some x) (hv : Vis X.env.scope x) (hb : KBn X.K fd ps (n + 1) ks g gV) (ha : PA X (e :: es) t) (hkw : PK X kws tk)
    (hall : (backToKw pos (keywordEach kws X.env)).all (·.1.isSome) = true) (hks : (backToKw pos (keywordEach kws X.env)).filterMap (·.1) = ks) (hdb : (x == ("__debug__" : Str)) = false) (hcd : (x == ("__classdict__" : Str)) = false) (he : starEach (e :: es) X.env = (false, eval e X.env) :: starEach es X.env)
    (hpl : ((backTo pos (starEach (e :: es) X.env)).any (·.1) || (backToKw pos (keywordEach kws X.env)).any (·.1.isNone)) = false) : PE X (.Call (.Name x p) (e :: es) kws pos) (fun σ H Q => σ[i]? = some (some (.ref C)) ∧ tMakeN C n ks.length sp gV E t tk σ H Q) := by
  refine ⟨fun pins s σ H Q I h => ?_⟩
  obtain ⟨hs, h⟩ := h
  refine wpAny_Call_Name_kw (thn ((pe_var (pos := p) hN hv hdb hcd).run pins s σ H (fun v H1 => v = .ref C ∧ H1 = H) I ⟨.ref C, hs, rfl, rfl⟩) fun u s1 ⟨v, H1, I1, r1, q1⟩ => ?_)
  obtain ⟨rfl, rfl⟩ := q1
  cases r1
  refine PySem.W.callWith_KW (h₀ := X.base) I.ok.mod.kin M.kp hall (thn (ha.run pos pins s1 σ _ _ I1 h) ?_) hpl he
  rintro us s2 ⟨vs, H2, I2, r, q⟩
  refine thn (hkw.run pos pins s2 σ H2 _ I2 q) ?_
  rintro ws s3 ⟨zs, H3, I3, rz, l1, l2, q2⟩
  refine ⟨I3.kIn, ?_⟩
  rw [hks]
  exact run_makeG M F hq hr hb I3 r rz l1 l2 q2
def fMakeL (i c : Nat) (F : List D → Option (List D)) (gD : List D → List D → List D) (fa fk : FA) : FE := fun δ => match δ[i]? with
  | some (.val (.cls c')) => if c' = c then fMake c F gD fa fk δ else none
  | _ => none
theorem pd_makeL {i : Nat} {ns : List Str} {F : List D → Option (List D)} {gD : List D → List D → List D} {ks : List Str} {kws : List Keyword} {fk : FA} {j : Nat} (hT : T c = some (C, ns)) (M : Mk X.K C f) (G : FnG X.prog X.w X.K X.mg X.base k f fd ps (spI T c n F)) (hq : Quiet X.A) (hr : Room (k + 1) X.A) (hb : BndI X.K fd ps j ks gD)
    (ha : PA X (e :: es) (tDs T fa)) (hkw : PK X kws (tDs T fk)) (hn : ∀ ds es, ds.length = j → es.length = ks.length → (gD ds es).length = n := by intro ds es h1 h2; simp [gPos, h1, h2]) (hl : LenA fa j := by repeat (first | exact lenA_nil | refine lenA_cons ?_)) (hlk : LenA fk ks.length := by repeat (first | exact lenA_nil | refine lenA_cons ?_)) (hN : X.N[i]? = some x := by rfl)
    (hv : Vis X.env.scope x := by first | exact Or.inl rfl | exact Or.inr (Or.inl rfl) | exact Or.inr (Or.inr rfl)) (hall : (backToKw pos (keywordEach kws X.env)).all (·.1.isSome) = true := by rfl) (hks : (backToKw pos (keywordEach kws X.env)).filterMap (·.1) = ks := by rfl) (hdb : (x == ("__debug__" : Str)) = false := by decide) (hcd : (x == ("__classdict__" : Str)) = false := by decide)
    (he : starEach (e :: es) X.env = (false, eval e X.env) :: starEach es X.env := by rfl) (hpl : ((backTo pos (starEach (e :: es) X.env)).any (·.1) || (backToKw pos (keywordEach kws X.env)).any (·.1.isNone)) = false := by rfl) : PE X (.Call (.Name x p) (e :: es) kws pos) (tD T (fMakeL i c F gD fa fk)) := by
  obtain ⟨g, gV, hb, hV, hx, hG⟩ := hb
  refine PE.imp (pe_makeL (i := i) (E := E0) M G hq hr hN hv hb ha hkw hall hks hdb hcd he hpl) fun σ H Q ⟨S0, δ, d, δ', ok, e, q⟩ => ?_
  unfold fMakeL at e
  split at e
  · rename_i c' hc'
    by_cases hcc : c' = c
    · subst hcc
      rw [if_pos rfl] at e
      obtain ⟨v, e1, r⟩ := ok.sl i _ hc'
      rw [Rep] at r
      obtain ⟨C', ns', hT', rfl⟩ := r
      rw [hT] at hT'; cases hT'
      exact ⟨e1, make_imp hT hl hlk hn hx hG ⟨S0, δ, d, δ', ok, e, q⟩⟩
    · rw [if_neg hcc] at e; cases e
  · cases e
/-- one value of several kinds of callee -/
def fOrE (f g : FE) : FE := fun δ => match f δ with
  | some r => some r
  | none => g δ
theorem PE.fOr {e : Expr} {f g : FE} (h : PE X e (tD T f)) (h' : PE X e (tD T g)) : PE X e (tD T (fOrE f g)) := PE.imp (PE.orr h h') fun σ H Q ⟨S0, δ, d, δ', ok, e, q⟩ => by
  unfold fOrE at e
  cases z : f δ with
  | some r => rw [z] at e; cases e; exact .inl ⟨S0, δ, d, δ', ok, z, q⟩
  | none => rw [z] at e; exact .inr ⟨S0, δ, d, δ', ok, e, q⟩
end
/-! ### a promise whose function is what the body's function tells -/
def outD (m : Nat) (g : FS) (ds : List D) : Option D := (g (ini m ds)).bind endD
def outP (m : Nat) (g : FS) (xs ds : List D) : Option (D × List D) := (g (.own .pot xs :: ini (m - 1) ds)).bind endP
section
variable {P : Program} {w : World} {K : PySem.W.Frag} {mg : Str → Option Value} {base : Heap} {T : CT}
theorem ok0' {x qual : Str} {st : Stmt} {f : Addr} {fd : FuncData} {N ps : List Str} {k m n : Nat} {g : FS} (F : Fun K x qual st f fd) (S : FnScope N ps (defScope st)) (hN : N.length = m) (hps : ps.length = n)
    (body : ∀ (cdv : Value) (A : Around) (outer : List PySem.Env) (s : Shared) (H : Hp) (E : XK), Quiet A → Room k (A.deeper (envOfC qual (defScope st) s.heap.objs.size f cdv)) → PSs (cxOf CX0 P w K mg base N qual (defScope st) f cdv A outer s H E).nox (defBody st) (tSt T g)) : FnG P w K mg base (k + 1) f fd ps (sp0 T n (outD m g)) := by
  subst hN hps
  exact ok0 (outD N.length g) F S body fun ds d _ h => by
    unfold outD at h
    obtain ⟨r, e1, e2⟩ := bind_some1 h
    exact ⟨r, e1, e2⟩
theorem ok1' {x qual : Str} {st : Stmt} {f : Addr} {fd : FuncData} {N ps : List Str} {k m n : Nat} {g : FS} (F : Fun K x qual st f fd) (S : FnScope N ps (defScope st)) (hN : N.length = m) (hn : ps.length = n + 1)
    (body : ∀ (cdv : Value) (A : Around) (outer : List PySem.Env) (s : Shared) (H : Hp) (E : XK), Quiet A → Room k (A.deeper (envOfC qual (defScope st) s.heap.objs.size f cdv)) → PSs (cxOf CX0 P w K mg base N qual (defScope st) f cdv A outer s H E).nox (defBody st) (tSt T g)) : FnG P w K mg base (k + 1) f fd ps (sp1 T n (outP m g)) := by
  subst hN
  exact ok1 (outP N.length g) F S hn body fun xs ds d xs' _ h => by
    unfold outP at h
    obtain ⟨r, e1, e2⟩ := bind_some1 h
    exact ⟨r, e1, e2⟩
end
end Dl
namespace Dl
open PySem PySem.Spec PyProof.Rows L2 ClX
/-! ### + of ints, texts, lists; own reflected operators -/
def gAdd0 : D → D → Option D := gOr (gI0 fun i j => .int (i + j)) (gOr gCatS gCatL)
def rAdd0 : R2 := fun x y H Q => (rI0 fun i j => .int (i + j)) x y H Q ∨ ((fun x y H Q => ∃ i j, x = .str i ∧ y = .str j ∧ i.length + j.length ≤ sizeLine ∧ Q (.str (i ++ j)) H) x y H Q ∨ rCat x y H Q)
section
variable {X : Cx} {T : CT} {k : Nat} {f C : Addr} {fd : FuncData} {ps : List Str} {sp : Sp} {E : XK}
theorem op_add0 : OpR X (binaryOp .Add) rAdd0 := OpR.or op_add (OpR.or op_add_str op_cat)
theorem opv_add0 : OpV T rAdd0 gAdd0 := OpV.or opv_add (OpV.or opv_catS opv_catL)
def CDivNW (_ j : Int) : Prop := j ≠ 0 ∧ j.natAbs.log2 < 9000
def okDivN (_ j : Int) : Bool := decide (j ≠ 0) && decide (j.natAbs < 2 ^ 4000)
theorem op_fdivNW : OpR X (binaryOp .FloorDiv) (rI CDivNW fun i j => .int (i.fdiv j)) := opI fun _ _ _ _ _ _ _ hc q => floordiv_int hc.1 q (.inl (PyProof.noPylong_of_log2 hc.2))
theorem opv_fdiv : OpV T (rI CDivNW fun i j => .int (i.fdiv j)) (gI okDivN fun i j => .int (i.fdiv j)) := opv_I (fun i j h => by
  unfold okDivN at h
  simp only [Bool.and_eq_true, decide_eq_true_eq] at h
  exact ⟨h.1, Nat.lt_of_lt_of_le (PySem.Flt.log2_lt_of (by decide) h.2) (by decide)⟩) fun _ _ => rfl
/-- len, of a text too -/
def funLenS : List D → Option D
  | [.str z] => if z.length ≤ big then some (.int z.length) else none
  | _ => none
theorem callv_lenS : CallV T (fun xs H Q => ∃ z, xs = [.str z] ∧ z.length ≤ sizeLine ∧ Q (.int z.length) H) funLenS := by
  intro S ds vs H d Q tr r e q
  unfold funLenS at e
  split at e
  · obtain ⟨h, e⟩ := ite_some e
    subst e
    rw [Reps] at r
    obtain ⟨v, r2, rfl, h1, h2⟩ := r
    rw [Reps] at h2; subst h2
    exact ⟨_, by rw [rep_str h1], big_line h, q _ H (Same.refl _) (rep_lit rfl)⟩
  · cases e
theorem op_radd (w : OwnRev X.K C .Add f "int.__add__" Builtin.«int.__add__») (F : FnG X.prog X.w X.K X.mg X.base k f fd ps sp) (hqt : Quiet X.A) (hr : Room k X.A) (hb : Binds X.K fd ps []) (hn : ps.length = 2) : OpR X (binaryOp .Add) (rOwnR C sp E) :=
  op_ownR w F hqt hr hb hn PySem.F.fills_int_add PySem.F.slot_int_add PySem.F.entry_int_add (fun _ _ => PySem.F.args_int_add_2 _ _) fun b t y dx => OwB.int_add_dec b t y C dx
theorem op_rsub (w : OwnRev X.K C .Sub f "int.__sub__" Builtin.«int.__sub__») (F : FnG X.prog X.w X.K X.mg X.base k f fd ps sp) (hqt : Quiet X.A) (hr : Room k X.A) (hb : Binds X.K fd ps []) (hn : ps.length = 2) : OpR X (binaryOp .Sub) (rOwnR C sp E) :=
  op_ownR w F hqt hr hb hn PySem.F.fills_int_sub PySem.F.slot_int_sub PySem.F.entry_int_sub (fun _ _ => PySem.F.args_int_sub_2 _ _) fun b t y dx => OwB.int_sub_dec b t y C dx
theorem op_rmul (w : OwnRev X.K C .Mult f "int.__mul__" Builtin.«int.__mul__») (F : FnG X.prog X.w X.K X.mg X.base k f fd ps sp) (hqt : Quiet X.A) (hr : Room k X.A) (hb : Binds X.K fd ps []) (hn : ps.length = 2) : OpR X (binaryOp .Mult) (rOwnR C sp E) :=
  op_ownR w F hqt hr hb hn PySem.F.fills_int_mul PySem.F.slot_int_mul PySem.F.entry_int_mul (fun _ _ => PySem.F.args_int_mul_2 _ _) fun b t y dx => OwB.int_mul_dec b t y C dx
end
end Dl
namespace Dl
open PySem PySem.Spec PyProof.Rows L2 ClX
section
variable {X : Cx} {T : CT}
theorem CallR.orr {f : Value} {r r' : List V → Hp → VK → Prop} (h : CallR X f r) (h' : CallR X f r') : CallR X f (fun xs H Q => r xs H Q ∨ r' xs H Q) := by
  intro pins s σ H xs us Q I rr hq
  rcases hq with hq | hq
  · exact h pins s σ H xs us Q I rr hq
  · exact h' pins s σ H xs us Q I rr hq
theorem UnR.orr {f : Value → Sem Value} {r r' : V → Hp → VK → Prop} (h : UnR X f r) (h' : UnR X f r') : UnR X f (fun x H Q => r x H Q ∨ r' x H Q) := by
  intro pins s σ H x v Q I rr hq
  rcases hq with hq | hq
  · exact h pins s σ H x v Q I rr hq
  · exact h' pins s σ H x v Q I rr hq
def uOr (g g' : D → Option D) : D → Option D := fun x => match g x with
  | some d => some d
  | none => g' x
theorem UnV.or {r r' : V → Hp → VK → Prop} {g g' : D → Option D} (h : UnV T r g) (h' : UnV T r' g') : UnV T (fun x H Q => r x H Q ∨ r' x H Q) (uOr g g') := by
  intro S x v H d Q tr rx e q
  unfold uOr at e
  cases z : g x with
  | some d' => rw [z] at e; cases e; exact .inl (h S x v H d Q tr rx z q)
  | none => rw [z] at e; exact .inr (h' S x v H d Q tr rx e q)
end
end Dl
namespace Dl
open PySem PySem.Spec PyProof.Rows L2 ClX
/-! ### the law's script -/
def ScK (K : PySem.W.Frag) (T : CT) : Prop := ∀ a ns, T.sc a ns → ∀ H, SqL K H a (ns.map V.int)
section
variable {X : Cx} {T : CT} {k n c : Nat} {f C : Addr} {fd : FuncData} {ps ks : List Str} {x m : Str} {p pos apos : Pos} {e o : Expr} {es : List Expr} {kws : List Keyword} {fa fk : FA} {fo fe fb : FE}
theorem scr_sql {K : PySem.W.Frag} {H : Hp} {S : Addr → Prop} {ns : List Int} {v : V} (hS : ScK K T) (r : Rep T H S (.scr ns) v) : ∃ a, v = .ref a ∧ SqL K H a (ns.map V.int) := by
  rw [Rep] at r
  obtain ⟨a, e, h | ⟨o, ha, _⟩⟩ := r
  · exact ⟨a, e, hS a ns h H⟩
  · exact ⟨a, e, .inl (.inr ⟨o, ha⟩)⟩
theorem atI_map {α β : Type} (g : α → β) (xs : List α) (i : Int) : atI (xs.map g) i = (atI xs i).map g := by
  unfold atI
  rw [List.length_map]
  cases ixN xs.length i with
  | none => rfl
  | some j => simp
def gIxS : D → D → Option D
  | .scr ns, .int i => (atI ns i).map D.int
  | _, _ => none
theorem opv_ixS {K : PySem.W.Frag} (hS : ScK K T) : OpV T (rIxL K) gIxS := by
  intro S x y vx vy H d Q tr rx ry e q
  unfold gIxS at e
  split at e
  · obtain ⟨j, e1, e2⟩ := map_some1 e
    subst e2
    obtain ⟨a, rfl, h⟩ := scr_sql hS rx
    exact ⟨a, _, _, .int j, rfl, rep_int ry, h, by rw [atI_map, e1]; rfl, q _ H (Same.refl _) (rep_lit rfl)⟩
  · cases e
theorem pd_ixS {a b : Expr} (hS : ScK X.K T) (ha : PE X a (tD T fo)) (hb : PE X b (tD T fb)) (hs : PlainIx b := by exact fun _ _ => rfl) : PE X (.Subscript a b pos) (tD T (fBin gIxS fo fb)) := PE.imp (pe_ix ix_list ha hb hs) fun _ _ _ h => bin_imp (opv_ixS hS) h
def funLenR : List D → Option D
  | [.scr ns] => some (.int ns.length)
  | _ => none
theorem callv_lenR {K : PySem.W.Frag} (hS : ScK K T) : CallV T (fun xs H Q => ∃ p ys, xs = [.ref p] ∧ (SqL K H p ys ∨ SqT K H p ys) ∧ Q (.int ys.length) H) funLenR := by
  intro S ds vs H d Q tr r e q
  unfold funLenR at e
  split at e
  · cases e
    rw [Reps] at r
    obtain ⟨v, r2, rfl, h1, h2⟩ := r
    rw [Reps] at h2; subst h2
    obtain ⟨a, rfl, h⟩ := scr_sql hS h1
    exact ⟨a, _, rfl, .inl h, q _ H (Same.refl _) (rep_lit (by rw [List.length_map]; rfl))⟩
  · cases e

/-! ### a def that returns a new list -/
/-- a body's end: a new list is returned -/
def tSF (T : CT) (f : FA) : TS := fun E σ H => ∃ S0 δ ds δ', Ok T S0 σ δ H ∧ f δ = some (ds, δ') ∧ ∀ a vs σ' H1, Ok T S0 σ' δ' H1 → Step σ δ H σ' δ' H1 → H1 a = none → Reps T H1 (Av S0 σ' δ') ds vs → E.rt (.ref a) (upd H1 a (.lst vs))
theorem sts_retF {f : FA} (h : PE X e (tF T f)) : PSs X [.Return (some e) pos] (tSF T f) := PSs.imp (pss_one (ps_ret h)) fun E σ H ⟨S0, δ, ds, δ', ok, e, q⟩ => ⟨S0, δ, ds, δ', ok, e, fun a vs H1 ok1 s1 ha r => q a vs σ H1 ok1 s1 ha r⟩
def sSeqF (g : FS) (f : FA) : FA := fun δ => (g δ).bind fun r => match r with
  | .nx δ1 => f δ1
  | _ => none
theorem sts_consF {st : Stmt} {rest : List Stmt} {g : FS} {f : FA} (h1 : PS X st (tSt T g)) (h2 : PSs X rest (tSF T f)) : PSs X (st :: rest) (tSF T (sSeqF g f)) := PSs.imp (pss_cons h1 h2) fun E σ H ⟨S0, δ, ds, δ', ok, e, q⟩ => by
  obtain ⟨r, e1, e2⟩ := bind_some1 e
  refine ⟨S0, δ, r, ok, e1, ?_⟩
  cases r with
  | nx δ1 => exact fun σ1 H1 ok1 s1 => ⟨S0, δ1, ds, δ', ok1, e2, fun a vs σ' H2 ok2 s2 ha r => q a vs σ' H2 ok2 (s1.trans s2) ha r⟩
  | bk δ1 => cases e2
  | ct δ1 => cases e2
  | rt d δ1 => cases e2
def spF (T : CT) (n : Nat) (F : List D → Option (List D)) : Sp := fun vs H Q _ => ∃ S ds xs, (∀ b, S b → ∃ o, H b = some o) ∧ ds.length = n ∧ Reps T H S ds vs ∧ F ds = some xs ∧ ∀ a us H1, Same H H1 → H1 a = none → Reps T H1 S xs us → Q (.ref a) (upd H1 a (.lst us))
def outF (m : Nat) (g : FA) (ds : List D) : Option (List D) := (g (ini m ds)).map (·.1)
def fCallF (F : List D → Option (List D)) (fa : FA) : FA := fun δ => (fa δ).bind fun (ds, δ1) => (F ds).map fun xs => (xs, δ1)
theorem pf_call {F : List D → Option (List D)} (G : FnG X.prog X.w X.K X.mg X.base k f fd ps (spF T n F)) (hq : Quiet X.A) (hr : Room k X.A) (hm : X.mg x = some (.ref f)) (hk : PySem.W.keepIn X.K (.ref f) = true) (hb : Binds X.K fd ps []) (hps : ps.length = n)
    (ha : PA X (e :: es) (tDs T fa)) (hl : LenA fa n := by repeat (first | exact lenA_nil | refine lenA_cons ?_)) (hg : Gl X x := by rfl) (hdb : (x == ("__debug__" : Str)) = false := by decide) (he : starEach (e :: es) X.env = (false, eval e X.env) :: starEach es X.env := by rfl)
    (hpl : ((backTo pos (starEach (e :: es) X.env)).any (·.1) || (backToKw pos (keywordEach [] X.env)).any (·.1.isNone)) = false := by rfl) : PE X (.Call (.Name x p) (e :: es) [] pos) (tF T (fCallF F fa)) := PE.imp (pe_callG (E := E0) G hq hr hm hk (kbn_pos hb hps) ha pk_nil hg rfl rfl hdb he hpl) fun σ H Q ⟨S0, δ, xs, δ', ok, e, q⟩ => by
  obtain ⟨ds, δ1, e1, e2⟩ := bind_some2 e
  obtain ⟨xs', e3, e4⟩ := map_some1 e2
  cases e4
  refine ⟨S0, δ, ds, δ', ok, e1, fun vs H1 ok1 s1 r1 => ?_⟩
  have l1 := hl _ _ _ e1
  exact ⟨by rw [r1.length, l1], rfl, Av S0 σ δ', ds, xs, fun b z => ok1.trk z, l1, r1, e3, fun a us H2 sm ha rs => q a us H2 (ok1.same sm) (s1.trans (Step.same sm)) ha rs⟩
end
section
variable {P : Program} {w : World} {K : PySem.W.Frag} {mg : Str → Option Value} {base : Heap} {T : CT}
theorem okF {x qual : Str} {st : Stmt} {f : Addr} {fd : FuncData} {N ps : List Str} {k m n : Nat} {g : FA} (F : Fun K x qual st f fd) (S : FnScope N ps (defScope st)) (hN : N.length = m) (hps : ps.length = n)
    (body : ∀ (cdv : Value) (A : Around) (outer : List PySem.Env) (s : Shared) (H : Hp) (E : XK), Quiet A → Room k (A.deeper (envOfC qual (defScope st) s.heap.objs.size f cdv)) → PSs (cxOf CX0 P w K mg base N qual (defScope st) f cdv A outer s H E).nox (defBody st) (tSF T g)) : FnG P w K mg base (k + 1) f fd ps (spF T n (outF m g)) := by
  subst hN hps
  obtain ⟨oc, od, kV, doc, pm, an, cdv, ct, osl, rfl, lk, hcd⟩ := F.ex
  refine fnG_of lk hcd S (fun vs H Q E h => ?_) (fun A outer s H vs Q E hq hr h => ?_)
  · obtain ⟨S, ds, d, _, hl, r, _⟩ := h
    rw [r.length, hl]
  · obtain ⟨S, ds, xs, tr, hl, r, eG, q⟩ := h
    unfold outF at eG
    obtain ⟨z, e1, e2⟩ := map_some1 eG
    obtain ⟨ys, δ'⟩ := z
    cases e2
    refine ⟨_, body cdv A outer s H E hq hr, S, ini N.length ds, _, δ', ini_ok tr r, e1, fun a us σ' H1 ok1 s1 ha rs => ?_⟩
    exact q a us H1 (fun b o e => s1.keep b o e (ini_own b)) ha (rs.sub fun b z => .inl z)

/-! ### the head: the law's promise at the heap behind the top -/
/-- the lists of ints that K has -/
def scOf (K : PySem.W.Frag) : Addr → List Int → Prop := fun a ns => ∀ H, SqL K H a (ns.map V.int)
/-- at most one address is tracked, and K has nothing there -/
def Lone (K : PySem.W.Frag) (H : Hp) (l : Addr) : Prop := ∀ c u, H c = some u → c = l ∧ K.lookup l = none
/-- the state behind the top, seen with the script alone in the tracked heap -/
theorem head_env {t : Shared} {bm : Str → Option Value} {H : Hp} {l : Addr} {ob : Obj} (one : Lone K H l) (hob : t.heap.get? l = some ob) (nd : ∀ es ep, ob.data ≠ .dict es ep) (kin : K.In t.heap) (gl : t.heap.Ns mainGlobals mg) (bl : t.heap.Ns builtinsNs bm)
    (bb : ∀ y : Str, y ≠ "__name__" → bm y = bootBuiltins y) (nl : t.heap.NoLimit) (gn : t.gens = #[]) (ok : HOk P w H t.heap) :
    K.In (hidT t.heap H) ∧ (hidT t.heap H).Ns mainGlobals mg ∧ Env0 P w K mg (hidT t.heap H) callerA [] t H := by
  have free : ∀ {c : Addr}, (c = l → K.lookup l = none → False) → H c = none := fun {c} no => by
    cases hc : H c with
    | none => rfl
    | some u => exact (no (one c u hc).1 (one c u hc).2).elim
  have keepNs : ∀ {c : Addr} {mm : Str → Option Value}, t.heap.Ns c mm → (hidT t.heap H).Ns c mm := by
    rintro c mm ⟨od, es, ep, h1, h2, h3⟩
    refine ⟨od, es, ep, hidT_get h1 (free fun z _ => ?_), h2, h3⟩
    rw [z, hob] at h1
    cases h1
    exact nd _ _ h2
  have kin' : K.In (hidT t.heap H) := fun c od hc => hidT_get (kin c od hc) (free fun z1 z2 => by rw [z1, z2] at hc; cases hc)
  obtain ⟨lm, n1, n2⟩ := nl
  refine ⟨kin', keepNs gl, rfl, ⟨kin', keepNs gl, ⟨bm, keepNs bl, bb⟩, lm, keepNs n1, n2⟩, fun c od hc => of_hidT hc, Nat.le_of_eq (hidT_size _ _), trivial, ?_, ok, .of_eq gn⟩
  intro c hc
  cases hc
/-- the law's call at the heap behind the top: where its function tells True, it returns True and leaves what stood as it stood -/
theorem law_callG {fa a : Addr} {fd : FuncData} {x : Str} {k : Nat} {G : List D → Option D} {bm : Str → Option Value} {t : Shared} {us : List Value} {ns : List Int} (hT : T.sc = scOf K) (kin : K.In t.heap) (gl : t.heap.Ns mainGlobals mg) (bl : t.heap.Ns builtinsNs bm)
    (bb : ∀ y : Str, y ≠ "__name__" → bm y = bootBuiltins y) (nl : t.heap.NoLimit) (gn : t.gens = #[]) (hob : t.heap.get? a = some { cls := .type "list", data := .seq us.toArray }) (hi : IntsAre us ns) (hl : ns.length ≤ sizeLine) (hr : Room k callerA) (hqc : Quiet callerA)
    (F : ∀ base : Heap, K.In base → base.Ns mainGlobals mg → FnG P w K mg base k fa fd [x] (sp0 T 1 G)) (hbind : ∀ (s : Shared) (u : Value), BindsTo s fd ⟨[u], []⟩ [(x, u)]) (hG : G [.scr ns] = some (.bl true)) :
    codeAny (model P w) callerA (.call (.ref fa) ⟨[.ref a], []⟩) (fun r t' => r = .ok (.ret (.bool true)) ∧ OldK t.heap t'.heap ∧ t'.os = t.os ∧ AllBare t'.gens) t := by
  have vis := vals_ints hi
  have nlen := hi.length
  -- whatever is tracked: nothing, or the script's list as it stands
  have go : ∀ H : Hp, (∀ c u, H c = some u → u = .frz { cls := .type "list", data := .seq us.toArray } (.lst (ns.map V.int))) → Lone K H a → Rep T H (fun _ => False) (.scr ns) (.ref a) →
      codeAny (model P w) callerA (.call (.ref fa) ⟨[.ref a], []⟩) (fun r t' => r = .ok (.ret (.bool true)) ∧ OldK t.heap t'.heap ∧ t'.os = t.os ∧ AllBare t'.gens) t := fun H what one rs => by
    have ok : HOk P w H t.heap := fun c u hc => by
      rw [what c u hc, (one c u hc).1]
      exact ⟨hob, by simpa using hl, us, _, vis, hob⟩
    obtain ⟨k1, k2, env⟩ := head_env (P := P) (w := w) one hob (fun _ _ z => nomatch z) kin gl bl bb nl gn ok
    have told : sp0 T 1 G [.ref a] H (fun v _ => v = .bl true) E0 := ⟨_, [.scr ns], _, fun _ z => z.elim, rfl, Reps.cons rs Reps.nil, hG, fun _ _ _ r => rep_bl r⟩
    have run := (F _ k1 k2).run callerA [] t H ⟨[.ref a], []⟩ [.ref a] [.ref a] _ _ hqc hr env (hbind t _) (.cons rfl .nil) told
    refine codeAny_mono run fun r t' e => ?_
    match r, e with
    | .ok (.ret y), ⟨v, H', os, bare, un, ok', ry, hv⟩ =>
      cases hv
      cases (show y = Value.bool true from ry)
      refine ⟨rfl, .of_keep fun c od hc => ?_, os, bare⟩
      cases hH : H c with
      | none => exact un.keep c od hc hH (fun z => by cases z) (fun z => by cases z)
      | some u =>
        have e1 := what c u hH
        subst e1
        have o1 : t.heap.get? c = some _ := (ok c _ hH).1
        have o2 : t'.heap.get? c = some _ := (ok' c _ (un.frzs c _ _ hH)).1
        rw [o1] at hc
        cases hc
        exact o2
    | .ok .next, e => exact (e : False).elim
    | .ok .brk, e => exact (e : False).elim
    | .ok .cont, e => exact (e : False).elim
    | .error _, e => exact (e : False).elim
  by_cases own : K.lookup a = none
  · refine go (fun c => if c = a then some (.frz { cls := .type "list", data := .seq us.toArray } (.lst (ns.map V.int))) else none) (fun c u hc => ?_) (fun c u hc => ?_) ?_
    · try dsimp only at hc
      split at hc
      · exact (Option.some.inj hc).symm
      · cases hc
    · try dsimp only at hc
      split at hc
      · exact ⟨by assumption, own⟩
      · cases hc
    · rw [Rep]
      exact ⟨a, rfl, .inr ⟨_, if_pos rfl, id⟩⟩
  · obtain ⟨od, hod⟩ := Option.ne_none_iff_exists'.mp own
    have same := kin a od hod
    rw [hob] at same
    cases same
    refine go (fun _ => none) (fun _ _ z => nomatch z) (fun _ _ z => nomatch z) ?_
    rw [Rep, hT]
    exact ⟨a, rfl, .inl fun H => .inr ⟨_, us.toArray, _, hod, rfl, rfl, rfl, by rw [List.size_toArray, nlen]; exact hl, by simpa using vis⟩⟩
end
theorem walk_G {l : PySem.W.OpenLaw} {n k : Nat} {q : Program} {loose : List Str} {XP : (Str → Option Value) → Heap → Prop} {YP : World → Heap → Prop} {d : DefRec} {K : Params → PySem.W.Frag} {G : List D → Option D} {x : Str}
    (hn : l.most = some n) (hn2 : n ≤ sizeLine) (hdf : d.params.defaults = []) (hr : Room k callerA) (hqc : Quiet callerA)
    (hY : ∀ (w : World) (h : Heap), YP w h → (K w.params).In h)
    (F : ∀ (w : World) (mg : Str → Option Value) (fa : Addr) (h : Heap), (K w.params).In h → h.Ns mainGlobals mg → mg d.name = some (.ref fa) →
      ∃ (fd : FuncData) (T : CT), T.sc = scOf (K w.params) ∧ (∀ (s : Shared) (u : Value), BindsTo s fd ⟨[u], []⟩ [(x, u)]) ∧
        ∀ base : Heap, (K w.params).In base → base.Ns mainGlobals mg → FnG l.prog w (K w.params) mg base k fa fd [x] (sp0 T 1 G))
    (hG : ∀ ns : List Int, ns.length ≤ n → G [.scr ns] = some (.bl true)) :
    PySem.W.WalkO q loose XP YP l.row.toRowW d [] (fun f vs => PySem.call f vs) := by
  refine Att.attach_call hn hdf fun w s₀ s₁ mg mb fa o pm cd doc a vs ns G Y ho hd hcd hmg hobj hints hlen hg => ?_
  have KX := hY w _ Y
  obtain ⟨fd, T, hT, hb, hF⟩ := F w mg fa _ KX G.T.g hmg
  exact law_callG hT KX G.T.g G.T.b G.T.builtins G.T.nolimit hg hobj hints (Nat.le_trans hlen hn2) hr hqc hF hb (hG ns hlen)
end Dl
namespace Dl
open PySem PySem.Spec PyProof.Rows L2 ClX
section
variable {K : PySem.W.Frag} {x qual : Str} {params : Arguments} {body : List Stmt} {scope : Scope} {dvs : List V} {f : Addr} {fd : FuncData} {ps : List Str}
/-- an __init__ with defaults, n values and keywords that follow in the parameters' order given; the defaults behind the first j fill up -/
theorem bndI_of (F : FunD K x qual params body scope dvs [] f fd) (n j : Nat) (ks : List Str) (dd : List D) (hd : dvs ≠ []) (hl : Lits dd (dvs.drop j))
    (h : ∀ (T : Addr) (kV doc pm : Value) (an : Option Addr) (cdv ct : Value) (us its ws : List Value), us.length = n + 1 → its.length = dvs.length → ws.length = ks.length →
      ∃ k, bindArgs (PySem.W.fnOf x qual params body scope (.ref T) kV doc pm an cdv ct) ⟨us, ks.zip ws⟩ = seqItems? (.ref T) >>= k ∧ k (some its.toArray) = pure (ps.zip (us ++ ws ++ its.drop j))) : BndI K fd ps n ks (gPos dd) := by
  have rel : ∀ {vs ds zs : List V} {us its ws : List Value}, Vals vs us → Vals ds its → Vals zs ws → Vals (vs ++ zs ++ ds.drop j) (us ++ ws ++ its.drop j) := fun {vs ds zs us its ws} r1 r2 r3 => (r1.append r3).append (by
    clear h hl
    induction j generalizing ds its with
    | zero => exact r2
    | succ j ih => cases r2 with
      | nil => exact .nil
      | cons a b => exact ih b)
  obtain ⟨its, hk⟩ := F.kbindsD (ps := ps) (n + 1) ks (fun {α} us its ws => us ++ ws ++ its.drop j) hd rel h
  exact ⟨_, _, hk, fun vs zs => vs ++ zs ++ dvs.drop j, fun a vs zs _ _ => rfl, fun T H S ds es vs zs _ _ r1 r2 => (r1.append r2).append (hl T H S)⟩
theorem funD_mk {oc : Value} {od an : Option Addr} {osl : Array (Option Value)} {dA : Addr} {o : Obj} {its : List Value} {m : Nat} {kV doc pm cdv ct : Value} (l : K.lookup f = some ⟨oc, od, .func (PySem.W.fnOf x qual params body scope (.ref dA) kV doc pm an cdv ct), osl⟩)
    (c : PySem.W.codeIn K cdv qual = true) (k : PySem.W.keepIn K (.ref f) = true) (hd : dvs ≠ []) (lt : K.lookup dA = some o) (ot : o.data = .seq its.toArray m) (rt : Vals dvs its) : FunD K x qual params body scope dvs [] f (PySem.W.fnOf x qual params body scope (.ref dA) kV doc pm an cdv ct) :=
  ⟨⟨oc, od, .ref dA, kV, doc, pm, an, cdv, ct, osl, rfl, l, c, .inr ⟨hd, dA, o, its, m, rfl, lt, ot, rt⟩, .inl rfl⟩, k⟩
theorem kit_obj {C : Addr} {b : String} {r : Bool} (h : PySem.W.subIn K (.ref C) (.type b) = some r) (m : PySem.W.kitMeta b = true) : PySem.W.kitOne K (.ref C) (.type b) = some r := by
  unfold PySem.W.kitOne PySem.W.kitCls
  rw [if_neg (by simp)]
  show (if PySem.W.kitMeta b = true then _ else _) = _
  rw [if_pos m]
  exact h
theorem kit_own {C : Addr} {a : String} {r : Bool} (hc : PySem.W.isClsIn K C = true) (ht : PySem.W.typeIn K (.ref C) = some (.type "type")) (h : PySem.W.subIn K (.type a) (.ref C) = some r) : PySem.W.kitOne K (.type a) (.ref C) = some r := by
  unfold PySem.W.kitOne PySem.W.kitCls
  have e : (PySem.W.clsIn K C).isSome = true := hc
  rw [if_neg (by simp)]
  show (if ((PySem.W.clsIn K C).isSome && PySem.W.typeIn K (.ref C) == some (.type "type")) = true then _ else _) = _
  rw [if_pos (by rw [e, ht]; simp)]
  exact h
theorem kit_self {C : Addr} : PySem.W.kitOne K (.ref C) (.ref C) = some true := by
  unfold PySem.W.kitOne
  rw [if_pos (by simp)]
end
section
variable {X : Cx} {T : CT} {pos : Pos}
/-- three names, the third gets a new list of its own -/
def sPar3F (i j l : Nat) (fa fb : FE) (fc : FA) : FS := fun δ => (fa δ).bind fun (x, δ1) => (fb δ1).bind fun (y, δ2) => (fc δ2).bind fun (zs, δ3) => some (.nx (((δ3.set i (.val x)).set j (.val y)).set l (.own .mine zs)))
theorem st_par3F (i j l : Nat) {x y z : Str} {a b c : Expr} {fa fb : FE} {fc : FA} {px py pz pt : Pos} {kt k2 pt2} (hc : X.calm = true) (hN : X.N.Nodup) (ha : PE X a (tD T fa)) (hb : PE X b (tD T fb)) (hf : PE X c (tF T fc)) (hij : i ≠ j := by decide) (hil : i ≠ l := by decide) (hjl : j ≠ l := by decide)
    (hi : X.N[i]? = some x := by rfl) (hj : X.N[j]? = some y := by rfl) (hl : X.N[l]? = some z := by rfl) (hx : X.env.scope.names.lookup x = some .local := by rfl) (hy : X.env.scope.names.lookup y = some .local := by rfl) (hz : X.env.scope.names.lookup z = some .local := by rfl)
    (h1 : starEach [a, b, c] X.env = (false, eval a X.env) :: starEach [b, c] X.env := by rfl) (h2 : starEach [b, c] X.env = (false, eval b X.env) :: starEach [c] X.env := by rfl) (h3 : starEach [c] X.env = (false, eval c X.env) :: starEach [] X.env := by rfl)
    (hw : swappedStores [.Tuple [.Name x px, .Name y py, .Name z pz] kt pt] (.Tuple [a, b, c] k2 pt2) X.env = pure (some [x, y, z]) := by rfl) (hs : swapsWithSole [.Tuple [.Name x px, .Name y py, .Name z pz] kt pt] (.Tuple [a, b, c] k2 pt2) pos.line X.env = pure false := by rfl) :
    PS X (.Assign [.Tuple [.Name x px, .Name y py, .Name z pz] kt pt] (.Tuple [a, b, c] k2 pt2) pos) (tSt T (sPar3F i j l fa fb fc)) := PS.imp (ps_par3 hc hN hi hj hl hij hil hjl hx hy hz (pa_cons ha (pa_cons hb (pa_cons hf pa_nil h3) h2) h1) hw hs) fun E σ H ⟨S0, δ, r, ok, e, q⟩ => by
  obtain ⟨dx, δ1, e1, e2⟩ := bind_some2 e
  obtain ⟨dy, δ2, e3, e4⟩ := bind_some2 e2
  obtain ⟨zs, δ3, e5, e6⟩ := bind_some2 e4
  cases e6
  refine ⟨S0, δ, dx, δ1, ok, e1, fun u H1 ok1 s1 r1 => ⟨S0, δ1, dy, δ2, ok1, e3, fun v H2 ok2 s2 r2 => ⟨S0, δ2, zs, δ3, ok2, e5, fun p vs H3 ok3 s3 hp r3 => ?_⟩⟩⟩
  have r1' := (s2.trans s3).rep r1
  have r2' := s3.rep r2
  obtain ⟨ok4, s4⟩ := ok3.store (i := i) r1'
  obtain ⟨ok5, s5⟩ := ok4.store (i := j) (s4.rep r2')
  obtain ⟨ok6, s6⟩ := ok5.storeOwn (i := l) hp ((s4.trans s5).reps r3)
  exact ⟨u, v, .ref p, rfl, q _ _ ok6 ((((s1.trans s2).trans s3).trans (s4.trans s5)).trans s6)⟩
end
end Dl
/-! == and != over nested data whose leaves have an own __eq__, with either answer: the machine's part. -/
namespace EqB
open PySem PySem.SeqAt
open AutoSeq1 (wpAny_loadPart')
open MeetsSeq MeetsSeq2 MeetsSeq3 SeqRoads2
/-- whether all of k from i on are equal -/
def aF (e : Nat → Bool) : Nat → Nat → Bool
  | _, 0 => true
  | i, k + 1 => e i && aF e (i + 1) k
section
variable {prog : Program} {w : World} {A : Around} {R : Result → Shared → Prop}
/-- two lists of N items that stay so while I holds; their items compare as e says, and I is kept -/
def Pair (prog : Program) (w : World) (A : Around) (E : Value → Shared → Prop) (l b : Addr) (N : Nat) (e : Nat → Bool) (I : Shared → Prop) : Prop :=
  ∀ s, I s → ∃ (xs ys : Array Value) (n m : Nat), s.heap.get? l = some { cls := .type "list", data := .seq xs n } ∧ s.heap.get? b = some { cls := .type "list", data := .seq ys m } ∧ xs.size = N ∧ ys.size = N ∧
    ∀ i (p : i < xs.size) (q : i < ys.size), wpAny (model prog w) A.in1 (eqBool xs[i] ys[i]) (fun r s' => r = e i ∧ I s') E s
abbrev EndsAs (prog : Program) (w : World) (A : Around) (R : Result → Shared → Prop) : Fin → Shared → Prop := fun z s' => match z with
  | .done f => R (.ok f) s'
  | .again c' => c'.quiet = true ∧ codeAny (model prog w) A c' R s'
theorem loopB (l b : Addr) (N : Nat) (e : Nat → Bool) (I : Shared → Prop) (ng : Bool) (hl : Pair prog w A (fun e s' => R (.error e) s') l b N e I) (k : Nat) :
    ∀ i : Nat, N - i = k → i ≤ N → ∀ s, I s → (∀ s', I s' → R (.ok (.ret (.bool (xor ng (aF e i k))))) s') →
      wpAny (model prog w) A.in1 (Builtin.«list.__eq__.loop» ⟨[.ref l, .ref b, rawInt i, rawInt (if ng then 3 else 2)], []⟩) (EndsAs prog w A R) (fun e s' => R (.error e) s') s := by
  induction k with
  | zero =>
    intro i hk hi s h fin
    have hR := fin s h
    obtain ⟨xs, ys, n, m, gx, gy, sx, sy, _⟩ := hl _ h
    have hi' : i = N := by omega
    obtain ⟨hp, g, d, tk, os⟩ := s
    have o1 : xs[((i : Nat) : Int).toNat]? = none := by simp; omega
    have o2 : ys[((i : Nat) : Int).toNat]? = none := by simp; omega
    cases ng
    · wp_walk using (wpAny_loadPart' gx), (wpAny_loadPart' gy)
      rw [o1, o2]
      wp_walk using (wpAny_loadPart' gx), (wpAny_loadPart' gy)
      show R (.ok (.ret (.bool (xs.size == ys.size)))) _
      rw [sx, sy]
      simpa [aF] using hR
    · wp_walk using (wpAny_loadPart' gx), (wpAny_loadPart' gy)
      rw [o1, o2]
      wp_walk using (wpAny_loadPart' gx), (wpAny_loadPart' gy)
      show R (.ok (.ret (.bool (xs.size != ys.size)))) _
      rw [sx, sy]
      simpa [aF] using hR
  | succ k ih =>
    intro i hk hi s h fin
    obtain ⟨xs, ys, n, m, gx, gy, sx, sy, turn⟩ := hl _ h
    have lx : i < xs.size := by omega
    have ly : i < ys.size := by omega
    have ht := turn i lx ly
    obtain ⟨hp, g, d, tk, os⟩ := s
    have o1 : xs[((i : Nat) : Int).toNat]? = some xs[i] := by simp [lx]
    have o2 : ys[((i : Nat) : Int).toNat]? = some ys[i] := by simp [ly]
    have ci : ((i : Int) + 1) = ((i + 1 : Nat) : Int) := by omega
    cases ng
    · wp_walk using (wpAny_loadPart' gx), (wpAny_loadPart' gy)
      rw [o1, o2]
      refine wpAny_bind (wpAny_mono ht (fun r s2 z => ?_) fun _ _ x => x)
      obtain ⟨er, I2⟩ := z
      subst er
      cases he : e i with
      | true =>
        have hrec := ih (i + 1) (by omega) (by omega) s2 I2 (fun s' z => by simpa [aF, he] using fin s' z)
        obtain ⟨hp2, g2, d2, tk2, os2⟩ := s2
        wp_walk
        rw [ci]
        exact ⟨plainId_quiet plain_eq_loop _, codeAny_builtin entry_eq_loop (by
          rw [Around.under_plainId plain_eq_loop _]
          exact hrec)⟩
      | false =>
        have hR := fin s2 I2
        obtain ⟨xs2, ys2, n2, m2, gx2, gy2, sx2, sy2, _⟩ := hl _ I2
        obtain ⟨hp2, g2, d2, tk2, os2⟩ := s2
        have p1 : xs2[((i : Nat) : Int).toNat]? = some (xs2[i]'(by omega)) := by simp [sx2]
        have p2 : ys2[((i : Nat) : Int).toNat]? = some (ys2[i]'(by omega)) := by simp [sy2]
        wp_walk using (wpAny_loadPart' gx2), (wpAny_loadPart' gy2)
        rw [p1, p2]
        wp_walk
        simpa [aF, he] using hR
    · wp_walk using (wpAny_loadPart' gx), (wpAny_loadPart' gy)
      rw [o1, o2]
      refine wpAny_bind (wpAny_mono ht (fun r s2 z => ?_) fun _ _ x => x)
      obtain ⟨er, I2⟩ := z
      subst er
      cases he : e i with
      | true =>
        have hrec := ih (i + 1) (by omega) (by omega) s2 I2 (fun s' z => by simpa [aF, he] using fin s' z)
        obtain ⟨hp2, g2, d2, tk2, os2⟩ := s2
        wp_walk
        rw [ci]
        exact ⟨plainId_quiet plain_eq_loop _, codeAny_builtin entry_eq_loop (by
          rw [Around.under_plainId plain_eq_loop _]
          exact hrec)⟩
      | false =>
        have hR := fin s2 I2
        obtain ⟨xs2, ys2, n2, m2, gx2, gy2, sx2, sy2, _⟩ := hl _ I2
        obtain ⟨hp2, g2, d2, tk2, os2⟩ := s2
        have p1 : xs2[((i : Nat) : Int).toNat]? = some (xs2[i]'(by omega)) := by simp [sx2]
        have p2 : ys2[((i : Nat) : Int).toNat]? = some (ys2[i]'(by omega)) := by simp [sy2]
        wp_walk using (wpAny_loadPart' gx2), (wpAny_loadPart' gy2)
        rw [p1, p2]
        wp_walk
        simpa [aF, he] using hR
theorem listB_eq (l b : Addr) (N : Nat) (e : Nat → Bool) (I : Shared → Prop) (hl : Pair prog w A (fun e s' => R (.error e) s') l b N e I) {s : Shared} (h : I s) (fin : ∀ s', I s' → R (.ok (.ret (.bool (aF e 0 N)))) s') :
    wpAny (model prog w) A.in1 (Builtin.«list.__eq__» ⟨[.ref l, .ref b], []⟩) (EndsAs prog w A R) (fun e s' => R (.error e) s') s := by
  obtain ⟨xs, ys, n, m, gx, gy, sx, sy, _⟩ := hl _ h
  have hrec := loopB (A := A) (R := R) l b N e I false hl N 0 rfl (Nat.zero_le _) s h (fun s' z => by simpa using fin s' z)
  obtain ⟨hp, g, d, tk, os⟩ := s
  have f3 := AutoSeq1.sub_list_list
  have same : ¬ (xs.size != ys.size) = true := by simp [sx, sy]
  wp_walk using (wpAny_loadPart' gx), (wpAny_loadPart' gy)
  exact ⟨plainId_quiet plain_eq_loop _, codeAny_builtin entry_eq_loop (by
    rw [Around.under_plainId plain_eq_loop _]
    exact hrec)⟩
theorem listB_ne (l b : Addr) (N : Nat) (e : Nat → Bool) (I : Shared → Prop) (hl : Pair prog w A (fun e s' => R (.error e) s') l b N e I) {s : Shared} (h : I s) (fin : ∀ s', I s' → R (.ok (.ret (.bool (!aF e 0 N)))) s') :
    wpAny (model prog w) A.in1 (Builtin.«list.__ne__» ⟨[.ref l, .ref b], []⟩) (EndsAs prog w A R) (fun e s' => R (.error e) s') s := by
  obtain ⟨xs, ys, n, m, gx, gy, sx, sy, _⟩ := hl _ h
  have hrec := loopB (A := A) (R := R) l b N e I true hl N 0 rfl (Nat.zero_le _) s h (fun s' z => by simpa using fin s' z)
  obtain ⟨hp, g, d, tk, os⟩ := s
  have f3 := AutoSeq1.sub_list_list
  have same : ¬ (xs.size != ys.size) = true := by simp [sx, sy]
  wp_walk using (wpAny_loadPart' gx), (wpAny_loadPart' gy)
  exact ⟨plainId_quiet plain_eq_loop _, codeAny_builtin entry_eq_loop (by
    rw [Around.under_plainId plain_eq_loop _]
    exact hrec)⟩
theorem listB_eq0 {l b : Addr} {s : Shared} {xs ys : Array Value} {n m : Nat} (gx : s.heap.get? l = some { cls := .type "list", data := .seq xs n }) (gy : s.heap.get? b = some { cls := .type "list", data := .seq ys m }) (hd : xs.size ≠ ys.size)
    (fin : ∀ t, R (.ok (.ret (.bool false))) { s with toks := t }) : wpAny (model prog w) A.in1 (Builtin.«list.__eq__» ⟨[.ref l, .ref b], []⟩) (EndsAs prog w A R) (fun e s' => R (.error e) s') s := by
  obtain ⟨hp, g, d, tk, os⟩ := s
  have f3 := AutoSeq1.sub_list_list
  have same : (xs.size != ys.size) = true := by simpa using hd
  wp_walk using (wpAny_loadPart' gx), (wpAny_loadPart' gy)
  exact fin _
theorem listB_ne0 {l b : Addr} {s : Shared} {xs ys : Array Value} {n m : Nat} (gx : s.heap.get? l = some { cls := .type "list", data := .seq xs n }) (gy : s.heap.get? b = some { cls := .type "list", data := .seq ys m }) (hd : xs.size ≠ ys.size)
    (fin : ∀ t, R (.ok (.ret (.bool true))) { s with toks := t }) : wpAny (model prog w) A.in1 (Builtin.«list.__ne__» ⟨[.ref l, .ref b], []⟩) (EndsAs prog w A R) (fun e s' => R (.error e) s') s := by
  obtain ⟨hp, g, d, tk, os⟩ := s
  have f3 := AutoSeq1.sub_list_list
  have same : (xs.size != ys.size) = true := by simpa using hd
  wp_walk using (wpAny_loadPart' gx), (wpAny_loadPart' gy)
  exact fin _
end
end EqB
namespace EqB
open PySem PySem.SeqAt
open AutoSeq1 (wpAny_loadPart')
open MeetsSeq MeetsSeq2 MeetsSeq3 SeqRoads2
section
variable {prog : Program} {w : World} {A : Around} {R : Result → Shared → Prop}
theorem tupB (ng : Bool) (l b : Addr) (xs ys : Array Value) (n m : Nat) (dx dy : Option Addr) (sl sl2 : Array (Option Value)) (e : Nat → Bool) (I : Shared → Prop)
    (turn : ∀ i (p : i < xs.size) (q : i < ys.size) s, I s → wpAny (model prog w) A.in1 (eqBool xs[i] ys[i]) (fun r s' => r = e i ∧ I s') (fun e s' => R (.error e) s') s)
    {s : Shared} (gx : s.heap.get? l = some { cls := .type "tuple", dict := dx, data := .seq xs n, slots := sl }) (gy : s.heap.get? b = some { cls := .type "tuple", dict := dy, data := .seq ys m, slots := sl2 }) (h : I s)
    (fin : ∀ s', I s' → R (.ok (.ret (.bool (xor ng (aF e 0 (min xs.size ys.size) && xs.size == ys.size))))) s') :
    wpAny (model prog w) A.in1 ((if ng then Builtin.«tuple.__ne__» else Builtin.«tuple.__eq__») ⟨[.ref l, .ref b], []⟩) (EndsAs prog w A R) (fun e s' => R (.error e) s') s := by
  have f2 := AutoSeq1.sub_tuple_tuple
  have hZ : (xs.toList.zip ys.toList).length = min xs.size ys.size := by simp
  have h0 := h
  obtain ⟨hp, g, d, tk, os⟩ := s
  have step : ∀ (y x : Value) (rest : List (Value × Value)) (i : Nat), (y, x) :: rest = (xs.toList.zip ys.toList).drop i → ∃ (p : i < xs.size) (q : i < ys.size), y = xs[i] ∧ x = ys[i] ∧ rest = (xs.toList.zip ys.toList).drop (i + 1) ∧ i < min xs.size ys.size := by
    intro y x rest i hz
    have lt : i < (xs.toList.zip ys.toList).length := by
      apply Nat.lt_of_not_le
      intro hge
      rw [List.drop_of_length_le hge] at hz
      cases hz
    have p : i < xs.size := by omega
    have q : i < ys.size := by omega
    rw [List.drop_eq_getElem_cons lt] at hz
    injection hz with h1 h2
    refine ⟨p, q, ?_, ?_, h2, by omega⟩
    · simpa using congrArg Prod.fst h1
    · simpa using congrArg Prod.snd h1
  have last : ∀ i, [] = (xs.toList.zip ys.toList).drop i → min xs.size ys.size ≤ i := by
    intro i hz
    apply Nat.le_of_not_lt
    intro hlt
    rw [List.drop_eq_getElem_cons (by omega)] at hz
    cases hz
  cases ng
  · show wpAny (model prog w) A.in1 (Builtin.«tuple.__eq__» ⟨[.ref l, .ref b], []⟩) (EndsAs prog w A R) _ _
    wp_walk using (wpAny_loadPart' gx), (wpAny_loadPart' gy), wpAny_forIn_list _ (fun rest b s' => b.1 = none ∧ I s' ∧ ∃ i, rest = (xs.toList.zip ys.toList).drop i ∧ ∀ s2, I s2 → R (.ok (.ret (.bool (aF e i (min xs.size ys.size - i) && xs.size == ys.size)))) s2) _
    case turn =>
      rintro ⟨y, x⟩ rest b s' ⟨hb', I1, i, hz, hR⟩
      obtain ⟨p, q, ey, ex, hrest, lt⟩ := step y x rest i hz
      subst ey ex
      have ek : min xs.size ys.size - i = (min xs.size ys.size - (i + 1)) + 1 := by omega
      rw [ek] at hR
      refine wpAny_bind (wpAny_mono (turn i p q s' I1) (fun r s2 z => ?_) fun _ _ x => x)
      obtain ⟨er, I2⟩ := z
      subst er
      cases he : e i with
      | true =>
        wp_walk
        exact ⟨rfl, I2, i + 1, hrest, fun s3 I3 => by simpa [aF, he] using hR s3 I3⟩
      | false =>
        wp_walk
        have := hR _ I2
        simp [aF, he] at this
        exact this
    case fin =>
      rintro ⟨b1, b2⟩ s' ⟨hb', I1, i, hz, hR⟩
      simp only at hb'
      subst hb'
      have ge := last i hz
      have e0 : min xs.size ys.size - i = 0 := by omega
      rw [e0] at hR
      have := hR _ I1
      wp_walk
      simpa [aF, Builtin.Tuple.tupleCompareSizes] using this
    case h =>
      exact ⟨rfl, h0, 0, rfl, fun s2 I2 => by simpa using fin s2 I2⟩
  · show wpAny (model prog w) A.in1 (Builtin.«tuple.__ne__» ⟨[.ref l, .ref b], []⟩) (EndsAs prog w A R) _ _
    wp_walk using (wpAny_loadPart' gx), (wpAny_loadPart' gy), wpAny_forIn_list _ (fun rest b s' => b.1 = none ∧ I s' ∧ ∃ i, rest = (xs.toList.zip ys.toList).drop i ∧ ∀ s2, I s2 → R (.ok (.ret (.bool (!(aF e i (min xs.size ys.size - i) && xs.size == ys.size))))) s2) _
    case turn =>
      rintro ⟨y, x⟩ rest b s' ⟨hb', I1, i, hz, hR⟩
      obtain ⟨p, q, ey, ex, hrest, lt⟩ := step y x rest i hz
      subst ey ex
      have ek : min xs.size ys.size - i = (min xs.size ys.size - (i + 1)) + 1 := by omega
      rw [ek] at hR
      refine wpAny_bind (wpAny_mono (turn i p q s' I1) (fun r s2 z => ?_) fun _ _ x => x)
      obtain ⟨er, I2⟩ := z
      subst er
      cases he : e i with
      | true =>
        wp_walk
        exact ⟨rfl, I2, i + 1, hrest, fun s3 I3 => by simpa [aF, he] using hR s3 I3⟩
      | false =>
        wp_walk
        have := hR _ I2
        simp [aF, he] at this
        exact this
    case fin =>
      rintro ⟨b1, b2⟩ s' ⟨hb', I1, i, hz, hR⟩
      simp only at hb'
      subst hb'
      have ge := last i hz
      have e0 : min xs.size ys.size - i = 0 := by omega
      rw [e0] at hR
      have := hR _ I1
      wp_walk
      simpa [aF, Builtin.Tuple.tupleCompareSizes, bne] using this
    case h =>
      exact ⟨rfl, h0, 0, rfl, fun s2 I2 => by simpa using fin s2 I2⟩
end
end EqB
/-! == and != by data: nested lists and tuples, leaves with an own __eq__, either answer. -/
namespace Dl
open PySem PySem.Spec PyProof.Rows L2
section
variable {X : Cx} {T : CT} {n m k c : Nat} {g g' : D → D → Option Bool}
/-- inside a builtin: == of two values answers what g tells of their data -/
def EqB (X : Cx) (T : CT) (n : Nat) (g : D → D → Option Bool) : Prop :=
  ∀ (A : Around) (pins : List (Addr × Obj)) (s : Shared) (σ : L2.St) (H : Hp) (S : Addr → Prop) (x y : D) (vx vy : V) (u v : Value) (b : Bool), Sub X n A → Quiet A → Inv X pins σ H s → RelV vx u → RelV vy v →
    (∀ a, S a → ∃ o, H a = some o) → Rep T H S x vx → Rep T H S y vy → g x y = some b →
    wpAny (model X.prog X.w) A (eqBool u v) (fun r s' => r = b ∧ ∃ H', Inv X pins σ H' s' ∧ Same H H') X.xe s
/-- the operator itself: == (ng false), != (ng true) -/
def RcB (X : Cx) (T : CT) (n : Nat) (ng : Bool) (g : D → D → Option Bool) : Prop :=
  ∀ (A : Around) (pins : List (Addr × Obj)) (s : Shared) (σ : L2.St) (H : Hp) (S : Addr → Prop) (x y : D) (vx vy : V) (u v : Value) (b : Bool), Sub X n A → Quiet A → Inv X pins σ H s → RelV vx u → RelV vy v →
    (∀ a, S a → ∃ o, H a = some o) → Rep T H S x vx → Rep T H S y vy → g x y = some b →
    wpAny (model X.prog X.w) A (richCompare (if ng then .NotEq else .Eq) u v) (fun r s' => r = .bool (xor ng b) ∧ ∃ H', Inv X pins σ H' s' ∧ Same H H') X.xe s
/-- one object is equal to itself -/
def Rf (T : CT) (g : D → D → Option Bool) : Prop := ∀ (H : Hp) (S : Addr → Prop) (x y : D) (v : V) (b : Bool), Rep T H S x v → Rep T H S y v → g x y = some b → b = true
def bOr (g g' : D → D → Option Bool) : D → D → Option Bool := fun x y => match g x y with
  | some b => some b
  | none => g' x y
theorem EqB.mono (h : EqB X T n g) (hn : n ≤ m) : EqB X T m g := fun A pins s σ H S x y vx vy u v b sb => h A pins s σ H S x y vx vy u v b (sb.mono hn)
theorem EqB.or (h : EqB X T n g) (h' : EqB X T n g') : EqB X T n (bOr g g') := fun A pins s σ H S x y vx vy u v b sb hq I rx ry tr dx dy e => by
  unfold bOr at e
  split at e
  · rename_i b' hb
    cases e
    exact h A pins s σ H S x y vx vy u v _ sb hq I rx ry tr dx dy hb
  · exact h' A pins s σ H S x y vx vy u v _ sb hq I rx ry tr dx dy e
theorem Rf.or (h : Rf T g) (h' : Rf T g') : Rf T (bOr g g') := fun H S x y v b dx dy e => by
  unfold bOr at e
  split at e
  · rename_i b' hb
    cases e
    exact h H S x y v _ dx dy hb
  · exact h' H S x y v _ dx dy e
/-- flat values -/
def eqFl : D → D → Option Bool := fun x y => match litV x, litV y with
  | some a, some b => some (eqV a b)
  | _, _ => none
theorem flat_lit {d : D} {v : V} (h : litV d = some v) : flatV v = true := by cases d <;> simp [litV] at h <;> subst h <;> rfl
theorem eqB_flat : EqB X T 0 eqFl := fun A pins s σ H S x y vx vy u v b sb hq I rx ry tr dx dy e => by
  unfold eqFl at e
  split at e
  · rename_i a c ha hc
    cases e
    have e1 := lit_rep dx ha
    have e2 := lit_rep dy hc
    subst e1 e2
    exact eqAt_V (A := A) (s := s) rx ry (flat_lit ha) (flat_lit hc) X.prog X.w X.xe _ ⟨rfl, H, I, Same.refl _⟩
  · cases e
theorem eqV_refl : ∀ {v : V}, flatV v = true → eqV v v = true := by
  intro v h
  cases v <;> simp_all [eqV, flatV]
theorem rf_flat : Rf T eqFl := fun H S x y v b dx dy e => by
  unfold eqFl at e
  split at e
  · rename_i a c ha hc
    cases e
    have e1 := lit_rep dx ha
    have e2 := lit_rep dy hc
    subst e1 e2
    exact eqV_refl (flat_lit ha)
  · cases e
/-- item by item, as far as both go -/
def eqZ (g : D → D → Option Bool) : List D → List D → Option Bool
  | x :: xs, y :: ys => (g x y).bind fun b => (eqZ g xs ys).map fun c => b && c
  | _, _ => some true
def eqLs (g : D → D → Option Bool) : D → D → Option Bool
  | .lst xs, .lst ys => if xs.length = ys.length then eqZ g xs ys else some false
  | .tup xs, .tup ys => (eqZ g xs ys).map fun b => b && xs.length == ys.length
  | _, _ => none
/-- what the i-th items say -/
def atB (g : D → D → Option Bool) (xs ys : List D) (i : Nat) : Bool := match xs[i]?, ys[i]? with
  | some x, some y => (g x y).getD false
  | _, _ => false
theorem aF_atB : ∀ (xs ys : List D) (b : Bool), eqZ g xs ys = some b → EqB.aF (atB g xs ys) 0 (min xs.length ys.length) = b ∧ ∀ (i : Nat) x y, xs[i]? = some x → ys[i]? = some y → g x y = some (atB g xs ys i)
  | [], ys, b, h => by cases ys <;> (simp [eqZ] at h; subst h; exact ⟨by simp [EqB.aF], fun i x y e => by simp at e⟩)
  | x :: xs, [], b, h => by simp [eqZ] at h; subst h; exact ⟨by simp [EqB.aF], fun i x y _ e => by simp at e⟩
  | x :: xs, y :: ys, b, h => by
    obtain ⟨b1, h1, h2⟩ := bind_some1 h
    obtain ⟨b2, h3, h4⟩ := map_some1 h2
    obtain ⟨q1, q2⟩ := aF_atB xs ys b2 h3
    have sh : ∀ (k i : Nat), EqB.aF (atB g (x :: xs) (y :: ys)) (i + 1) k = EqB.aF (atB g xs ys) i k := by
      intro k
      induction k with
      | zero => intro i; rfl
      | succ k ih => intro i; simp only [EqB.aF]; rw [ih]; simp [atB]
    refine ⟨?_, fun i a c ea ec => ?_⟩
    · rw [List.length_cons, List.length_cons, Nat.add_min_add_right]
      simp only [EqB.aF]
      rw [sh, q1]
      have : atB g (x :: xs) (y :: ys) 0 = b1 := by simp [atB, h1]
      rw [this]; exact h4
    · cases i with
      | zero => simp at ea ec; subst ea ec; simp [atB, h1]
      | succ i => simp at ea ec; simpa [atB] using q2 i a c ea ec
theorem vals_at {vs : List V} {us : List Value} (r : Vals vs us) {i : Nat} (h : i < us.toArray.size) : ∃ v, vs[i]? = some v ∧ RelV v us.toArray[i] := by
  have hl : i < us.length := by simpa using h
  have hv : i < vs.length := by rw [r.length]; exact hl
  obtain ⟨u, hu, ru⟩ := r.get (List.getElem?_eq_getElem hv)
  refine ⟨_, List.getElem?_eq_getElem hv, ?_⟩
  have : us[i]? = some us.toArray[i] := by rw [List.getElem?_eq_getElem hl]; simp
  rw [this] at hu
  rw [Option.some.inj hu]; exact ru
/-- one turn -/
theorem turnB (h : EqB X T n g) {A : Around} (sb : Sub X (n + 1) A) (hq : Quiet A) {pins : List (Addr × Obj)} {σ : L2.St} {H H1 : Hp} {S : Addr → Prop} {xs ys : List D} {vs ws : List V} {its its2 : List Value} {s1 : Shared} {e : Nat → Bool}
    (tr : ∀ a, S a → ∃ o, H a = some o) (rx : Reps T H S xs vs) (ry : Reps T H S ys ws) (he : ∀ (i : Nat) x y, xs[i]? = some x → ys[i]? = some y → g x y = some (e i)) (r : Vals vs its) (r2 : Vals ws its2)
    (I1 : Inv X pins σ H1 s1) (sm : Same H H1) (i : Nat) (p : i < its.toArray.size) (q : i < its2.toArray.size) :
    wpAny (model X.prog X.w) A.in1 (eqBool its.toArray[i] its2.toArray[i]) (fun b s2 => b = e i ∧ ∃ H2, Inv X pins σ H2 s2 ∧ Same H H2) X.xe s1 := by
  obtain ⟨v, ev, rv⟩ := vals_at r p
  obtain ⟨w, ew, rw'⟩ := vals_at r2 q
  obtain ⟨x, ex, dx⟩ := rx.getV ev
  obtain ⟨y, ey, dy⟩ := ry.getV ew
  refine wpAny_mono (h A.in1 pins s1 σ H1 S x y v w _ _ (e i) sb.in1 hq I1 rv rw' (fun a z => let ⟨o, k⟩ := tr a z; ⟨o, sm a o k⟩) (dx.same sm) (dy.same sm) (he i x y ex ey)) (fun b s2 z => ?_) fun _ _ x => x
  obtain ⟨eb, H2, I2, sm2⟩ := z
  exact ⟨eb, H2, I2, sm.trans sm2⟩
theorem rcB_ls (ng : Bool) (h : EqB X T n g) : RcB X T (n + 1) ng (eqLs g) := by
  intro A pins s σ H S x y vx vy u v b sb hq I rx ry tr dx dy e
  unfold eqLs at e
  split at e
  · rename_i xs ys
    rw [Rep] at dx dy
    obtain ⟨a, vs, rfl, ha, _, px⟩ := dx
    obtain ⟨a2, ws, rfl, hb, _, py⟩ := dy
    cases rx
    cases ry
    have lx := px.length
    have ly := py.length
    by_cases hl : xs.length = ys.length
    · rw [if_pos hl] at e
      obtain ⟨q1, q2⟩ := aF_atB xs ys b e
      have hN : min xs.length ys.length = xs.length := by omega
      rw [hN] at q1
      have hP : EqB.Pair X.prog X.w A X.xe a a2 xs.length (atB g xs ys) (fun s' => ∃ H', Inv X pins σ H' s' ∧ Same H H') := fun s1 ⟨H1, I1, sm⟩ => by
        obtain ⟨z, its, k, r, e1⟩ := I1.hok a _ (sm _ _ ha)
        obtain ⟨z2, its2, k2, r2, e2⟩ := I1.hok a2 _ (sm _ _ hb)
        exact ⟨its.toArray, its2.toArray, k, k2, e1, e2, by rw [List.size_toArray, ← r.length, lx], by rw [List.size_toArray, ← r2.length, ly, hl], fun i p q => turnB h sb hq tr px py q2 r r2 I1 sm i p q⟩
      obtain ⟨z, its, k, r, e1⟩ := I.hok a _ ha
      obtain ⟨z2, its2, k2, r2, e2⟩ := I.hok a2 _ hb
      cases ng
      · refine wpAny_richCompare_same_room (op := .Eq) ⟨_, e1, rfl⟩ ⟨_, e2, rfl⟩ F.slot_list_eq (GQ.call_here F.slot_list_eq ⟨_, e1, rfl⟩ F.entry_list_eq (F.args_list_eq_2 _ _) ?_) sb.room.units0
        exact EqB.listB_eq (R := wants (fun v s' => v ≠ .notImplemented ∧ (v = .bool (xor false b) ∧ ∃ H', Inv X pins σ H' s' ∧ Same H H')) X.xe) a a2 xs.length _ _ hP ⟨H, I, Same.refl _⟩ fun s' q => ⟨(fun x => nomatch x), by rw [q1]; simp, q⟩
      · refine wpAny_richCompare_same_room (op := .NotEq) ⟨_, e1, rfl⟩ ⟨_, e2, rfl⟩ F.slot_list_ne (GQ.call_here F.slot_list_ne ⟨_, e1, rfl⟩ F.entry_list_ne (F.args_list_ne_2 _ _) ?_) sb.room.units0
        exact EqB.listB_ne (R := wants (fun v s' => v ≠ .notImplemented ∧ (v = .bool (xor true b) ∧ ∃ H', Inv X pins σ H' s' ∧ Same H H')) X.xe) a a2 xs.length _ _ hP ⟨H, I, Same.refl _⟩ fun s' q => ⟨(fun x => nomatch x), by rw [q1]; simp, q⟩
    · rw [if_neg hl] at e
      cases e
      obtain ⟨z, its, k, r, e1⟩ := I.hok a _ ha
      obtain ⟨z2, its2, k2, r2, e2⟩ := I.hok a2 _ hb
      have hd : its.toArray.size ≠ its2.toArray.size := by rw [List.size_toArray, List.size_toArray, ← r.length, ← r2.length, lx, ly]; exact hl
      cases ng
      · refine wpAny_richCompare_same_room (op := .Eq) ⟨_, e1, rfl⟩ ⟨_, e2, rfl⟩ F.slot_list_eq (GQ.call_here F.slot_list_eq ⟨_, e1, rfl⟩ F.entry_list_eq (F.args_list_eq_2 _ _) ?_) sb.room.units0
        exact EqB.listB_eq0 (R := wants (fun v s' => v ≠ .notImplemented ∧ (v = .bool (xor false false) ∧ ∃ H', Inv X pins σ H' s' ∧ Same H H')) X.xe) e1 e2 hd fun t => ⟨(fun x => nomatch x), rfl, H, I.tok t, Same.refl _⟩
      · refine wpAny_richCompare_same_room (op := .NotEq) ⟨_, e1, rfl⟩ ⟨_, e2, rfl⟩ F.slot_list_ne (GQ.call_here F.slot_list_ne ⟨_, e1, rfl⟩ F.entry_list_ne (F.args_list_ne_2 _ _) ?_) sb.room.units0
        exact EqB.listB_ne0 (R := wants (fun v s' => v ≠ .notImplemented ∧ (v = .bool (xor true false) ∧ ∃ H', Inv X pins σ H' s' ∧ Same H H')) X.xe) e1 e2 hd fun t => ⟨(fun x => nomatch x), rfl, H, I.tok t, Same.refl _⟩
  · rename_i xs ys
    rw [Rep] at dx dy
    obtain ⟨a, vs, rfl, ha, _, px⟩ := dx
    obtain ⟨a2, ws, rfl, hb, _, py⟩ := dy
    cases rx
    cases ry
    have lx := px.length
    have ly := py.length
    obtain ⟨b1, h3, h4⟩ := map_some1 e
    obtain ⟨q1, q2⟩ := aF_atB xs ys b1 h3
    obtain ⟨its, r, e1, z⟩ := I.tuple (show SqT X.K H a vs from .inl (.inl ha))
    obtain ⟨its2, r2, e2, z2⟩ := I.tuple (show SqT X.K H a2 ws from .inl (.inl hb))
    obtain ⟨⟨cl, dd, dt, sl⟩, ho, hc, nn, hd⟩ := id e1
    obtain ⟨⟨cl2, dd2, dt2, sl2⟩, ho2, hc2, nn2, hd2⟩ := id e2
    simp only at hc hd hc2 hd2
    subst hc hd hc2 hd2
    have s1 : its.toArray.size = xs.length := by rw [List.size_toArray, ← r.length, lx]
    have s2 : its2.toArray.size = ys.length := by rw [List.size_toArray, ← r2.length, ly]
    have fin : (EqB.aF (atB g xs ys) 0 (min its.toArray.size its2.toArray.size) && its.toArray.size == its2.toArray.size) = b := by rw [s1, s2, q1]; exact h4
    cases ng
    · refine wpAny_richCompare_same_room (op := .Eq) ⟨_, ho, rfl⟩ ⟨_, ho2, rfl⟩ F.slot_tuple_eq (GQ.call_here F.slot_tuple_eq ⟨_, ho, rfl⟩ F.entry_tuple_eq (F.args_tuple_eq_2 _ _) ?_) sb.room.units0
      exact EqB.tupB (R := wants (fun v s' => v ≠ .notImplemented ∧ (v = .bool (xor false b) ∧ ∃ H', Inv X pins σ H' s' ∧ Same H H')) X.xe) false a a2 its.toArray its2.toArray _ _ _ _ _ _ (atB g xs ys) (fun s' => ∃ H', Inv X pins σ H' s' ∧ Same H H')
        (fun i p q s' ⟨H1, I1, sm⟩ => turnB h sb hq tr px py q2 r r2 I1 sm i p q) ho ho2 ⟨H, I, Same.refl _⟩ fun s' q => ⟨(fun x => nomatch x), by rw [fin], q⟩
    · refine wpAny_richCompare_same_room (op := .NotEq) ⟨_, ho, rfl⟩ ⟨_, ho2, rfl⟩ F.slot_tuple_ne (GQ.call_here F.slot_tuple_ne ⟨_, ho, rfl⟩ F.entry_tuple_ne (F.args_tuple_ne_2 _ _) ?_) sb.room.units0
      exact EqB.tupB (R := wants (fun v s' => v ≠ .notImplemented ∧ (v = .bool (xor true b) ∧ ∃ H', Inv X pins σ H' s' ∧ Same H H')) X.xe) true a a2 its.toArray its2.toArray _ _ _ _ _ _ (atB g xs ys) (fun s' => ∃ H', Inv X pins σ H' s' ∧ Same H H')
        (fun i p q s' ⟨H1, I1, sm⟩ => turnB h sb hq tr px py q2 r r2 I1 sm i p q) ho ho2 ⟨H, I, Same.refl _⟩ fun s' q => ⟨(fun x => nomatch x), by rw [fin], q⟩
  · cases e
end
end Dl
namespace Dl
open PySem PySem.Spec PyProof.Rows L2
section
variable {X : Cx} {T : CT} {n m k c : Nat} {g g' : D → D → Option Bool} {f C : Addr} {fd : FuncData} {ps : List Str} {E : XK}
theorem rf_eqZ (h : Rf T g) {H : Hp} {S : Addr → Prop} : ∀ {xs ys : List D} {vs : List V} {b : Bool}, Reps T H S xs vs → Reps T H S ys vs → eqZ g xs ys = some b → b = true
  | [], ys, _, b, _, _, e => by cases ys <;> (simp [eqZ] at e; exact e)
  | x :: xs, [], _, b, _, _, e => by simp [eqZ] at e; exact e
  | x :: xs, y :: ys, vs, b, r1, r2, e => by
    rw [Reps] at r1 r2
    obtain ⟨v, vr, rfl, a1, a2⟩ := r1
    obtain ⟨v', vr', e', c1, c2⟩ := r2
    cases e'
    obtain ⟨b1, h1, h2⟩ := bind_some1 e
    obtain ⟨b2, h3, h4⟩ := map_some1 h2
    rw [← h4, h H S x y v b1 a1 c1 h1, rf_eqZ h a2 c2 h3]
    rfl
theorem rf_ls (h : Rf T g) : Rf T (eqLs g) := fun H S x y v b dx dy e => by
  unfold eqLs at e
  split at e
  · rw [Rep] at dx dy
    obtain ⟨a, vs, rfl, ha, _, px⟩ := dx
    obtain ⟨a2, ws, e2, hb, _, py⟩ := dy
    cases e2
    rw [ha] at hb; cases hb
    have := px.length; have := py.length
    rw [if_pos (by omega)] at e
    exact rf_eqZ h px py e
  · rw [Rep] at dx dy
    obtain ⟨a, vs, rfl, ha, _, px⟩ := dx
    obtain ⟨a2, ws, e2, hb, _, py⟩ := dy
    cases e2
    rw [ha] at hb; cases hb
    have := px.length; have := py.length
    obtain ⟨b1, h3, h4⟩ := map_some1 e
    rw [← h4, rf_eqZ h px py h3]
    simp; omega
  · cases e
/-- from the operator to == inside a list: both are references, one object is equal to itself -/
theorem eqB_of (h : RcB X T n false g) (hf : Rf T g) (hr : ∀ x y b, g x y = some b → (∀ (H : Hp) S v, Rep T H S x v → ∃ a, v = .ref a)) (hr2 : ∀ x y b, g x y = some b → (∀ (H : Hp) S v, Rep T H S y v → ∃ a, v = .ref a)) : EqB X T n g :=
  fun A pins s σ H S x y vx vy u v b sb hq I rx ry tr dx dy e => by
  obtain ⟨a, rfl⟩ := hr x y b e H S vx dx
  obtain ⟨a2, rfl⟩ := hr2 x y b e H S vy dy
  cases rx
  cases ry
  by_cases hab : a = a2
  · subst hab
    have := hf H S x y _ b dx dy e
    exact SeqAt.EqAt.same (A := A) (s := s) (.ref a) X.prog X.w X.xe _ ⟨this.symm, H, I, Same.refl _⟩
  · refine GQ.eqBool_refG hab (wpAny_mono (h A pins s σ H S x y (.ref a) (.ref a2) _ _ b sb hq I rfl rfl tr dx dy e) (fun r s' q => ?_) fun _ _ x => x)
    obtain ⟨hr', q⟩ := q
    exact ⟨b, by simpa using hr', rfl, q⟩
theorem ls_ref {x y : D} {b : Bool} (e : eqLs g x y = some b) : (∀ (H : Hp) S v, Rep T H S x v → ∃ a, v = .ref a) ∧ (∀ (H : Hp) S v, Rep T H S y v → ∃ a, v = .ref a) := by
  unfold eqLs at e
  split at e
  · exact ⟨fun H S v r => by rw [Rep] at r; obtain ⟨a, vs, rfl, _⟩ := r; exact ⟨a, rfl⟩, fun H S v r => by rw [Rep] at r; obtain ⟨a, vs, rfl, _⟩ := r; exact ⟨a, rfl⟩⟩
  · exact ⟨fun H S v r => by rw [Rep] at r; obtain ⟨a, vs, rfl, _⟩ := r; exact ⟨a, rfl⟩, fun H S v r => by rw [Rep] at r; obtain ⟨a, vs, rfl, _⟩ := r; exact ⟨a, rfl⟩⟩
  · cases e
theorem EqB.ls (h : EqB X T n g) (hf : Rf T g) : EqB X T (n + 1) (eqLs g) := eqB_of (rcB_ls false h) (rf_ls hf) (fun _ _ _ e => (ls_ref e).1) (fun _ _ _ e => (ls_ref e).2)

/-- an object of class c, by its own __eq__ -/
def eqOb (c : Nat) (F : List D → Option D) : D → D → Option Bool
  | .obj c' ds, .obj c2 es => if c' = c ∧ c2 = c then (match F [.obj c' ds, .obj c2 es] with
    | some (.bl r) => some r
    | _ => none) else none
  | _, _ => none
theorem rcB_ob {F : List D → Option D} {ns : List Str} (hT : T c = some (C, ns)) (hN : Top X.K T C) (hs : PySem.W.findIn X.K (.ref C) "__eq__" = some (some (.ref f))) (hf : PySem.W.isFn X.K (.ref f) = true) (G : FnG X.prog X.w X.K X.mg X.base k f fd ps (sp0 T 2 F)) (hb : Binds X.K fd ps []) (hps : ps.length = 2) :
    RcB X T k false (eqOb c F) := by
  intro A pins s σ H S x y vx vy u v b sb hq I rx ry tr dx dy e
  unfold eqOb at e
  split at e
  · rename_i c' ds c2 es
    split at e
    · rename_i hc
      obtain ⟨rfl, rfl⟩ := hc
      split at e
      · rename_i r hF
        cases e
        have kx := dx
        have ky := dy
        rw [Rep] at dx
        obtain ⟨a, ox, C', ns', vs, rfl, hT', ha, _⟩ := dx
        rw [hT] at hT'; cases hT'
        cases rx
        obtain ⟨mA, O, _⟩ := ins_get I.hok ha
        obtain ⟨od, J, _⟩ := O.look
        obtain ⟨m, hF2⟩ := I.fr
        have hk : kindOf T (.obj c2 es) = some (.ref C) := by show (T c2).map (fun q => Value.ref q.1) = _; rw [hT]; rfl
        refine PySem.W.cmp_K (op := .Eq) (tb := .ref C) sb.room.units0 hF2 I.ok.mod.kin J (looks_kind I ry ⟨_, S, ky, hk⟩) (hN _ _ hk) hs hf ?_
        have e0 : Env0 X.prog X.w X.K X.mg X.base A X.stack s H := by
          have e := I.env0
          exact ⟨by rw [sb.fr]; exact e.frames, e.mod, e.bs, e.bsz, e.funs, e.frf, e.hok, e.bare⟩
        refine wpAny_mono (run_lowG (A := A) (us := [.ref a, v]) (vs := [.ref a, vy]) (Q := fun z H' => z = .bl b ∧ Same H H') (E := E0) G hq sb.room e0 hb hps I (.cons rfl (.cons ry .nil)) ⟨S, _, _, tr, rfl, Reps.cons kx (Reps.cons ky Reps.nil), hF, fun z H' sm rz => ⟨rep_bl rz, sm⟩⟩) (fun z s' hz => ?_) fun _ _ x => x
        obtain ⟨z', H', I', rz, ez, sm⟩ := hz
        subst ez
        cases rz
        exact ⟨by simp, H', I', sm⟩
      · cases e
    · cases e
  · cases e
theorem ob_ref {F : List D → Option D} {x y : D} {b : Bool} (e : eqOb c F x y = some b) : (∀ (H : Hp) S v, Rep T H S x v → ∃ a, v = .ref a) ∧ (∀ (H : Hp) S v, Rep T H S y v → ∃ a, v = .ref a) := by
  unfold eqOb at e
  split at e
  · exact ⟨fun H S v r => by rw [Rep] at r; obtain ⟨a, _, _, _, _, rfl, _⟩ := r; exact ⟨a, rfl⟩, fun H S v r => by rw [Rep] at r; obtain ⟨a, _, _, _, _, rfl, _⟩ := r; exact ⟨a, rfl⟩⟩
  · cases e
theorem EqB.ob {F : List D → Option D} {ns : List Str} (hR : Rf T (eqOb c F)) (hT : T c = some (C, ns)) (hN : Top X.K T C) (hs : PySem.W.findIn X.K (.ref C) "__eq__" = some (some (.ref f))) (hf : PySem.W.isFn X.K (.ref f) = true) (G : FnG X.prog X.w X.K X.mg X.base k f fd ps (sp0 T 2 F)) (hb : Binds X.K fd ps []) (hps : ps.length = 2) :
    EqB X T k (eqOb c F) := eqB_of (rcB_ob hT hN hs hf G hb hps) hR (fun _ _ _ e => (ob_ref e).1) (fun _ _ _ e => (ob_ref e).2)

/-- as an operator of the text -/
def rEqB (T : CT) (ng : Bool) (g : D → D → Option Bool) : R2 := fun x y H Q => ∃ S dx dy b, (∀ a, S a → ∃ o, H a = some o) ∧ Rep T H S dx x ∧ Rep T H S dy y ∧ g dx dy = some b ∧ ∀ H', Same H H' → Q (.bl (xor ng b)) H'
def gB (ng : Bool) (g : D → D → Option Bool) : D → D → Option D := fun x y => (g x y).map fun b => .bl (xor ng b)
theorem opv_eqB (ng : Bool) : OpV T (rEqB T ng g) (gB ng g) := by
  intro S x y vx vy H d Q tr rx ry e q
  obtain ⟨b, hb, rfl⟩ := map_some1 e
  exact ⟨S, x, y, b, tr, rx, ry, hb, fun H' sm => q _ H' sm (rep_lit rfl)⟩
theorem op_eqB (h : RcB X T n false g) (hq : Quiet X.A) (hr : Room n X.A) : OpR X (compareOp .Eq) (rEqB T false g) := by
  intro pins s σ H x y v u Q I rx ry hh
  obtain ⟨S, dx, dy, b, tr, px, py, e, q⟩ := hh
  show wpAny (model X.prog X.w) X.A (richCompare .Eq v u) (EP X pins σ Q) X.xe s
  refine wpAny_mono (h X.A pins s σ H S dx dy x y v u b ⟨hr, rfl⟩ hq I rx ry tr px py e) (fun r s' z => ?_) fun _ _ x => x
  obtain ⟨hr', H', I', sm⟩ := z
  subst hr'
  exact ⟨.bl (xor false b), H', I', rfl, q H' sm⟩
theorem op_neB (h : RcB X T n true g) (hq : Quiet X.A) (hr : Room n X.A) : OpR X (compareOp .NotEq) (rEqB T true g) := by
  intro pins s σ H x y v u Q I rx ry hh
  obtain ⟨S, dx, dy, b, tr, px, py, e, q⟩ := hh
  show wpAny (model X.prog X.w) X.A (richCompare .NotEq v u) (EP X pins σ Q) X.xe s
  refine wpAny_mono (h X.A pins s σ H S dx dy x y v u b ⟨hr, rfl⟩ hq I rx ry tr px py e) (fun r s' z => ?_) fun _ _ x => x
  obtain ⟨hr', H', I', sm⟩ := z
  subst hr'
  exact ⟨.bl (xor true b), H', I', rfl, q H' sm⟩
end
end Dl
/-! texts (repr) of nested data whose leaves have an own __repr__ -/
namespace Dl
open PySem PySem.Spec PyProof.Rows L2
mutual
def dep : D → Nat
  | .lst xs => deps xs + 1
  | .tup xs => deps xs + 1
  | .obj _ xs => deps xs + 1
  | _ => 0
def deps : List D → Nat
  | [] => 0
  | x :: xs => max (dep x) (deps xs)
end
mutual
def pl : D → Bool
  | .lst xs => pls xs
  | .tup xs => pls xs
  | .obj _ xs => pls xs
  | .cls _ => false
  | .scr _ => false
  | _ => true
def pls : List D → Bool
  | [] => true
  | x :: xs => pl x && pls xs
end
theorem zip_snd {α β : Type} : ∀ {a a' : List α} {b b' : List β}, a.length = b.length → a'.length = b'.length → a.zip b = a'.zip b' → b = b'
  | [], [], [], [], _, _, _ => rfl
  | x :: a, [], y :: b, [], _, _, e => by simp at e
  | [], x :: a, [], y :: b, _, _, e => by simp at e
  | x :: a, x' :: a', y :: b, y' :: b', h, h', e => by
    simp at e h h'
    rw [e.1.2, zip_snd h h' e.2]
  | [], _, _ :: _, _, h, _, _ => by simp at h
  | _ :: _, _, [], _, h, _, _ => by simp at h
  | _, [], _, _ :: _, _, h, _ => by simp at h
  | _, _ :: _, _, [], _, h, _ => by simp at h
section
variable {T : CT} {H : Hp} {S S' : Addr → Prop}
mutual
theorem rep_dep : ∀ {d e : D} {v : V}, pl d = true → pl e = true → Rep T H S d v → Rep T H S' e v → dep d = dep e
  | .non, e, v, _, pe, r, r' => by
    rw [Rep] at r; subst r
    cases e <;> simp [Rep] at r' <;> simp [dep]
  | .bl _, e, v, _, pe, r, r' => by
    rw [Rep] at r; subst r
    cases e <;> simp [Rep] at r' <;> simp [dep]
  | .int _, e, v, _, pe, r, r' => by
    rw [Rep] at r; subst r
    cases e <;> simp [Rep] at r' <;> simp [dep]
  | .str _, e, v, _, pe, r, r' => by
    rw [Rep] at r; subst r
    cases e <;> simp [Rep] at r' <;> simp [dep]
  | .cls _, _, _, p, _, _, _ => by simp [pl] at p
  | .scr _, _, _, p, _, _, _ => by simp [pl] at p
  | .lst ds, e, v, pd, pe, r, r' => by
    rw [Rep] at r
    obtain ⟨a, vs, rfl, ha, _, q⟩ := r
    cases e with
    | lst es =>
      rw [Rep] at r'
      obtain ⟨a', ws, e1, hb, _, q'⟩ := r'
      cases e1; rw [ha] at hb; cases hb
      simp only [pl] at pd pe
      simp only [dep, reps_dep pd pe q q']
    | tup es =>
      rw [Rep] at r'
      obtain ⟨a', ws, e1, hb, _, q'⟩ := r'
      cases e1; rw [ha] at hb; cases hb
    | obj c es =>
      rw [Rep] at r'
      obtain ⟨a', _, _, _, ws, e1, _, hb, _⟩ := r'
      cases e1; rw [ha] at hb; cases hb
    | cls _ => simp [pl] at pe
    | scr _ => simp [pl] at pe
    | _ => simp [Rep] at r'
  | .tup ds, e, v, pd, pe, r, r' => by
    rw [Rep] at r
    obtain ⟨a, vs, rfl, ha, _, q⟩ := r
    cases e with
    | tup es =>
      rw [Rep] at r'
      obtain ⟨a', ws, e1, hb, _, q'⟩ := r'
      cases e1; rw [ha] at hb; cases hb
      simp only [pl] at pd pe
      simp only [dep, reps_dep pd pe q q']
    | lst es =>
      rw [Rep] at r'
      obtain ⟨a', ws, e1, hb, _, q'⟩ := r'
      cases e1; rw [ha] at hb; cases hb
    | obj c es =>
      rw [Rep] at r'
      obtain ⟨a', _, _, _, ws, e1, _, hb, _⟩ := r'
      cases e1; rw [ha] at hb; cases hb
    | cls _ => simp [pl] at pe
    | scr _ => simp [pl] at pe
    | _ => simp [Rep] at r'
  | .obj c ds, e, v, pd, pe, r, r' => by
    rw [Rep] at r
    obtain ⟨a, dx, C, ns, vs, rfl, _, ha, hl, _, q⟩ := r
    cases e with
    | obj c es =>
      rw [Rep] at r'
      obtain ⟨a', dx', C', ns', ws, e1, _, hb, hl', _, q'⟩ := r'
      cases e1
      rw [ha] at hb
      injection hb with hb
      injection hb with h1 h2 h3
      have := zip_snd hl hl' h3
      subst this
      simp only [pl] at pd pe
      simp only [dep, reps_dep pd pe q q']
    | lst es =>
      rw [Rep] at r'
      obtain ⟨a', ws, e1, hb, _, q'⟩ := r'
      cases e1; rw [ha] at hb; cases hb
    | tup es =>
      rw [Rep] at r'
      obtain ⟨a', ws, e1, hb, _, q'⟩ := r'
      cases e1; rw [ha] at hb; cases hb
    | cls _ => simp [pl] at pe
    | scr _ => simp [pl] at pe
    | _ => simp [Rep] at r'
theorem reps_dep : ∀ {ds es : List D} {vs : List V}, pls ds = true → pls es = true → Reps T H S ds vs → Reps T H S' es vs → deps ds = deps es
  | [], es, vs, _, _, r, r' => by
    rw [Reps] at r; subst r
    cases es with
    | nil => rfl
    | cons e es => rw [Reps] at r'; obtain ⟨_, _, z, _⟩ := r'; cases z
  | d :: ds, es, vs, pd, pe, r, r' => by
    rw [Reps] at r
    obtain ⟨v, rest, rfl, r1, r2⟩ := r
    cases es with
    | nil => rw [Reps] at r'; cases r'
    | cons e es =>
      rw [Reps] at r'
      obtain ⟨_, _, z, q1, q2⟩ := r'
      cases z
      simp only [pls, Bool.and_eq_true] at pd pe
      simp only [deps, rep_dep pd.1 pe.1 r1 q1, reps_dep pd.2 pe.2 r2 q2]
end
end
theorem dep_le : ∀ {ds : List D} {d : D}, d ∈ ds → dep d ≤ deps ds
  | e :: ds, d, h => by
    simp only [deps]
    rcases List.mem_cons.mp h with rfl | h
    · omega
    · have := dep_le h; omega
theorem pl_mem : ∀ {ds : List D} {d : D}, pls ds = true → d ∈ ds → pl d = true
  | e :: ds, d, p, h => by
    simp only [pls, Bool.and_eq_true] at p
    rcases List.mem_cons.mp h with rfl | h
    · exact p.1
    · exact pl_mem p.2 h

/-- what is being written in the frames around lies above x -/
def ClearD (T : CT) (H : Hp) (S : Addr → Prop) (gs : List Code) (x : D) : Prop := ∀ id a rest kw, Code.builtin id ⟨.ref a :: rest, kw⟩ ∈ gs → ∃ d, pl d = true ∧ Rep T H S d (.ref a) ∧ dep x < dep d
section
variable {X : Cx} {T : CT} {n m k c : Nat} {g g' : D → Option Str}
theorem ClearD.same {H H' : Hp} {S : Addr → Prop} {gs : List Code} {x : D} (h : ClearD T H S gs x) (sm : Same H H') : ClearD T H' S gs x := fun id a rest kw q => let ⟨d, p, r, l⟩ := h id a rest kw q; ⟨d, p, r.same sm, l⟩
theorem ClearD.ne {H : Hp} {S : Addr → Prop} {gs : List Code} {x : D} {b : Addr} (h : ClearD T H S gs x) (p : pl x = true) (r : Rep T H S x (.ref b)) : Clear gs b := fun id v rest kw q e => by
  subst e
  obtain ⟨d, pd, rd, l⟩ := h id b rest kw q
  have := rep_dep p pd r rd
  omega
/-- the text of a value within another's -/
def RpB (X : Cx) (T : CT) (n : Nat) (g : D → Option Str) : Prop :=
  ∀ (A : Around) (pins : List (Addr × Obj)) (s : Shared) (σ : L2.St) (H : Hp) (S : Addr → Prop) (x : D) (vx : V) (u : Value) (t : Str) (gs : List Code) (base : Nat), base + t.length ≤ sizeLine → Sub X n A → A.guards = some gs → ClearD T H S gs x →
    Inv X pins σ H s → RelV vx u → (∀ a, S a → ∃ o, H a = some o) → pl x = true → Rep T H S x vx → g x = some t → wpAny (model X.prog X.w) A (pyReprUnder base u) (fun r s' => r = t ∧ ∃ H', Inv X pins σ H' s' ∧ Same H H') X.xe s
theorem RpB.mono (h : RpB X T n g) (hn : n ≤ m) : RpB X T m g := fun A pins s σ H S x vx u t gs base hb sb => h A pins s σ H S x vx u t gs base hb (sb.mono hn)
def rOrr (g g' : D → Option Str) : D → Option Str := fun x => match g x with
  | some b => some b
  | none => g' x
theorem RpB.or (h : RpB X T n g) (h' : RpB X T n g') : RpB X T n (rOrr g g') := fun A pins s σ H S x vx u t gs base hb sb hg hc I rx tr p dx e => by
  unfold rOrr at e
  split at e
  · rename_i b hb'
    cases e
    exact h A pins s σ H S x vx u _ gs base hb sb hg hc I rx tr p dx hb'
  · exact h' A pins s σ H S x vx u t gs base hb sb hg hc I rx tr p dx e
/-- flat values -/
def rpFl : D → Option Str
  | .non => some "None"
  | .bl b => some (if b then "True" else "False")
  | .int i => if okNum i then some (toString i) else none
  | .str s => if (Str.length (PySem.reprText s)) ≤ sizeLine then some (PySem.reprText s) else none
  | _ => none
theorem rpB_flat : RpB X T 0 rpFl := fun A pins s σ H S x vx u t gs base hb sb hg hc I rx tr p dx e => by
  have fin : ReprIs X.prog X.w u t → wpAny (model X.prog X.w) A (pyReprUnder base u) (fun r s' => r = t ∧ ∃ H', Inv X pins σ H' s' ∧ Same H H') X.xe s := fun h =>
    h base hb A X.xe s _ fun tk => ⟨rfl, H, I.tok tk, Same.refl _⟩
  cases x with
  | non => simp only [rpFl] at e; cases e; rw [rep_non dx] at rx; cases rx; exact fin ReprIs.none
  | bl b => simp only [rpFl] at e; cases e; rw [rep_bl dx] at rx; cases rx; exact fin (ReprIs.bool b)
  | int i =>
    simp only [rpFl] at e
    obtain ⟨hi, rfl⟩ := ite_some e
    rw [rep_int dx] at rx
    obtain ⟨tk, rfl⟩ := rx
    exact fin (ReprIs.int tk (of_decide_eq_true hi))
  | str z =>
    simp only [rpFl] at e
    obtain ⟨hi, rfl⟩ := ite_some e
    rw [rep_str dx] at rx
    obtain ⟨tk, rfl⟩ := rx
    exact fin (ReprIs.str z tk hi)
  | _ => simp [rpFl] at e
end
end Dl
namespace Dl
open PySem PySem.Spec PyProof.Rows L2
/-- all texts -/
def txts (g : D → Option Str) : List D → Option (List Str)
  | [] => some []
  | x :: xs => (g x).bind fun t => (txts g xs).map fun ts => t :: ts
theorem txts_len {g : D → Option Str} : ∀ {xs : List D} {ts : List Str}, txts g xs = some ts → ts.length = xs.length
  | [], ts, h => by simp [txts] at h; subst h; rfl
  | x :: xs, ts, h => by
    obtain ⟨t, h1, h2⟩ := bind_some1 h
    obtain ⟨r, h3, h4⟩ := map_some1 h2
    rw [← h4, List.length_cons, List.length_cons, txts_len h3]
theorem txts_at {g : D → Option Str} : ∀ {xs : List D} {ts : List Str} {i : Nat} {x : D}, txts g xs = some ts → xs[i]? = some x → ∃ t, ts[i]? = some t ∧ g x = some t
  | [], ts, i, x, h, e => by simp at e
  | y :: xs, ts, i, x, h, e => by
    obtain ⟨t, h1, h2⟩ := bind_some1 h
    obtain ⟨r, h3, h4⟩ := map_some1 h2
    subst h4
    cases i with
    | zero => simp at e; subst e; exact ⟨t, by simp, h1⟩
    | succ i => simp at e; simpa using txts_at h3 e
theorem strs_of : ∀ {ts : List Str} {its : List Value}, Vals (ts.map V.str) its → ∃ done : List (Str × Tok), its = strValues done ∧ done.map (·.1) = ts
  | [], _, h => by cases h; exact ⟨[], rfl, rfl⟩
  | t :: ts, _, h => by
    cases h with
    | cons r h =>
      obtain ⟨tk, rfl⟩ := r
      obtain ⟨done, rfl, e⟩ := strs_of h
      exact ⟨(t, tk) :: done, rfl, by simp [e]⟩
section
variable {X : Cx} {T : CT} {n m k c : Nat} {g g' : D → Option Str}
theorem subR {A : Around} {cd : Code} (sb : Sub X (n + 1) A) (h1 : (A.under cd).units = A.units + 1) (h2 : (A.under cd).handled = A.handled) (h3 : (A.under cd).depth ≤ A.depth + 3) (h4 : (A.under cd).frames = A.frames) : Sub X n (A.under cd) :=
  ⟨⟨h2.trans sb.room.hd, by have := sb.room.dp; omega, by have := sb.room.un; omega⟩, h4.trans sb.fr⟩
theorem under_loop {A : Around} {as : Args} (sb : Sub X (n + 1) A) : Sub X n (A.under (.builtin "list.__repr__.loop" as)) :=
  subR sb (units_under_list_loop A as) (by first | rfl | simp [Around.under]) (by first | (show A.depth ≤ _; omega) | (simp [Around.under, Code.weight, Code.isCreation, Code.isGuard, Code.isCaller, Code.frames, Code.isFrame, guardIds]; done)) (by first | rfl | simp [Around.under, Code.envs, Code.isFrame, pushEnvs])
theorem loopR (h : RpB X T n g) {A : Around} {gs : List Code} (sb : Sub X (n + 1) A) (hg : A.guards = some gs) {pins : List (Addr × Obj)} {σ : L2.St} {H : Hp} {S : Addr → Prop} {xs : List D} {vs : List V} {a : Addr} {ts : List Str} {base : Nat} {R : Result → Shared → Prop}
    (hc : ClearD T H S gs (.lst xs)) (tr : ∀ b, S b → ∃ o, H b = some o) (hp : pl (.lst xs) = true) (ha : H a = some (.lst vs)) (rr : Rep T H S (.lst xs) (.ref a)) (rx : Reps T H S xs vs) (ht : txts g xs = some ts) (hsz : base + (listText ts).length ≤ sizeLine)
    (he : ∀ e s', X.xe e s' → R (.error e) s') (hR : ∀ s' u, (∃ H', Inv X pins σ H' s' ∧ Same H H') → R (.ok (.ret (.str (listText ts) u))) s') :
    ∀ (j i : Nat) (s : Shared) (H1 : Hp) (P : Addr), xs.length - i = j → i ≤ xs.length → Same H H1 → H1 P = none → Inv X pins σ (upd H1 P (.lst ((ts.take i).map V.str))) s →
      codeAny (model X.prog X.w) A (.builtin "list.__repr__.loop" ⟨[.ref a, rawInt i, .ref P, rawInt ((base + piled (ts.take i) : Nat) : Int)], []⟩) R s := by
  have tl := txts_len ht
  have hL := textFrom_len ts 0 "["
  have hX : (listText ts).length = (textFrom 0 "[" ts).length + 1 := by
    show (textFrom 0 "[" ts ++ "]").length = _
    rw [strLen_append]; rfl
  have z2 : ∀ t ∈ ts, t.length ≤ sizeLine := fun t q => by
    have h2 := hL.2.1 t q
    omega
  have z3 := piled_le_listText ts
  intro j
  induction j with
  | zero =>
    intro i s H1 P hj hi sm hP I
    have hin : i = xs.length := by omega
    have smP : Same H1 (upd H1 P (.lst ((ts.take i).map V.str))) := fun b o e => by rw [upd_ne (ne_of_none e hP)]; exact e
    obtain ⟨z, its, m1, r, el, eP⟩ := I.lstM (l := P) upd_same
    obtain ⟨zz, its0, m0, r0, el0, ea⟩ := I.lstM (l := a) ((sm.trans smP) _ _ ha)
    obtain ⟨done, rfl, hd⟩ := strs_of r
    refine codeAny_builtin F.entry_list_repr_loop ?_
    show wpAny _ _ (Builtin.«list.__repr__.loop» ⟨[.ref a, .int i 0, .ref P, .int ((base + piled (ts.take i) : Nat) : Int) 0], []⟩) _ _ s
    rw [repr_loop_tree]
    refine wpAny_bind (wpAny_listItems ea rfl ?_)
    have lv := rx.length
    have none1 : its0.toArray[(i : Int).toNat]? = none := by simp; omega
    simp only [none1]
    unfold reprEnd
    refine wpAny_bind (wpAny_listItems eP rfl ?_)
    rw [show (strValues done).toArray.toList = strValues done from rfl, repr_fold]
    refine wpAny_bind (wpAny_pure ?_)
    have hall : done.map (·.1) = ts := by rw [hd, hin, ← tl, List.take_length]
    rw [hall]
    refine wpAny_bind (wpAny_mkStr (wpAny_pure ?_) (by show (listText ts).length ≤ sizeLine; omega))
    exact hR _ _ ⟨_, I.tok _, sm.trans smP⟩
  | succ j ih =>
    intro i s H1 P hj hi sm hP I
    have hlt : i < xs.length := by omega
    have smP : Same H1 (upd H1 P (.lst ((ts.take i).map V.str))) := fun b o e => by rw [upd_ne (ne_of_none e hP)]; exact e
    have sm1 := sm.trans smP
    obtain ⟨zz, its0, m0, r0, el0, ea⟩ := I.lstM (l := a) (sm1 _ _ ha)
    have lv := rx.length
    have hi0 : i < its0.toArray.size := by simp; omega
    obtain ⟨v, ev, rv⟩ := vals_at r0 hi0
    obtain ⟨x, ex, dx⟩ := rx.getV ev
    obtain ⟨t, et, gt⟩ := txts_at ht ex
    have hp1 := piled_take_succ et
    have hp2 := piled_take_le ts (i + 1)
    have mx : x ∈ xs := List.mem_of_getElem? ex
    have lt : dep x < dep (.lst xs) := by have := dep_le mx; simp only [dep]; omega
    refine codeAny_builtin F.entry_list_repr_loop ?_
    show wpAny _ _ (Builtin.«list.__repr__.loop» ⟨[.ref a, .int i 0, .ref P, .int ((base + piled (ts.take i) : Nat) : Int) 0], []⟩) _ _ s
    rw [repr_loop_tree]
    refine wpAny_bind (wpAny_listItems ea rfl ?_)
    have some1 : its0.toArray[(i : Int).toNat]? = some its0.toArray[i] := by simp at hi0 ⊢
    simp only [some1]
    rw [Int.toNat_natCast]
    refine wpAny_bind (wpAny_holding (wpAny_mono (h _ pins s σ _ S x v its0.toArray[i] t _ (base + piled (ts.take i) + 1) (by omega) (under_loop sb) (guards_under_guard (isGuard_list_loop _) hg) (fun id b rest kw q => ?_) I rv (fun b q => let ⟨o, e⟩ := tr b q; ⟨o, sm1 b o e⟩) (pl_mem (by simpa [pl] using hp) mx) (dx.same sm1) gt) (fun r s2 z => ?_) (fun e s' q => he e s' q)))
    · rcases List.mem_cons.mp q with e | q
      · cases e
        exact ⟨_, hp, rr.same sm1, lt⟩
      · obtain ⟨d, pd, rd, l⟩ := hc id b rest kw q
        exact ⟨d, pd, rd.same sm1, by omega⟩
    · obtain ⟨er, H2, I2, sm2⟩ := z
      subst er
      refine wpAny_bind (wpAny_mkStr ?_ (z2 r (List.mem_of_getElem? et)))
      have eP2 : H2 P = some (.lst ((ts.take i).map V.str)) := sm2 _ _ upd_same
      have I3 := I2.tok (s2.toks + 1)
      obtain ⟨z, its, m1, rP, el, eP⟩ := I3.lstM eP2
      refine wpAny_bind ?_
      show wpAny _ _ (updateSeq P _) _ _ _
      have zi : its.length = i := by rw [← el]; simp; omega
      refine wpAny_updateSeq eP rfl (wpAny_pure ⟨F.quiet_list_repr_loop _, ?_⟩) (by rw [List.size_toArray, ← el]; exact z) (by simp; omega)
      have c1 : ((i : Int) + 1) = ((i + 1 : Nat) : Int) := by omega
      have c2 : base + piled (ts.take i) + (r.length + 2) = base + piled (ts.take (i + 1)) := by omega
      rw [c1, c2]
      have et' : (ts.take (i + 1)).map V.str = (ts.take i).map V.str ++ [V.str r] := by
        rw [List.take_succ, et]; simp
      have I4 := I3.lset (ys := (ts.take (i + 1)).map V.str) (its' := its ++ [.str r s2.toks]) (t' := s2.toks + 1) eP2 eP (f := fun l => l.push (.str r s2.toks)) (by simp) (by rw [et']; exact rP.append (.cons ⟨_, rfl⟩ .nil)) (by simp; omega)
      have er2 : H2 = upd (er H2 P) P (.lst ((ts.take i).map V.str)) := (upd_er eP2).symm
      have e4 : upd H2 P (.lst ((ts.take (i + 1)).map V.str)) = upd (er H2 P) P (.lst ((ts.take (i + 1)).map V.str)) := by
        funext b
        by_cases hb : b = P
        · subst hb; rw [upd_same, upd_same]
        · rw [upd_ne hb, upd_ne hb, er_ne hb]
      rw [e4] at I4
      exact ih (i + 1) _ (er H2 P) P (by omega) (by omega) (fun b o e => by
        have nb : b ≠ P := ne_of_none (sm _ _ e) hP
        rw [er_ne nb]
        exact sm2 _ _ (sm1 _ _ e)) er_self I4
end
end Dl
namespace Dl
open PySem PySem.Spec PyProof.Rows L2
section
variable {X : Cx} {T : CT} {n m k c : Nat} {g g' : D → Option Str}
def rpLs (g : D → Option Str) : D → Option Str
  | .lst [] => some "[]"
  | .lst (x :: xs) => (txts g (x :: xs)).map listText
  | .tup xs => (txts g xs).map tupleText
  | _ => none
theorem rp_lst (h : RpB X T n g) {A : Around} {pins : List (Addr × Obj)} {s : Shared} {σ : L2.St} {H : Hp} {S : Addr → Prop} {x : D} {xs : List D} {a : Addr} {vs : List V} {ts : List Str} {gs : List Code} {base : Nat} (sb : Sub X (n + 1) A) (hg : A.guards = some gs) (hc : ClearD T H S gs (.lst (x :: xs)))
    (I : Inv X pins σ H s) (tr : ∀ b, S b → ∃ o, H b = some o) (hp : pl (.lst (x :: xs)) = true) (ha : H a = some (.lst vs)) (rr : Rep T H S (.lst (x :: xs)) (.ref a)) (rx : Reps T H S (x :: xs) vs) (ht : txts g (x :: xs) = some ts) (hsz : base + (listText ts).length ≤ sizeLine)
    {R : Result → Shared → Prop} (he : ∀ e s', X.xe e s' → R (.error e) s') (hR : ∀ s' u, (∃ H', Inv X pins σ H' s' ∧ Same H H') → R (.ok (.ret (.str (listText ts) u))) s') :
    wpAny (model X.prog X.w) A.in1 (Builtin.listReprAt base ⟨[.ref a], []⟩) (fun fin s' => match fin with | .done f => R (.ok f) s' | .again c' => c'.quiet = true ∧ codeAny (model X.prog X.w) A c' R s') (fun e s' => R (.error e) s') s := by
  obtain ⟨z, its, m0, r0, el, ea⟩ := I.lstM ha
  have lv := rx.length
  have ca := hc.ne hp rr
  match its, el, r0, ea with
  | [], el, _, _ => simp [lv] at el
  | y :: ys, el, r0, ea =>
    refine wpAny_list_repr_head (A := A.in1) hg (fun v rest kw hm => listSameRef_of_ne (ca _ _ _ _ hm)) ea rfl ?_
    refine wpAny_bind (m := newList []) (wpAny_newObj_type ?_)
    refine wpAny_pure ⟨F.quiet_list_repr_loop _, ?_⟩
    have I2 := I.lnew (ys := []) (its := []) (t' := s.toks) .nil (Nat.zero_le _)
    exact loopR h sb hg hc tr hp ha rr rx ht hsz he hR _ 0 _ H s.heap.objs.size rfl (Nat.zero_le _) (Same.refl _) I.fresh I2
theorem rp_fold (h : RpB X T n g) {A : Around} {gs : List Code} (sb : Sub X n A) (hg : A.guards = some gs) {pins : List (Addr × Obj)} {σ : L2.St} {H : Hp} {S : Addr → Prop} {big : D}
    (tr : ∀ b, S b → ∃ o, H b = some o) (E : Value → Shared → Prop) (he : ∀ e s', X.xe e s' → E e s') : ∀ (xs : List D) (vs : List V) (its : List Value) (ts : List Str) (acc : Array Str) (m : Nat) (s : Shared) (H1 : Hp) (Q : (Array Str × Nat) → Shared → Prop),
      (∀ x, x ∈ xs → ClearD T H S gs x) → pls xs = true → Same H H1 → Inv X pins σ H1 s → Reps T H S xs vs → Vals vs its → txts g xs = some ts → m + piled ts ≤ sizeLine →
      (∀ s', (∃ H', Inv X pins σ H' s' ∧ Same H H') → Q ⟨acc ++ ts.toArray, m + piled ts⟩ s') → wpAny (model X.prog X.w) A (forIn its (⟨acc, m⟩ : (Array Str × Nat)) tupBody) Q E s
  | [], vs, its, ts, acc, m, s, H1, Q, hc, hp, sm, I, rx, rv, ht, hz, q => by
    rw [Reps] at rx; subst rx
    cases rv
    simp [txts] at ht; subst ht
    have h0 := q s ⟨H1, I, sm⟩
    simp only [List.forIn_nil]
    exact wpAny_pure (by simpa [piled] using h0)
  | x :: xs, vs, its, ts, acc, m, s, H1, Q, hc, hp, sm, I, rx, rv, ht, hz, q => by
    rw [Reps] at rx
    obtain ⟨v, vr, rfl, r1, r2⟩ := rx
    cases rv with
    | cons rv1 rv2 =>
      obtain ⟨t, h1, h2⟩ := bind_some1 ht
      obtain ⟨tr2, h3, h4⟩ := map_some1 h2
      subst h4
      rw [piled_cons] at hz
      simp only [pls, Bool.and_eq_true] at hp
      rw [List.forIn_cons]
      refine wpAny_bind (wpAny_bind (wpAny_mono (h A pins s σ H1 S x v _ t gs (m + 1) (by omega) sb hg ((hc x (.head _)).same sm) I rv1 (fun b w => let ⟨o, e⟩ := tr b w; ⟨o, sm b o e⟩) hp.1 (r1.same sm) h1) (fun r s2 z => ?_) (fun e s' w => he e s' w)))
      obtain ⟨er, H2, I2, sm2⟩ := z
      subst er
      refine wpAny_pure ?_
      refine rp_fold h sb hg (big := big) tr E he xs vr _ tr2 (acc.push r) (m + (r.length + 2)) _ H2 Q (fun y w => hc y (.tail _ w)) hp.2 (sm.trans sm2) I2 r2 rv2 h3 (by omega) fun s' w => ?_
      have h1 := q s' w
      have e : m + piled (r :: tr2) = m + (r.length + 2) + piled tr2 := by rw [piled_cons]; omega
      rw [e] at h1
      simpa using h1
theorem under_tup {A : Around} {as : Args} (sb : Sub X (n + 1) A) : Sub X n (A.under (.builtin "tuple.__repr__" as)) :=
  subR sb (units_under_tuple_repr A as) (by first | rfl | simp [Around.under]) (by first | (show A.depth ≤ _; omega) | (simp [Around.under, Code.weight, Code.isCreation, Code.isGuard, Code.isCaller, Code.frames, Code.isFrame, guardIds]; done)) (by first | rfl | simp [Around.under, Code.envs, Code.isFrame, pushEnvs])
theorem under_tupU {A : Around} {as : Args} (sb : Sub X (n + 1) A) : Sub X n (A.under (.builtin "tuple.__repr__.under" as)) :=
  subR sb (units_under_tuple_repr_under A as) (by first | rfl | simp [Around.under]) (by first | (show A.depth ≤ _; omega) | (simp [Around.under, Code.weight, Code.isCreation, Code.isGuard, Code.isCaller, Code.frames, Code.isFrame, guardIds]; done)) (by first | rfl | simp [Around.under, Code.envs, Code.isFrame, pushEnvs])
theorem rp_tup (h : RpB X T n g) {A : Around} {pins : List (Addr × Obj)} {s : Shared} {σ : L2.St} {H : Hp} {S : Addr → Prop} {xs : List D} {a : Addr} {vs : List V} {ts : List Str} {gs : List Code} {base : Nat} {id : String} {rest : List Value} (sb : Sub X n (A.under (.builtin id ⟨.ref a :: rest, []⟩)))
    (hcg : (Code.builtin id ⟨.ref a :: rest, []⟩).isGuard = true) (hg : A.guards = some gs) (hc : ClearD T H S gs (.tup xs))
    (I : Inv X pins σ H s) (tr : ∀ b, S b → ∃ o, H b = some o) (hp : pl (.tup xs) = true) (ha : H a = some (.tup vs)) (rr : Rep T H S (.tup xs) (.ref a)) (rx : Reps T H S xs vs) (ht : txts g xs = some ts) (hsz : base + (tupleText ts).length ≤ sizeLine)
    {R : Result → Shared → Prop} (he : ∀ e s', X.xe e s' → R (.error e) s') (hR : ∀ s' u, (∃ H', Inv X pins σ H' s' ∧ Same H H') → R (.ok (.ret (.str (tupleText ts) u))) s') :
    wpOwn (model X.prog X.w) A (.builtin id ⟨.ref a :: rest, []⟩) (Builtin.tupleReprAt base ⟨[.ref a], []⟩) (fun fin s' => match fin with | .done f => R (.ok f) s' | .again c' => c'.quiet = true ∧ codeAny (model X.prog X.w) A c' R s') (fun e s' => R (.error e) s') s := by
  obtain ⟨its, r, e1, z⟩ := I.tuple (show SqT X.K H a vs from .inl (.inl ha))
  have e2 := e1
  obtain ⟨⟨cl, dd, dt, sl⟩, ho, hcl, nn, hd⟩ := e2
  simp only at hcl hd
  subst hcl hd
  have ca := hc.ne hp rr
  have lv := rx.length
  have tl := txts_len ht
  have hlen : ts.length = its.length := by rw [tl, ← r.length, lv]
  have hpp := piled_le_tupleText ts
  rw [tuple_repr_tree, tupleReprUnderWay_eq]
  refine wpOwn_bind (wpOwn_stackTailAny hg (tupGuardF_off _) (tupGuardF_pos _) ?_)
  have hn : (gs.any fun c => tupGuardF (.ref a) (c, default)) = false := by
    rw [List.any_eq_false]
    intro c hcm
    rw [tupGuardF_of_clear ca c hcm]
    exact Bool.false_ne_true
  rw [hn]
  refine wpOwn_of_wpAny ?_
  show wpAny _ _ (tupleReprRest base (.ref a)) _ _ s
  unfold tupleReprRest Builtin.Tuple.tupleItemsOf
  refine wpAny_bind (wpAny_bind (wpAny_seqItems ho rfl (wpAny_pure ?_)))
  rw [← Array.forIn_toList]
  refine wpAny_bind (rp_fold h sb (guards_under_guard hcg hg) (big := .tup xs) tr _ he xs vs its ts #[] base _ H _ (fun x mx id' b rest' kw q => ?_) (by simpa [pl] using hp) (Same.refl _) I rx r ht (by omega) fun s' w => ?_)
  · have lt : dep x < dep (.tup xs) := by have := dep_le mx; simp only [dep]; omega
    rcases List.mem_cons.mp q with e | q
    · cases e
      exact ⟨_, hp, rr, lt⟩
    · obtain ⟨d, pd, rd, l⟩ := hc id' b rest' kw q
      exact ⟨d, pd, rd, by omega⟩
  · refine wpAny_bind (wpAny_mkStr (wpAny_pure ?_) (by have : (tupleText ts).length ≤ sizeLine := by omega
                                                       simpa [tupleText, hlen] using this))
    obtain ⟨H', I', sm⟩ := w
    have h1 := hR _ s'.toks ⟨H', I'.tok (s'.toks + 1), sm⟩
    simpa [tupleText, hlen] using h1
theorem RpB.ls (h : RpB X T n g) : RpB X T (n + 1) (rpLs g) := by
  intro A pins s σ H S x vx u t gs base hb sb hg hc I rx tr hp dx e
  unfold rpLs at e
  split at e
  · cases e
    have dx' := dx
    rw [Rep] at dx
    obtain ⟨a, vs, rfl, ha, _, px⟩ := dx
    cases rx
    rw [Reps] at px; subst px
    obtain ⟨z, its, m0, r0, el, ea⟩ := I.lstM ha
    cases r0
    refine wpAny_pyReprUnder_ref (by omega) (wpAny_pyReprObjUnder_list_empty ⟨_, ea, rfl⟩ sb.room.units0 ea rfl ⟨_, _, rfl, ?_⟩)
    exact ⟨rfl, H, I.tok _, Same.refl _⟩
  · rename_i y ys
    obtain ⟨ts, h1, rfl⟩ := map_some1 e
    have dx' := dx
    rw [Rep] at dx
    obtain ⟨a, vs, rfl, ha, _, px⟩ := dx
    cases rx
    obtain ⟨z, its, m0, r0, el, ea⟩ := I.lstM ha
    refine wpAny_pyReprUnder_ref (by omega) (wpAny_pyReprObjUnder_twin (twin := "list.__repr__.under") ⟨_, ea, rfl⟩ F.slot_list_repr.toG rfl sb.room.units0 ?_)
    refine call_twin_plain F.plain_list_repr_under F.entry_list_repr_under F.check_list_repr_under ⟨_, ea, rfl⟩ F.slot_list_repr.toG (F.args_list_repr_1 _) ?_
    exact rp_lst h sb hg hc I tr hp ha dx' px h1 hb (fun e s' q => q) fun s' u' q => ⟨⟨_, _, rfl⟩, _, _, rfl, rfl, q⟩
  · rename_i ys
    obtain ⟨ts, h1, rfl⟩ := map_some1 e
    have dx' := dx
    rw [Rep] at dx
    obtain ⟨a, vs, rfl, ha, _, px⟩ := dx
    cases rx
    obtain ⟨its, r, e1, z⟩ := I.tuple (show SqT X.K H a vs from .inl (.inl ha))
    have hty : s.TypeIs (.ref a) "tuple" := by
      obtain ⟨o, ho, hcl, _⟩ := e1
      exact ⟨o, ho, hcl⟩
    refine wpAny_pyReprUnder_ref (by omega) (wpAny_pyReprObjUnder_twin (twin := "tuple.__repr__.under") hty F.slot_tuple_repr rfl sb.room.units0 ?_)
    refine call_twin_own (F.quiet_tuple_repr_under _) F.entry_tuple_repr_under F.check_tuple_repr_under hty F.slot_tuple_repr (F.args_tuple_repr_1 _) ?_
    exact rp_tup h (under_tupU sb) (isGuard_tuple_repr_under _) hg hc I tr hp ha dx' px h1 hb (fun e s' q => q) fun s' u' q => ⟨⟨_, _, rfl⟩, _, _, rfl, rfl, q⟩
  · cases e
end
end Dl
namespace Dl
open PySem PySem.Spec PyProof.Rows L2
section
variable {P : Program} {w : World} {K : PySem.W.Frag} {mg : Str → Option Value} {base : Heap} {T : CT} {k : Nat} {f : Addr} {fd : FuncData} {ps : List Str} {sp : Sp}
theorem ofOk (F : FnOk P w K mg base CX0 k f fd ps sp) : FnG P w K mg base k f fd ps sp := ⟨F.len, fun A o s H a us vs Q E _ hr he hb hv h => F.run A o s H a us vs Q E hr he hb hv h⟩
/-- a def whose promise holds whatever is being written around it -/
theorem ok0A {x qual : Str} {st : Stmt} {f : Addr} {fd : FuncData} {N ps : List Str} {k m n : Nat} {g : FS} (F : Fun K x qual st f fd) (S : FnScope N ps (defScope st)) (hN : N.length = m) (hps : ps.length = n)
    (body : ∀ (cdv : Value) (A : Around) (outer : List PySem.Env) (s : Shared) (H : Hp) (E : XK), Room k (A.deeper (envOfC qual (defScope st) s.heap.objs.size f cdv)) → PSs (cxOf CX0 P w K mg base N qual (defScope st) f cdv A outer s H E).nox (defBody st) (tSt T g)) : FnOk P w K mg base CX0 (k + 1) f fd ps (sp0 T n (outD m g)) := by
  subst hN hps
  refine F.ok S (fun vs H Q E h => ?_) (fun cdv A outer s H vs Q E hr h => ?_)
  · obtain ⟨S, ds, d, _, hl, r, _⟩ := h
    rw [r.length, hl]
  · obtain ⟨S, ds, d, tr, hl, r, eG, q⟩ := h
    unfold outD at eG
    obtain ⟨r1, e1, e2⟩ := bind_some1 eG
    exact ⟨_, body cdv A outer s H E hr, end0 tr r e1 e2 q⟩
end
section
variable {X : Cx} {T : CT} {n m k c : Nat} {g g' : D → Option Str} {f C : Addr} {fd : FuncData} {ps : List Str} {sp : Sp} {E : XK}
theorem run_lowA {A : Around} {pins : List (Addr × Obj)} {σ : L2.St} {H : Hp} {s : Shared} {Q : VK} {us : List Value} {vs : List V} (F : FnOk X.prog X.w X.K X.mg X.base CX0 k f fd ps sp) (hr : Room k A) (e0 : Env0 X.prog X.w X.K X.mg X.base A X.stack s H) (hb : Binds X.K fd ps []) (hn : ps.length = us.length)
    (I : Inv X pins σ H s) (r : Vals vs us) (h : sp vs H Q E) : wpAny (model X.prog X.w) A (call (.ref f) us) (EP X pins σ Q) X.xe s := by
  apply wpAny_call
  have hbt := hb s us I.kIn (by rw [List.append_nil, hn])
  rw [List.append_nil] at hbt
  refine codeAny_mono (F.run A X.stack s H ⟨us, []⟩ us vs Q E hr e0 hbt r h) fun z s' hz => ?_
  have e := endG I z s' hz
  match z, e with
  | .ok (.ret _), e => exact e
  | .error _, e => exact e
theorem Sub.env0 {A : Around} (sb : Sub X n A) {pins : List (Addr × Obj)} {σ : L2.St} {H : Hp} {s : Shared} (I : Inv X pins σ H s) : Env0 X.prog X.w X.K X.mg X.base A X.stack s H := by
  have e := I.env0
  exact ⟨by rw [sb.fr]; exact e.frames, e.mod, e.bs, e.bsz, e.funs, e.frf, e.hok, e.bare⟩
/-- an object of class c, by its own __repr__ -/
def rpOb (c : Nat) (F : List D → Option D) : D → Option Str
  | .obj c' ds => if c' = c then (match F [.obj c' ds] with
    | some (.str r) => some r
    | _ => none) else none
  | _ => none
theorem RpB.ob {F : List D → Option D} {ns : List Str} (hT : T c = some (C, ns)) (hs : PySem.W.findIn X.K (.ref C) "__repr__" = some (some (.ref f))) (hf : PySem.W.isFn X.K (.ref f) = true) (G : FnOk X.prog X.w X.K X.mg X.base CX0 k f fd ps (sp0 T 1 F)) (hb : Binds X.K fd ps []) (hps : ps.length = 1) :
    RpB X T k (rpOb c F) := by
  intro A pins s σ H S x vx u t gs base hz sb hg hc I rx tr hp dx e
  unfold rpOb at e
  split at e
  · rename_i c' ds
    split at e
    · rename_i hcc
      subst hcc
      split at e
      · rename_i r hF
        cases e
        have kx := dx
        rw [Rep] at dx
        obtain ⟨a, ox, C', ns', vs, rfl, hT', ha, _⟩ := dx
        rw [hT] at hT'; cases hT'
        cases rx
        obtain ⟨mA, O, _⟩ := ins_get I.hok ha
        obtain ⟨od, J, _⟩ := O.look
        have X0 := I.kIn
        refine wpAny_pyReprUnder_ref (by omega) ?_
        have go : wpAny (model X.prog X.w) A (call (.ref f) [.ref a]) (fun v s' => ∃ tk, v = .str t tk ∧ ∃ H', Inv X pins σ H' s' ∧ Same H H') X.xe s := by
          refine wpAny_mono (run_lowA (A := A) (us := [.ref a]) (vs := [.ref a]) (Q := fun z H' => z = .str t ∧ Same H H') (E := E0) G sb.room (Sub.env0 sb I) hb hps I (.cons rfl .nil) ⟨S, _, _, tr, rfl, Reps.cons kx Reps.nil, hF, fun z H' sm rz => ⟨rep_str rz, sm⟩⟩) (fun z s' hz => ?_) fun _ _ x => x
          obtain ⟨z', H', I', rz, ez, sm⟩ := hz
          subst ez
          obtain ⟨tk, rfl⟩ := rz
          exact ⟨tk, rfl, H', I', sm⟩
        unfold pyReprObjUnder pyReprObjBy
        refine wpAny_bind (wpAny_cRoomFor sb.room.units0 ?_)
        refine wpAny_bind (wpAny_bind (J.type.here ((PySem.W.looks_findIn X0 hs).here ?_)))
        show wpAny _ _ (if (some (Value.ref f)).isNone = true then _ else _) _ _ _
        rw [if_neg (by simp)]
        refine wpAny_bind (m := callSpecialIfBoundBy? _ (.ref a) (Str.ofString "__repr__")) ?_
        simp only [callSpecialIfBoundBy?, bindSpecialIfBound?]
        refine wpAny_holding (wpAny_bind (wpAny_bind (wpAny_bind (J.type.here ((PySem.W.looks_findIn X0 hs).here ?_)))))
        refine wpAny_bind (wpAny_askSetting (wpAny_ite ?_))
        have fin : ∀ {Q : Option Value → Shared → Prop}, (∀ tk s', (∃ H', Inv X pins σ H' s' ∧ Same H H') → Q (some (.str t tk)) s') → wpAny (model X.prog X.w) A (call (.ref f) ([.ref a] ++ []) >>= fun v => pure (some v)) Q X.xe s := fun {Q} q =>
          wpAny_bind (wpAny_mono go (fun v s' z => by obtain ⟨tk, rfl, w⟩ := z; exact wpAny_pure (q tk s' w)) fun _ _ h' => h')
        have last : ∀ tk s', (∃ H', Inv X pins σ H' s' ∧ Same H H') → wpAny (model X.prog X.w) A (do if ← isInstance (Value.str t tk) (.type "str") then pure (Value.str t tk) else raiseError "TypeError" s!"__repr__ returned non-string (type {← typeNameOf (Value.str t tk)})") (fun v s' => ∃ x u, v = Value.str x u ∧ (x = t ∧ ∃ H', Inv X pins σ H' s' ∧ Same H H')) X.xe s' := fun tk s' w =>
          wpAny_bind (wpAny_isInstance (T := "str") (b := true) rfl isSubtype_str_str (wpAny_pure ⟨_, _, rfl, rfl, w⟩))
        split
        · exact wpAny_bind ((PySem.W.bind_fn X0 _ (beq_iff_eq.mp hf)).here (wpAny_pure (by exact fin last)))
        · exact wpAny_tryCatch (wpAny_bind ((PySem.W.bind_fn X0 _ (beq_iff_eq.mp hf)).here (wpAny_pure (by exact fin last))))
      · cases e
    · cases e
  · cases e
/-- repr(e), the text found by g -/
def rRp (T : CT) (g : D → Option Str) : List V → Hp → VK → Prop := fun vs H Q => ∃ S x v t, vs = [v] ∧ (∀ a, S a → ∃ o, H a = some o) ∧ pl x = true ∧ Rep T H S x v ∧ rpLs g x = some t ∧ t.length ≤ sizeLine ∧ ∀ H', Same H H' → Q (.str t) H'
def funRp (g : D → Option Str) : List D → Option D
  | [x] => if pl x = true then (rpLs g x).bind fun t => if t.length ≤ big then some (.str t) else none else none
  | _ => none
theorem callv_rp : CallV T (rRp T g) (funRp g) := by
  intro S ds vs H d Q tr r e q
  unfold funRp at e
  split at e
  · rename_i x
    obtain ⟨hp, e⟩ := ite_some' e
    obtain ⟨t, h1, h2⟩ := bind_some1 e
    obtain ⟨hl, rfl⟩ := ite_some h2
    rw [Reps] at r
    obtain ⟨v, r2, rfl, r3, r4⟩ := r
    rw [Reps] at r4; subst r4
    exact ⟨S, x, v, t, rfl, tr, hp, r3, h1, big_line hl, fun H' sm => q _ H' sm (rep_lit rfl)⟩
  · cases e
theorem call_rp (h : RpB X T n g) (hq : Quiet X.A) (hr : Room (n + 2) X.A) : CallR X (.builtin "repr") (rRp T g) := by
  intro pins s σ H xs us Q I r hh
  obtain ⟨S, x, v, t, rfl, tr, hp, dx, e, hl, q⟩ := hh
  obtain ⟨u, rfl, ru⟩ := r.one
  have sb1 : Sub X (n + 1) X.A.in1 := ⟨hr.in1, rfl⟩
  have c0 : ClearD T H S [] x := fun id a rest kw z => by cases z
  unfold rpLs at e
  split at e
  · cases e
    rw [Rep] at dx
    obtain ⟨a, vs, rfl, ha, _, px⟩ := dx
    cases ru
    rw [Reps] at px; subst px
    obtain ⟨z, its, m0, r0, el, ea⟩ := I.lstM ha
    cases r0
    refine call_repr_slot sb1.room.units0 ⟨_, ea, rfl⟩ F.slot_list_repr.toG ?_
    refine call_list_repr_empty ⟨_, ea, rfl⟩ ea rfl ?_
    exact ⟨_, _, rfl, .str _, H, I.tok _, ⟨_, rfl⟩, q H (Same.refl _)⟩
  · rename_i y ys
    obtain ⟨ts, h1, rfl⟩ := map_some1 e
    have dx' := dx
    rw [Rep] at dx
    obtain ⟨a, vs, rfl, ha, _, px⟩ := dx
    cases ru
    obtain ⟨z, its, m0, r0, el, ea⟩ := I.lstM ha
    refine call_repr_slot sb1.room.units0 ⟨_, ea, rfl⟩ F.slot_list_repr.toG ?_
    refine wpAny_call (codeAny_call_builtin F.slot_list_repr.plain F.entry_list_repr (F.slot_list_repr.check _ _ _ _ _ _ _ _ ⟨_, ea, rfl⟩ (F.args_list_repr_1 _) ?_))
    exact rp_lst (R := callEnd _ X.xe) (base := 0) h sb1 hq c0 I tr hp ha dx' px h1 (by omega) (fun e s' q => q) fun s' tk w => by
      obtain ⟨H', I', sm⟩ := w
      exact ⟨_, _, rfl, .str _, H', I', ⟨_, rfl⟩, q H' sm⟩
  · rename_i ys
    obtain ⟨ts, h1, rfl⟩ := map_some1 e
    have dx' := dx
    rw [Rep] at dx
    obtain ⟨a, vs, rfl, ha, _, px⟩ := dx
    cases ru
    obtain ⟨its, r1, e1, z⟩ := I.tuple (show SqT X.K H a vs from .inl (.inl ha))
    have hty : s.TypeIs (.ref a) "tuple" := by
      obtain ⟨o, ho, hcl, _⟩ := e1
      exact ⟨o, ho, hcl⟩
    refine call_repr_slot sb1.room.units0 hty F.slot_tuple_repr ?_
    refine wpAny_call (codeAny_call_builtin_own (Code.quiet_builtin _ (by decide +kernel)) F.entry_tuple_repr (F.slot_tuple_repr.check _ _ _ _ _ _ _ _ hty (F.args_tuple_repr_1 _) ?_))
    exact rp_tup (R := callEnd _ X.xe) (base := 0) h (under_tup sb1) (isGuard_tuple_repr _) hq c0 I tr hp ha dx' px h1 (by omega) (fun e s' q => q) fun s' tk w => by
      obtain ⟨H', I', sm⟩ := w
      exact ⟨_, _, rfl, .str _, H', I', ⟨_, rfl⟩, q H' sm⟩
  · cases e
end
end Dl
/-! further rules by data: a module's ints, chains of comparisons, max, sum, xs * n, xs[::-1], list(..) as a new list, pop -/
namespace Dl
open PySem PySem.Spec PyProof.Rows L2
section
variable {X : Cx} {T : CT} {e a b : Expr} {es : List Expr} {fe fa fb fc : FE} {pos : Pos}
/-- a module's int -/
theorem pd_gint {x : Str} {i : Int} {tk : Tok} (hm : X.mg x = some (.int i tk)) (hg : Gl X x := by rfl) (hd : (x == ("__debug__" : Str)) = false := by decide) : PE X (.Name x pos) (tD T (fC (.int i))) := pd_c (pe_glob (v := .int i) hg hm ⟨tk, rfl⟩ hd)
/-- a op b op' c -/
def fChain (g g' : D → D → Option D) (fa fb fc : FE) : FE := fun δ => (fa δ).bind fun (x, δ1) => (fb δ1).bind fun (y, δ2) => match g x y with
  | some (.bl true) => (fc δ2).bind fun (z, δ3) => (g' y z).map fun d => (d, δ3)
  | some (.bl false) => some (.bl false, δ2)
  | _ => none
theorem chain_imp {r r' : R2} {g g' : D → D → Option D} (hv : OpV T r g) (hv' : OpV T r' g') {σ : L2.St} {H : Hp} {Q : VK} (h : tD T (fChain g g' fa fb fc) σ H Q) : tChain r r' (tD T fa) (tD T fb) (tD T fc) σ H Q := by
  obtain ⟨S0, δ, d, δ', ok, e, q⟩ := h
  obtain ⟨x, δ1, e1, e⟩ := bind_some2 e
  obtain ⟨y, δ2, e2, e⟩ := bind_some2 e
  refine ⟨S0, δ, x, δ1, ok, e1, fun vx H1 ok1 s1 r1 => ⟨S0, δ1, y, δ2, ok1, e2, fun vy H2 ok2 s2 r2 => ?_⟩⟩
  dsimp only at e
  split at e
  · rename_i hg
    obtain ⟨z, δ3, e3, e⟩ := bind_some2 e
    obtain ⟨w, e4, e5⟩ := map_some1 e
    cases e5
    refine hv (Av S0 σ δ2) x y vx vy H2 (.bl true) _ (fun b z => ok2.trk z) (s2.rep r1) r2 hg fun v H3 sm rv => ⟨true, rep_bl rv, ?_⟩
    rw [if_pos rfl]
    have ok3 := ok2.same sm
    refine ⟨S0, δ2, z, δ3, ok3, e3, fun vz H4 ok4 s4 r4 => ?_⟩
    have st := (s1.trans s2).trans ((Step.same sm).trans s4)
    refine hv' (Av S0 σ δ3) y z vy vz H4 d _ (fun b z => ok4.trk z) (s4.rep (r2.same sm)) r4 e4 fun v H5 sm5 rv5 => q v H5 (ok4.same sm5) (st.trans (Step.same sm5)) rv5
  · rename_i hg
    cases e
    refine hv (Av S0 σ δ') x y vx vy H2 (.bl false) _ (fun b z => ok2.trk z) (s2.rep r1) r2 hg fun v H3 sm rv => ⟨false, rep_bl rv, ?_⟩
    rw [if_neg Bool.false_ne_true]
    exact q _ H3 (ok2.same sm) ((s1.trans s2).trans (Step.same sm)) (rep_lit rfl)
  · cases e
theorem pd_chain {c : Expr} {op op' : CmpOp} {r r' : R2} {g g' : D → D → Option D} (ho : OpR X (compareOp op) r) (ho' : OpR X (compareOp op') r') (hv : OpV T r g) (hv' : OpV T r' g') (ha : PE X a (tD T fa)) (hb : PE X b (tD T fb)) (hc : PE X c (tD T fc)) (hm : lastMarks [op, op'] [b, c] = false := by with_unfolding_all rfl) :
    PE X (.Compare a [op, op'] [b, c] pos) (tD T (fChain g g' fa fb fc)) := PE.imp (pe_chain ho ho' ha hb hc hm) fun σ H Q h => chain_imp hv hv' h
theorem pt_chainD {c : Expr} {op op' : CmpOp} {r r' : R2} {g g' : D → D → Option D} (ho : OpR X (compareOp op) r) (ho' : OpR X (compareOp op') r') (hv : OpV T r g) (hv' : OpV T r' g') (ha : PE X a (tD T fa)) (hb : PE X b (tD T fb)) (hc : PE X c (tD T fc)) (hm : lastMarks [op, op'] [b, c] = false := by with_unfolding_all rfl) :
    PT X (.Compare a [op, op'] [b, c] pos) (tDt T (fB (fChain g g' fa fb fc))) := PT.imp (pt_chain ho ho' ha hb hc hm) fun σ H Q ⟨S0, δ, d, δ', ok, e, q⟩ => by
  refine chain_imp hv hv' ⟨S0, δ, .bl d, δ', ok, fB_some e, fun v H' ok' s r => ⟨d, rep_bl r, q H' ok' s⟩⟩
/-- the ints of a list -/
def intsOf : List D → Option (List Int)
  | [] => some []
  | .int i :: ds => (intsOf ds).map fun is => i :: is
  | _ => none
theorem ints_reps {H : Hp} {S : Addr → Prop} : ∀ {ds : List D} {vs : List V} {is : List Int}, Reps T H S ds vs → intsOf ds = some is → vs = is.map V.int
  | [], vs, is, r, e => by rw [Reps] at r; subst r; simp [intsOf] at e; subst e; rfl
  | .int i :: ds, vs, is, r, e => by
    rw [Reps] at r
    obtain ⟨v, w, rfl, r1, r2⟩ := r
    obtain ⟨js, e1, rfl⟩ := map_some1 e
    rw [rep_int r1, ints_reps r2 e1]; rfl
  | .non :: _, _, _, _, e => by simp [intsOf] at e
  | .bl _ :: _, _, _, _, e => by simp [intsOf] at e
  | .str _ :: _, _, _, _, e => by simp [intsOf] at e
  | .lst _ :: _, _, _, _, e => by simp [intsOf] at e
  | .tup _ :: _, _, _, _, e => by simp [intsOf] at e
  | .obj _ _ :: _, _, _, _, e => by simp [intsOf] at e
  | .cls _ :: _, _, _, _, e => by simp [intsOf] at e
  | .scr _ :: _, _, _, _, e => by simp [intsOf] at e
def funSum : List D → Option D
  | [.lst ds] => (intsOf ds).map fun is => .int is.sum
  | _ => none
theorem callv_sum {K : PySem.W.Frag} : CallV T (rSum K) funSum := by
  intro S ds vs H d Q tr r e q
  unfold funSum at e
  split at e
  · obtain ⟨is, e1, rfl⟩ := map_some1 e
    rw [Reps] at r
    obtain ⟨v, r2, rfl, r3, r4⟩ := r
    rw [Reps] at r4; subst r4
    rw [Rep] at r3
    obtain ⟨a, ws, rfl, ha, _, rs⟩ := r3
    exact ⟨a, is, rfl, .of (by rw [← ints_reps rs e1]; exact ha), q _ H (Same.refl _) (rep_lit rfl)⟩
  · cases e
/-- the greatest of a list -/
def topOf : List Int → Option Int
  | [] => none
  | [i] => some i
  | i :: is => (topOf is).map fun j => if j > i then j else i
theorem topOf_is : ∀ {is : List Int} {m : Int}, topOf is = some m → ∀ z, z ∈ is → (∀ y, y ∈ is → y ≤ z) → z = m
  | [i], m, h, z, hz, _ => by simp [topOf] at h hz; omega
  | i :: j :: is, m, h, z, hz, hm => by
    obtain ⟨t, e, rfl⟩ := map_some1 h
    have mem : ∀ {l : List Int} {t : Int}, topOf l = some t → t ∈ l := by
      intro l
      induction l with
      | nil => intro t e; simp [topOf] at e
      | cons a l ih =>
        intro t e
        cases l with
        | nil => simp [topOf] at e; simp [e]
        | cons b l =>
          obtain ⟨u, e1, rfl⟩ := map_some1 e
          have := ih e1
          split
          · exact List.mem_cons_of_mem _ this
          · exact List.mem_cons_self ..
    have lt := mem e
    have b1 := hm i (List.mem_cons_self ..)
    have b2 := hm t (List.mem_cons_of_mem _ lt)
    rcases List.mem_cons.mp hz with rfl | hz
    · split <;> omega
    · have := topOf_is e z hz fun y hy => hm y (List.mem_cons_of_mem _ hy)
      split <;> omega
def funMaxL : List D → Option D
  | [.lst ds] => (intsOf ds).bind fun is => (topOf is).map .int
  | _ => none
theorem callv_maxL {K : PySem.W.Frag} : CallV T (rMax K) funMaxL := by
  intro S ds vs H d Q tr r e q
  unfold funMaxL at e
  split at e
  · obtain ⟨is, e1, e2⟩ := bind_some1 e
    obtain ⟨m, e3, rfl⟩ := map_some1 e2
    rw [Reps] at r
    obtain ⟨v, r2, rfl, r3, r4⟩ := r
    rw [Reps] at r4; subst r4
    rw [Rep] at r3
    obtain ⟨a, ws, rfl, ha, _, rs⟩ := r3
    refine ⟨a, is, rfl, .of (by rw [← ints_reps rs e1]; exact ha), ?_, fun z hz hm => ?_⟩
    · cases is with
      | nil => simp [topOf] at e3
      | cons _ _ => simp
    · rw [topOf_is e3 z hz hm]
      exact q _ H (Same.refl _) (rep_lit rfl)
  · cases e
/-- xs * n -/
def gRep : D → D → Option D
  | .lst ds, .int k => if -(2 ^ 63) ≤ k ∧ k < 2 ^ 63 ∧ ds.length * k.toNat ≤ big then some (.lst (List.replicate k.toNat ds).flatten) else none
  | _, _ => none
theorem reps_flat {H : Hp} {S : Addr → Prop} {ds : List D} {vs : List V} (r : Reps T H S ds vs) : ∀ n : Nat, Reps T H S (List.replicate n ds).flatten (List.replicate n vs).flatten
  | 0 => Reps.nil
  | n + 1 => by
    rw [List.replicate_succ, List.replicate_succ, List.flatten_cons, List.flatten_cons]
    exact r.append (reps_flat r n)
theorem opv_rep : OpV T rRep gRep := by
  intro S x y vx vy H d Q tr rx ry e q
  unfold gRep at e
  split at e
  · rename_i ds k
    obtain ⟨⟨h1, h2, h3⟩, rfl⟩ := ite_some e
    rw [Rep] at rx
    obtain ⟨a, vs, rfl, ha, _, r⟩ := rx
    rw [rep_int ry]
    refine ⟨a, k, vs, rfl, rfl, ha, h1, h2, by rw [r.length]; exact big_line h3, fun p hp => ?_⟩
    have := fresh_rep tr hp (reps_flat r k.toNat)
    exact q _ _ this.1 this.2
  · cases e
/-- e[::-1], a new list -/
def fRev (f : FE) : FA := fun δ => (f δ).bind fun (d, δ1) => match d with
  | .lst ds => some (ds.reverse, δ1)
  | _ => none
theorem pf_rev {k : Nat} {p1 p2 p3 : Pos} (he : PE X e (tD T fe)) : PE X (.Subscript e (.Slice none none (some (.UnaryOp .USub (.Constant (.int 1) k p1) p2)) p3) pos) (tF T (fRev fe)) := PE.imp (pe_revL he) fun σ H Q ⟨S0, δ, ds, δ', ok, e, q⟩ => by
  obtain ⟨d, δ1, e1, e2⟩ := bind_some2 e
  dsimp only at e2
  split at e2
  · rename_i es
    cases e2
    refine ⟨S0, δ, .lst es, δ', ok, e1, fun v H1 ok1 s1 r1 => ?_⟩
    rw [Rep] at r1
    obtain ⟨a, vs, rfl, ha, _, rs⟩ := r1
    exact ⟨a, vs, rfl, .of ha, fun p hp => q p _ H1 ok1 s1 hp rs.reverse⟩
  · cases e2
/-- list(e), a new list -/
def fLof (fa : FA) : FA := fun δ => (fa δ).bind fun (ds, δ1) => match ds with
  | [.lst es] => some (es, δ1)
  | [.tup es] => some (es, δ1)
  | _ => none
theorem pf_lof {p : Pos} {fa : FA} (hm : X.mg "list" = none) (ha : PA X (e :: es) (tDs T fa)) (hg : Gl X "list" := by rfl)
    (he : starEach (e :: es) X.env = (false, eval e X.env) :: starEach es X.env := by rfl) (hpl : (backTo pos (starEach es X.env)).any (·.1) = false := by rfl) : PE X (.Call (.Name "list" p) (e :: es) [] pos) (tF T (fLof fa)) :=
  PE.imp (pe_callTy call_list_of hg hm rfl ha (by decide) (by decide) he hpl) fun σ H Q ⟨S0, δ, ds, δ', ok, e, q⟩ => by
  obtain ⟨ds1, δ1, e1, e2⟩ := bind_some2 e
  dsimp only at e2
  split at e2
  · rename_i es'
    cases e2
    refine ⟨S0, δ, _, δ', ok, e1, fun vs H1 ok1 s1 r1 => ?_⟩
    rw [Reps] at r1
    obtain ⟨v, w, rfl, r2, r3⟩ := r1
    rw [Reps] at r3; subst r3
    rw [Rep] at r2
    obtain ⟨a, ws, rfl, ha, _, rs⟩ := r2
    exact ⟨a, ws, rfl, .inl (.of ha), fun l hl => q l _ H1 ok1 s1 hl rs⟩
  · rename_i es'
    cases e2
    refine ⟨S0, δ, _, δ', ok, e1, fun vs H1 ok1 s1 r1 => ?_⟩
    rw [Reps] at r1
    obtain ⟨v, w, rfl, r2, r3⟩ := r1
    rw [Reps] at r3; subst r3
    rw [Rep] at r2
    obtain ⟨a, ws, rfl, ha, _, rs⟩ := r2
    exact ⟨a, ws, rfl, .inr (.inl (.inl ha)), fun l hl => q l _ H1 ok1 s1 hl rs⟩
  · cases e2
/-- x.pop() as a statement -/
def sPop (i : Nat) : FS := fun δ => match δ[i]? with
  | some (.own w xs) => if isL w = true ∧ xs ≠ [] then some (.nx (δ.set i (.own w xs.dropLast))) else none
  | _ => none
theorem reps_dropLast {H : Hp} {S : Addr → Prop} {ds : List D} {vs : List V} (r : Reps T H S ds vs) : Reps T H S ds.dropLast vs.dropLast := by
  rw [List.dropLast_eq_take, List.dropLast_eq_take, r.length]
  exact r.take _
theorem st_pop {i : Nat} {y : Str} {py pa pe : Pos} (hN : X.N[i]? = some y := by rfl) (hv : Vis X.env.scope y := by first | exact Or.inl rfl | exact Or.inr (Or.inl rfl) | exact Or.inr (Or.inr rfl)) (hdy : (y == ("__debug__" : Str)) = false := by decide) (hcd : (y == ("__classdict__" : Str)) = false := by decide)
    (h : ∀ {ty : TE}, PE X (.Name y py) ty → PE X (.Call (.Attribute (.Name y py) "pop" pa) [] [] pe) (tBM0 X.K "list" rPop ty)) (hs : swapsWith (.Call (.Attribute (.Name y py) "pop" pa) [] [] pe) none pos.line X.env = pure false := by rfl) :
    PS X (.Expr (.Call (.Attribute (.Name y py) "pop" pa) [] [] pe) pos) (tSt T (sPop i)) := PS.imp (ps_expr (h (pe_var hN hv hdy hcd)) hs) fun E σ H ⟨S0, δ, r, ok, e, q⟩ => by
  unfold sPop at e
  split at e
  case h_2 => cases e
  rename_i w xs hw
  obtain ⟨⟨hp, hne⟩, e2⟩ := ite_some e
  subst e2
  obtain ⟨a, us, ea, ha0, r0, _⟩ := ok.ow i w xs hw
  rw [isL_ho hp] at ha0
  have lv := r0.length
  have hlt : us.length - 1 < us.length := by
    have : xs.length ≠ 0 := fun z => hne (List.length_eq_zero_iff.mp z)
    omega
  refine ⟨_, ea, .inl ⟨rfl, _, SqL.of ha0⟩, a, us, us[us.length - 1], rfl, rfl, ha0, List.getElem?_eq_getElem hlt, ?_⟩
  have na : Av S0 σ δ a := .inr ⟨i, w, xs, hw, ea⟩
  have hk : ∀ b o, H b = some o → b ≠ a → upd H a (.lst us.dropLast) b = some o := fun b o e ne => by rw [upd_ne ne]; exact e
  obtain ⟨ok2, s2⟩ := ok.change (H' := upd H a (.lst us.dropLast)) (us := us.dropLast) hw ea hk (by rw [isL_ho hp]; exact upd_same) ((reps_dropLast r0).move (fun b o e n => hk b o e fun z => n (by rw [z]; exact na)) fun b z => .inl z)
  exact q _ _ ok2 s2
end
end Dl
namespace Dl
open PySem PySem.Spec PyProof.Rows L2
section
variable {X : Cx} {T : CT} {e a b : Expr} {es : List Expr} {fe fb fc : FE} {pos : Pos}
/-- two names, the first gets a new list of its own -/
def sParF (i j : Nat) (fa : FA) (fb : FE) : FS := fun δ => (fa δ).bind fun (zs, δ1) => (fb δ1).bind fun (y, δ2) => some (.nx ((δ2.set i (.own .mine zs)).set j (.val y)))
theorem st_parF (i j : Nat) {x y : Str} {fa : FA} {px py pt : Pos} {kt k2 pt2} (hc : X.calm = true) (hN : X.N.Nodup) (ha : PE X a (tF T fa)) (hb : PE X b (tD T fb)) (hij : i ≠ j := by decide) (hi : X.N[i]? = some x := by rfl) (hj : X.N[j]? = some y := by rfl)
    (hx : X.env.scope.names.lookup x = some .local := by rfl) (hy : X.env.scope.names.lookup y = some .local := by rfl)
    (h1 : starEach [a, b] X.env = (false, eval a X.env) :: starEach [b] X.env := by rfl) (h2 : starEach [b] X.env = (false, eval b X.env) :: starEach [] X.env := by rfl)
    (hw : swappedStores [.Tuple [.Name x px, .Name y py] kt pt] (.Tuple [a, b] k2 pt2) X.env = pure (some [x, y]) := by rfl)
    (hs : swapsWithSole [.Tuple [.Name x px, .Name y py] kt pt] (.Tuple [a, b] k2 pt2) pos.line X.env = pure false := by rfl) :
    PS X (.Assign [.Tuple [.Name x px, .Name y py] kt pt] (.Tuple [a, b] k2 pt2) pos) (tSt T (sParF i j fa fb)) := PS.imp (ps_par hc hN hi hj hij hx hy (pa_cons ha (pa_cons hb pa_nil h2) h1) hw hs) fun E σ H ⟨S0, δ, r, ok, e, q⟩ => by
  obtain ⟨zs, δ1, e1, e2⟩ := bind_some2 e
  obtain ⟨dy, δ2, e3, e4⟩ := bind_some2 e2
  cases e4
  refine ⟨S0, δ, zs, δ1, ok, e1, fun p vs H1 ok1 s1 hp r1 => ?_⟩
  obtain ⟨okA, nA⟩ := ok1.apart (D := p) (o := .lst vs) hp
  refine ⟨orD S0 p, δ1, dy, δ2, okA, e3, fun v H2 ok2 s2 r2 => ?_⟩
  have hS : ¬ S0 p := fun z => by obtain ⟨o, e⟩ := ok1.tr p z; rw [hp] at e; cases e
  have h2p : H2 p = some (.lst vs) := s2.keep p _ upd_same nA
  have n2 : ¬ ownAt σ δ2 p := fun z => (s2.own p z).elim nA fun q => by rw [upd_same] at q; cases q
  obtain ⟨ok3, mv⟩ := ok2.erase hS n2
  have sm : Same H1 (upd H1 p (.lst vs)) := fun b o e => by rw [upd_ne (ne_of_none e hp)]; exact e
  have s3 : Step σ δ1 H1 σ δ2 (er H2 p) := ((Step.same sm).trans s2).erase hp
  have rr := mv (Reps.cons r2 Reps.nil)
  rw [Reps] at rr
  obtain ⟨v', w', ev, rv, _⟩ := rr
  cases ev
  obtain ⟨ok4, s4⟩ := ok3.storeOwn (i := i) er_self (s3.reps r1)
  obtain ⟨ok5, s5⟩ := ok4.store (i := j) (s4.rep rv)
  rw [upd_er h2p] at ok5 s5 s4
  exact ⟨.ref p, v, rfl, q _ _ ok5 (((s1.trans s3).trans s4).trans s5)⟩

/-- x op b, x a list of its own, which it stays -/
def fCmpO (i : Nat) (g : D → D → Option D) (fb : FE) : FE := fun δ => if isOwnL δ[i]? = true then (fb δ).bind fun (d, δ1) => match δ1[i]? with
    | some (.own w xs) => if isL w = true then (match g (.lst xs) d with
      | some (.bl r) => some (.bl r, δ1)
      | _ => none) else none
    | _ => none
  else none
theorem own_seen {S0 : Addr → Prop} {σ : L2.St} {δ : Es} {H : Hp} {i : Nat} {w : Ow} {xs : List D} (ok : Ok T S0 σ δ H) (hw : δ[i]? = some (.own w xs)) (hL : isL w = true) : ∃ a vs, σ[i]? = some (some (.ref a)) ∧ H a = some (.lst vs) ∧ Rep T H (fun b => Av S0 σ δ b ∧ b ≠ a) (.lst xs) (.ref a) := by
  obtain ⟨a, vs, e1, e2, e3, _⟩ := ok.ow i w xs hw
  rw [isL_ho hL] at e2
  refine ⟨a, vs, e1, e2, ?_⟩
  rw [Rep]
  exact ⟨a, vs, rfl, e2, fun z => z.2 rfl, e3.sub fun b z => z.1⟩
theorem cmpO_imp {r : R2} {g : D → D → Option D} {i : Nat} (hv : OpV T r g) {σ : L2.St} {H : Hp} {Q : VK} (h : tD T (fCmpO i g fb) σ H Q) : tOp r (tVar i) (tD T fb) σ H Q := by
  obtain ⟨S0, δ, d, δ', ok, e, q⟩ := h
  unfold fCmpO at e
  by_cases h0 : isOwnL δ[i]? = true
  case neg => rw [if_neg h0] at e; cases e
  rw [if_pos h0] at e
  obtain ⟨d1, δ1, e1, e2⟩ := bind_some2 e
  obtain ⟨w0, xs0, e0, w0L⟩ := ownL_of h0
  obtain ⟨a, us, ea, ha0, _⟩ := ok.ow i w0 xs0 e0
  dsimp only at e2
  split at e2
  case h_2 => cases e2
  rename_i w xs hw
  obtain ⟨hp, e2⟩ := ite_some' e2
  split at e2
  case h_2 => cases e2
  rename_i r0 e3
  cases e2
  refine ⟨_, ea, S0, δ, d1, δ', ok, e1, fun v H1 ok1 s1 r1 => ?_⟩
  obtain ⟨b, vs, q1, q2, q3⟩ := own_seen ok1 hw hp
  rw [ea] at q1; cases q1
  exact hv _ (.lst xs) d1 (.ref a) v H1 (.bl r0) _ (fun b z => ok1.trk z.1) q3 (r1.sub fun b z => z.1) e3 fun v2 H2 sm rv => by
    rw [rep_bl rv]
    exact q _ H2 (ok1.same sm) (s1.trans (Step.same sm)) (rep_lit rfl)
theorem pd_cmpO {op : CmpOp} {r : R2} {g : D → D → Option D} {i : Nat} {y : Str} {py : Pos} (ho : OpR X (compareOp op) r) (hv : OpV T r g) (hb : PE X b (tD T fb)) (hm : behindInMarks op b = false) (hN : X.N[i]? = some y := by rfl) (hvis : Vis X.env.scope y := by first | exact Or.inl rfl | exact Or.inr (Or.inl rfl) | exact Or.inr (Or.inr rfl))
    (hdy : (y == ("__debug__" : Str)) = false := by decide) (hcd : (y == ("__classdict__" : Str)) = false := by decide) : PE X (.Compare (.Name y py) [op] [b] pos) (tD T (fCmpO i g fb)) := PE.imp (pe_cmpR ho (pe_var hN hvis hdy hcd) hb hm) fun σ H Q h => cmpO_imp hv h
theorem pt_cmpO {op : CmpOp} {r : R2} {g : D → D → Option D} {i : Nat} {y : Str} {py : Pos} (ho : OpR X (compareOp op) r) (hv : OpV T r g) (hb : PE X b (tD T fb)) (hm : behindInMarks op b = false) (hN : X.N[i]? = some y := by rfl) (hvis : Vis X.env.scope y := by first | exact Or.inl rfl | exact Or.inr (Or.inl rfl) | exact Or.inr (Or.inr rfl))
    (hdy : (y == ("__debug__" : Str)) = false := by decide) (hcd : (y == ("__classdict__" : Str)) = false := by decide) : PT X (.Compare (.Name y py) [op] [b] pos) (tDt T (fB (fCmpO i g fb))) := PT.imp (pt_cmpR ho (pe_var hN hvis hdy hcd) hb hm) fun σ H Q ⟨S0, δ, d, δ', ok, e, q⟩ => by
  refine cmpO_imp hv ⟨S0, δ, .bl d, δ', ok, fB_some e, fun v H' ok' s r => ⟨d, rep_bl r, q H' ok' s⟩⟩
end
end Dl
/-! a new list of new lists -/
namespace Dl
open PySem PySem.Spec PyProof.Rows L2
/-- the lists at ps are new since H, unlike, apart from S, and bear xss -/
structure News (T : CT) (H H1 : Hp) (S : Addr → Prop) (xss : List (List D)) (ps : List Addr) : Prop where
  len : ps.length = xss.length
  nd : ps.Nodup
  at_ : ∀ (i : Nat) p xs, ps[i]? = some p → xss[i]? = some xs → H p = none ∧ ¬ S p ∧ ∃ ws, H1 p = some (.lst ws) ∧ Reps T H1 S xs ws
theorem News.nil {T : CT} {H H1 : Hp} {S : Addr → Prop} : News T H H1 S [] [] := ⟨rfl, List.nodup_nil, fun i p xs h => by simp at h⟩
theorem News.reps {T : CT} {H H1 : Hp} {S : Addr → Prop} : ∀ {xss : List (List D)} {ps : List Addr}, News T H H1 S xss ps → Reps T H1 S (xss.map D.lst) (ps.map V.ref)
  | [], [], _ => Reps.nil
  | [], p :: ps, n => by have := n.len; simp at this
  | xs :: xss, [], n => by have := n.len; simp at this
  | xs :: xss, p :: ps, n => by
    obtain ⟨_, h2, ws, h3, h4⟩ := n.at_ 0 p xs rfl rfl
    refine Reps.cons ?_ (News.reps (xss := xss) (ps := ps) ⟨by have := n.len; simpa using this, (List.nodup_cons.mp n.nd).2, fun i q ys e1 e2 => n.at_ (i + 1) q ys (by simpa using e1) (by simpa using e2)⟩)
    rw [Rep]
    exact ⟨p, ws, rfl, h3, h2, h4⟩
theorem News.mem {T : CT} {H H1 : Hp} {S : Addr → Prop} {xss : List (List D)} {ps : List Addr} (n : News T H H1 S xss ps) {p : Addr} (h : p ∈ ps) : H p = none ∧ ¬ S p ∧ ∃ ws, H1 p = some (.lst ws) := by
  obtain ⟨i, hi⟩ := List.getElem?_of_mem h
  obtain ⟨hl, _⟩ := List.getElem?_eq_some_iff.mp hi
  have hx : i < xss.length := by rw [← n.len]; exact hl
  obtain ⟨h1, h2, ws, h3, _⟩ := n.at_ i p _ hi (List.getElem?_eq_getElem hx)
  exact ⟨h1, h2, ws, h3⟩
theorem News.move {T : CT} {H H1 H2 : Hp} {S S' : Addr → Prop} {xss : List (List D)} {ps : List Addr} (n : News T H H1 S xss ps) (hk : ∀ b o, H1 b = some o → ¬ S b → H2 b = some o) (hs : ∀ b, S' b → S b ∨ H1 b = none) : News T H H2 S' xss ps :=
  ⟨n.len, n.nd, fun i p xs e1 e2 => by
    obtain ⟨h1, h2, ws, h3, h4⟩ := n.at_ i p xs e1 e2
    refine ⟨h1, fun z => ?_, ws, hk _ _ h3 h2, h4.move hk hs⟩
    rcases hs _ z with z | z
    · exact h2 z
    · rw [h3] at z; cases z⟩
theorem News.snoc {T : CT} {H H1 : Hp} {S : Addr → Prop} {xss : List (List D)} {ps : List Addr} {xs : List D} {p : Addr} {ws : List V} (n : News T H H1 S xss ps) (hp : H p = none) (hS : ¬ S p) (h1 : H1 p = some (.lst ws)) (r : Reps T H1 S xs ws) (hn : p ∉ ps) : News T H H1 S (xss ++ [xs]) (ps ++ [p]) := by
  refine ⟨by simp [n.len], ?_, fun i q ys e1 e2 => ?_⟩
  · rw [List.nodup_append]
    exact ⟨n.nd, by simp, fun a ha b hb => by simp at hb; subst hb; exact fun z => hn (z ▸ ha)⟩
  · by_cases hi : i < ps.length
    · rw [List.getElem?_append_left hi] at e1
      rw [List.getElem?_append_left (by rw [← n.len]; exact hi)] at e2
      exact n.at_ i q ys e1 e2
    · rw [List.getElem?_append_right (by omega)] at e1
      rw [List.getElem?_append_right (by rw [← n.len]; omega), ← n.len] at e2
      obtain ⟨h, _⟩ := List.getElem?_eq_some_iff.mp e1
      have h0 : i - ps.length = 0 := by simp at h; omega
      rw [h0] at e1 e2
      simp at e1 e2
      subst e1 e2
      exact ⟨hp, hS, ws, h1, r⟩
abbrev FL := Es → Option (List (List D) × Es)
def tNs (T : CT) (f : FL) : TE := fun σ H Q => ∃ S0 δ xss δ', Ok T S0 σ δ H ∧ f δ = some (xss, δ') ∧ ∀ a ps H1, Ok T S0 σ δ' H1 → Step σ δ H σ δ' H1 → H1 a = none → H a = none → News T H H1 (Av S0 σ δ') xss ps → Q (.ref a) (upd H1 a (.lst (ps.map V.ref)))
def lcN (ft : FG) (fc : FT) (fe : FA) (vs : List Nat) : List D → List (List D) → Es → Option (List (List D) × Es)
  | [], acc, δ => some (acc, δ)
  | d :: ds, acc, δ => (ft d δ).bind fun δ1 => (fc δ1).bind fun (b, δ2) => if b = true then (fe δ2).bind fun (y, δ3) => if acc.length ≤ big then lcN ft fc fe vs ds (acc ++ [y]) (wipeE δ3 vs) else none
    else lcN ft fc fe vs ds acc (wipeE δ2 vs)
def fLcN (fI : FA) (ft : FG) (fc : FT) (fe : FA) (vs : List Nat) : FL := fun δ => (fI δ).bind fun (ds, δ1) => lcN ft fc fe vs ds [] (wipeE δ1 vs)
section
variable {T : CT}
theorem lcN_reading {fI : FA} {ft : FG} {fc : FT} {fe : FA} {vs : List Nat} {σ : L2.St} {H : Hp} {Q : VK} (h : tNs T (fLcN fI ft fc fe vs) σ H Q) : tLc (tIt T fI) (tTg T vs ft) (tDt T fc) (tF T fe) vs σ H Q := by
  obtain ⟨S0, δ, res, δ', ok, e, q⟩ := h
  obtain ⟨ds, δ1, e1, e2⟩ := bind_some2 e
  refine ⟨S0, δ, ds, δ1, ok, e1, fun J H1 ok1 s1 run A hA => ?_⟩
  have hS : ¬ S0 A := fun z => by obtain ⟨o, e⟩ := ok1.tr A z; rw [hA] at e; cases e
  have hA0 : H A = none := by
    cases e : H A with
    | none => rfl
    | some o => obtain ⟨o', e'⟩ := s1.trk A o e; rw [hA] at e'; cases e'
  obtain ⟨okw, sw⟩ := ok1.wipe vs
  obtain ⟨okd, nd⟩ := okw.apart (D := A) (o := .lst []) hA
  refine ⟨fun i m H' => m = ds.length - i ∧ i ≤ ds.length ∧ ∃ δi outs ps, Ok T (orD S0 A) (L2.wipe σ vs) δi H' ∧ Step σ δ1 H1 (L2.wipe σ vs) δi H' ∧ H' A = some (.lst (ps.map V.ref)) ∧ News T H1 H' (Av (orD S0 A) (L2.wipe σ vs) δi) outs ps ∧ ¬ ownAt (L2.wipe σ vs) δi A ∧
      (∀ i ∈ vs, ∀ s, δi[i]? = some s → s = .un) ∧ lcN ft fc fe vs (ds.drop i) outs δi = some (res, δ'),
    ⟨ds.length, by simp, Nat.zero_le _, wipeE δ1 vs, [], [], okd, sw.poke hA, upd_same, News.nil, nd, fun i hi s hs => wipeE_un hi hs, e2⟩, ?_⟩
  rintro i m H' ⟨rfl, hle, δi, outs, ps, oki, si, hAi, ri, ni, ui, ei⟩
  have pers : ∀ d v, Rep T H1 (Av S0 σ δ1) d v → Rep T H' (Av (orD S0 A) (L2.wipe σ vs) δi) d v := fun d v z => z.move (fun b o e n => si.keep b o e fun w => n (.inr w)) fun b w => w.elim (fun w => w.elim (fun w => .inl (.inl w)) fun w => .inr (by rw [w]; exact hA)) fun w => (si.own b w).elim (fun w => .inl (.inr w)) .inr
  obtain ⟨r1, r2⟩ := run _ H' (fun b z => oki.trk z) pers
  by_cases hlt : i < ds.length
  · refine .inr ⟨(r1 i _ (List.getElem?_eq_getElem hlt)).1, fun H2 => ∃ δi outs ps, Ok T (orD S0 A) (L2.wipe σ vs) δi H2 ∧ Step σ δ1 H1 (L2.wipe σ vs) δi H2 ∧ H2 A = some (.lst (ps.map V.ref)) ∧ News T H1 H2 (Av (orD S0 A) (L2.wipe σ vs) δi) outs ps ∧ ¬ ownAt (L2.wipe σ vs) δi A ∧
      (∀ i ∈ vs, ∀ s, δi[i]? = some s → s = .un) ∧ lcN ft fc fe vs (ds.drop (i + 1)) outs δi = some (res, δ'), fun H2 z => ⟨ds.length - (i + 1), by omega, rfl, hlt, z⟩, fun x H2 hy => ?_⟩
    obtain ⟨sm, rx⟩ := (r1 i _ (List.getElem?_eq_getElem hlt)).2 x H2 hy
    replace oki := oki.same sm
    replace si := si.trans (Step.same sm)
    replace hAi := sm _ _ hAi
    replace ri := ri.move (fun b o e _ => sm b o e) fun b z => .inl z
    rw [drop_cons hlt] at ei
    obtain ⟨δa, e3, e4⟩ := bind_some1 ei
    obtain ⟨b, δb, e5, e6⟩ := bind_some2 e4
    refine ⟨orD S0 A, δi, _, δa, oki, rx, e3, fun σa Ha ag oka sa => ?_⟩
    have hw : L2.wipe σa vs = L2.wipe σ vs := by
      rw [wipe_eq (vs := vs) (σ := L2.wipe σ vs) (σ1 := σa) ag.1 fun j hj => by rw [ag.2 j hj, wipe_get vs (L2.wipe σ vs), if_neg (fun z => hj z.1)]]
      exact wipe_eq (by rw [L2.wipe_length]) fun j _ => rfl
    refine ⟨hw, orD S0 A, δa, b, δb, oka, e5, fun Hb okb sb => ?_⟩
    have nown : ∀ {σx : L2.St} {δx : Es} {Hx : Hp}, Step (L2.wipe σ vs) δi H2 σx δx Hx → ¬ ownAt σx δx A := fun s z => (s.own A z).elim ni fun w => by rw [hAi] at w; cases w
    have news : ∀ {σx : L2.St} {δx : Es} {Hx : Hp}, Step (L2.wipe σ vs) δi H2 σx δx Hx → News T H1 Hx (Av (orD S0 A) σx δx) outs ps := fun s => ri.move (fun b o e n => s.keep b o e fun z => n (.inr z)) fun b z => z.elim (fun z => .inl (.inl z)) fun z => (s.own b z).elim (fun z => .inl (.inr z)) .inr
    cases b with
    | false =>
      dsimp only at e6
      show (if _ then _ else _)
      rw [if_neg Bool.false_ne_true] at e6 ⊢
      obtain ⟨okc, sc⟩ := okb.wipe vs
      rw [hw] at okc sc
      have st := (sa.trans sb).trans sc
      exact ⟨_, outs, ps, okc, si.trans st, st.keep A _ hAi ni, news st, nown st, fun i hi s hs => wipeE_un hi hs, e6⟩
    | true =>
      dsimp only at e6
      show (if _ then _ else _)
      rw [if_pos rfl] at e6 ⊢
      obtain ⟨y, δc, e7, e8⟩ := bind_some2 e6
      obtain ⟨hb, e8⟩ := ite_some' e8
      refine ⟨orD S0 A, δb, y, δc, okb, e7, fun p ws Hc okc sc hp ry => ?_⟩
      have smp : Same Hc (upd Hc p (.lst ws)) := fun b o e => by rw [upd_ne (ne_of_none e hp)]; exact e
      have okp := okc.same smp
      have scp := sc.trans (Step.same smp)
      obtain ⟨okd, sd⟩ := okp.wipe vs
      rw [hw] at okd sd
      have st := ((sa.trans sb).trans scp).trans sd
      have stc := ((sa.trans sb).trans sc)
      have hAc := stc.keep A _ hAi ni
      have pA : p ≠ A := fun z => by rw [z, hAc] at hp; cases hp
      have nS : ¬ Av (orD S0 A) (L2.wipe σ vs) (wipeE δc vs) p := fun z => by
        obtain ⟨okd0, sd0⟩ := okc.wipe vs
        rw [hw] at okd0
        exact okd0.fresh hp z
      have pps : p ∉ ps := fun z => by
        obtain ⟨_, _, ws', h3⟩ := (news stc).mem z
        rw [hp] at h3; cases h3
      have pH1 : H1 p = none := by
        cases e : H1 p with
        | none => rfl
        | some o => obtain ⟨o', e'⟩ := (si.trans stc).trk p o e; rw [hp] at e'; cases e'
      have n1 := (news st).snoc (p := p) (xs := y) (ws := ws) pH1 nS upd_same ((sd.reps (ry.same smp))) pps
      have mv : ∀ b u, upd Hc p (.lst ws) b = some u → ¬ Av (orD S0 A) (L2.wipe σ vs) (wipeE δc vs) b → upd (upd Hc p (.lst ws)) A (.lst ((ps ++ [p]).map V.ref)) b = some u := fun b u e n => by rw [upd_ne (fun z => n (by rw [z]; exact .inl (.inr rfl)))]; exact e
      refine ⟨ps.map V.ref, smp _ _ hAc, by rw [List.length_map, ri.len]; exact big_line' hb, ?_⟩
      have eq : ps.map V.ref ++ [V.ref p] = (ps ++ [p]).map V.ref := by simp
      rw [eq]
      exact ⟨_, outs ++ [y], ps ++ [p], okd.poke (.inr rfl) (nown st), (si.trans st).poke hA, upd_same, n1.move mv fun b z => .inl z, nown st, fun i hi s hs => wipeE_un hi hs, e8⟩
  · have hi : i = ds.length := by omega
    subst hi
    rw [List.drop_length] at ei
    cases ei
    refine .inl ⟨r2, ?_⟩
    have hl : σ.length = (L2.wipe σ vs).length := by rw [L2.wipe_length]
    have ha : ∀ (i : Nat) s, δ'[i]? = some s → s ≠ .un → σ[i]? = (L2.wipe σ vs)[i]? := fun i s hs ns => by
      rw [wipe_get, if_neg]
      exact fun z => ns (ui i z.1 s hs)
    obtain ⟨ok2, s2⟩ := oki.agree hl ha
    have n2 : ¬ ownAt σ δ' A := fun z => (s2.own A z).elim ni fun w => by rw [hAi] at w; cases w
    obtain ⟨ok3, mvE⟩ := ok2.erase hS n2
    have s3 := (s1.trans ((si.trans s2).erase hA))
    have nw2 : News T H1 H' (Av (orD S0 A) σ δ') res ps := ri.move (fun b o e n => s2.keep b o e fun z => n (.inr z)) fun b z => z.elim (fun z => .inl (.inl z)) fun z => (s2.own b z).elim (fun z => .inl (.inr z)) .inr
    have nw3 : News T H (er H' A) (Av S0 σ δ') res ps := by
      refine ⟨nw2.len, nw2.nd, fun i p xs ea eb => ?_⟩
      obtain ⟨h1, h2, ws, h3, h4⟩ := nw2.at_ i p xs ea eb
      have pA : p ≠ A := fun z => h2 (by rw [z]; exact .inl (.inr rfl))
      refine ⟨?_, fun z => h2 (z.elim (fun z => .inl (.inl z)) .inr), ws, by rw [er_ne pA]; exact h3, mvE h4⟩
      cases e : H p with
      | none => rfl
      | some o => obtain ⟨o', e'⟩ := s1.trk p o e; rw [h1] at e'; cases e'
    have := q A ps (er H' A) ok3 s3 er_self hA0 nw3
    rw [upd_er hAi] at this
    exact this
end
end Dl
namespace Dl
open PySem PySem.Spec PyProof.Rows L2
/-- a def that gives a new list of new lists -/
def spN (T : CT) (n : Nat) (F : List D → Option (List (List D))) : Sp := fun vs H Q _ => ∃ S ds xss, (∀ b, S b → ∃ o, H b = some o) ∧ ds.length = n ∧ Reps T H S ds vs ∧ F ds = some xss ∧ ∀ a ps H1, Same H H1 → H1 a = none → H a = none → News T H H1 S xss ps → Q (.ref a) (upd H1 a (.lst (ps.map V.ref)))
def outN (m : Nat) (g : FL) (ds : List D) : Option (List (List D)) := (g (ini m ds)).map (·.1)
def asLst (F : List D → Option (List (List D))) : List D → Option D := fun ds => (F ds).map fun xss => .lst (xss.map D.lst)
section
variable {P : Program} {w : World} {K : PySem.W.Frag} {mg : Str → Option Value} {base : Heap} {T : CT}
theorem okN {x qual : Str} {st : Stmt} {f : Addr} {fd : FuncData} {N ps : List Str} {k m n : Nat} {g : FL} {e : Expr} {pos : Pos} (F : Fun K x qual st f fd) (S : FnScope N ps (defScope st)) (hN : N.length = m) (hps : ps.length = n) (hbd : defBody st = [.Return (some e) pos])
    (body : ∀ (cdv : Value) (A : Around) (outer : List PySem.Env) (s : Shared) (H : Hp) (E : XK), Quiet A → Room k (A.deeper (envOfC qual (defScope st) s.heap.objs.size f cdv)) → PE (cxOf CX0 P w K mg base N qual (defScope st) f cdv A outer s H E).nox e (tNs T g)) : FnG P w K mg base (k + 1) f fd ps (spN T n (outN m g)) := by
  subst hN hps
  obtain ⟨oc, od, kV, doc, pm, an, cdv, ct, osl, rfl, lk, hcd⟩ := F.ex
  refine fnG_of lk hcd S (fun vs H Q E h => ?_) (fun A outer s H vs Q E hq hr h => ?_)
  · obtain ⟨S, ds, d, _, hl, r, _⟩ := h
    rw [r.length, hl]
  · obtain ⟨S, ds, xs, tr, hl, r, eG, q⟩ := h
    unfold outN at eG
    obtain ⟨z, e1, e2⟩ := map_some1 eG
    obtain ⟨ys, δ'⟩ := z
    cases e2
    rw [hbd]
    refine ⟨_, pss_one (ps_ret (body cdv A outer s H E hq hr)), S, ini N.length ds, _, δ', ini_ok tr r, e1, fun a ps H1 ok1 s1 ha h0 rs => ?_⟩
    exact q a ps H1 (fun b o e => s1.keep b o e (ini_own b)) ha h0 (rs.move (fun _ _ e _ => e) fun b z => .inl (.inl z))
theorem FnG.asLst {f : Addr} {fd : FuncData} {ps : List Str} {k n : Nat} {F : List D → Option (List (List D))} (G : FnG P w K mg base k f fd ps (spN T n F)) : FnG P w K mg base k f fd ps (sp0 T n (asLst F)) := G.imp fun vs H Q E ⟨S, ds, d, tr, hl, r, eG, q⟩ => by
  obtain ⟨xss, e1, rfl⟩ := map_some1 eG
  refine ⟨S, ds, xss, tr, hl, r, e1, fun a ps H1 sm ha h0 nw => ?_⟩
  have sm1 : Same H1 (upd H1 a (.lst (ps.map V.ref))) := fun b o e => by rw [upd_ne (ne_of_none e ha)]; exact e
  refine q _ _ (sm.trans sm1) ?_
  rw [Rep]
  exact ⟨a, _, rfl, upd_same, fun z => (by obtain ⟨o, e⟩ := tr a z; rw [h0] at e; cases e), nw.reps.same sm1⟩
end
section
variable {X : Cx} {T : CT} {k c : Nat} {f C : Addr} {fd : FuncData} {ps : List Str} {o : Expr} {fo : FE}
theorem pn_lc {elt iter tg : Expr} {pos : Pos} {ifs : List Expr} {scope : Scope} {own : List (Str × Nat)} {fI : FA} {ft : FG} {fc : FT} {fe : FA} (hc : X.calm = true) (hN : X.N.Nodup) (ok : BlkOk X.N X.env.scope scope own) (hi : PI X tg iter (tIt T fI))
    (hg : ∀ (s : Shared) (H : Hp) (C : Addr) (cl : List (Str × Addr)) (fp : List Addr), PG (X.blk s H scope (compEnvC scope cl C X.env) fp) tg (tTg T (own.map (·.2)) ft)) (ht : ∀ (s : Shared) (H : Hp) (C : Addr) (cl : List (Str × Addr)) (fp : List Addr), PTs (X.blk s H scope (compEnvC scope cl C X.env) fp) ifs (tDt T fc))
    (he : ∀ (s : Shared) (H : Hp) (C : Addr) (cl : List (Str × Addr)) (fp : List Addr), PE (X.blk s H scope (compEnvC scope cl C X.env) fp) elt (tF T fe)) (hs : ∀ x, foldedSetIterable iter X.env x = pure x := by intro _; rfl) :
    PE X (.ListComp elt [⟨tg, iter, ifs, 0⟩] scope pos) (tNs T (fLcN fI ft fc fe (own.map (·.2)))) := PE.imp (pe_lc hc hN hi ok hg ht he hs) fun σ H Q h => lcN_reading h
/-- x = o.m(); x[0].append(None); x.append(None): what x is then is not spoken of -/
def sDeep (i c : Nat) (F : List D → Option (List (List D))) (fo : FE) : FS := fun δ => (fo δ).bind fun (d, δ1) => match d with
  | .obj c' fs => if c' = c ∧ i < δ1.length then (match F [.obj c' fs] with
    | some (xs :: xss) => if xs.length ≤ big ∧ xss.length + 1 ≤ big then some (.nx (δ1.set i .un)) else none
    | _ => none) else none
  | _ => none
theorem sts_deep {i : Nat} {x m : Str} {rest : List Stmt} {h : FS} {ns : List Str} {F : List D → Option (List (List D))} {py py2 py3 apos pos1 p1 pc psx pa2 pn pe2 p2 pa3 pn2 pe3 p3 : Pos} {k0} {k1} {k2} {pl : Sem Bool}
    (ho : PE X o (tD T fo)) (hT : T c = some (C, ns)) (hc : Cls X.K C) (hm : Meth X.K C m f) (G : FnG X.prog X.w X.K X.mg X.base k f fd ps (spN T 1 F)) (hq : Quiet X.A) (hr : Room k X.A) (hb : Binds X.K fd ps []) (hps : ps.length = 1) (hND : X.N.Nodup) (hrest : PSs X rest (tSt T h))
    (hb2 : ∀ {ty te : TE}, PE X (.Subscript (.Name x py2) (.Constant (.int 0) k0 pc) psx) ty → PE X (.Constant .none k1 pn) te → PE X (.Call (.Attribute (.Subscript (.Name x py2) (.Constant (.int 0) k0 pc) psx) "append" pa2) [.Constant .none k1 pn] [] pe2) (tBM X.K "list" rAppend ty (tCons te tNil)))
    (hb3 : ∀ {ty te : TE}, PE X (.Name x py3) ty → PE X (.Constant .none k2 pn2) te → PE X (.Call (.Attribute (.Name x py3) "append" pa3) [.Constant .none k2 pn2] [] pe3) (tBM X.K "list" rAppend ty (tCons te tNil)))
    (hN : X.N[i]? = some x := by rfl) (hlx : X.env.scope.names.lookup x = some .local := by rfl) (hmn : m ∉ ns := by decide +kernel)
    (hdy : (x == ("__debug__" : Str)) = false := by decide) (hcd : (x == ("__classdict__" : Str)) = false := by decide)
    (hpl : ((backTo pos1 (starEach [] X.env)).any (·.1) || (backToKw pos1 (keywordEach [] X.env)).any (·.1.isNone)) = false := by rfl)
    (ht : eval (.Call (.Attribute o m apos) [] [] pos1) X.env = (do
      let y ← eval o X.env
      standAt apos.atName
      let (h, first) ← holding [y] (getMethod y m pl)
      callWith pos1 h first (backTo pos1 (starEach [] X.env)) (backToKw pos1 (keywordEach [] X.env))) := by rfl)
    (hs1 : swapsWith (.Call (.Attribute o m apos) [] [] pos1) (some (.Name x py)) p1.line X.env = pure false := by rfl)
    (hs2 : swapsWith (.Call (.Attribute (.Subscript (.Name x py2) (.Constant (.int 0) k0 pc) psx) "append" pa2) [.Constant .none k1 pn] [] pe2) none p2.line X.env = pure false := by rfl)
    (hs3 : swapsWith (.Call (.Attribute (.Name x py3) "append" pa3) [.Constant .none k2 pn2] [] pe3) none p3.line X.env = pure false := by rfl) :
    PSs X (.Assign [.Name x py] (.Call (.Attribute o m apos) [] [] pos1) p1 :: .Expr (.Call (.Attribute (.Subscript (.Name x py2) (.Constant (.int 0) k0 pc) psx) "append" pa2) [.Constant .none k1 pn] [] pe2) p2 ::
      .Expr (.Call (.Attribute (.Name x py3) "append" pa3) [.Constant .none k2 pn2] [] pe3) p3 :: rest) (tSt T (sSeq (sDeep i c F fo) h)) := by
  have hv : Vis X.env.scope x := .inl hlx
  have e1 := pe_methG0 (E := E0) ho hc hm G hq hr (kbn_pos hb hps) pk_nil rfl rfl hpl ht
  have e2 := hb2 (pe_ix ix_list (pe_var hN hv hdy hcd) pe_int (fun _ _ => rfl)) pe_non
  have e3 := hb3 (pe_var hN hv hdy hcd) pe_non
  refine PSs.imp (pss_cons (ps_set hND hN (.inl hlx) e1 hs1 (.inr hlx)) (pss_cons (ps_expr e2 hs2) (pss_cons (ps_expr e3 hs3) hrest))) fun E σ H ⟨S0, δ, r, ok, e, q⟩ => ?_
  obtain ⟨r0, g1, g2⟩ := bind_some1 e
  obtain ⟨d, δ1, g3, g4⟩ := bind_some2 g1
  dsimp only at g4
  split at g4
  case h_2 => cases g4
  rename_i c' fs
  by_cases hcc : c' = c ∧ i < δ1.length
  case neg => rw [if_neg hcc] at g4; cases g4
  rw [if_pos hcc] at g4
  obtain ⟨rfl, hil⟩ := hcc
  rcases hF : F [.obj c' fs] with _ | (_ | ⟨xs, xss⟩)
  · rw [hF] at g4; cases g4
  · rw [hF] at g4; cases g4
  rw [hF] at g4
  obtain ⟨⟨hl1, hl2⟩, g4⟩ := ite_some g4
  subst g4
  dsimp only at g2
  refine ⟨S0, δ, _, δ1, ok, g3, fun v H1 ok1 s1 rv => ?_⟩
  have rv' := rv
  rw [Rep] at rv
  obtain ⟨a0, dx, C', ns', vs0, rfl, hT', ha0, hlen0, na0, rs0⟩ := rv
  rw [hT] at hT'; cases hT'
  refine ⟨a0, dx, _, rfl, ha0, zip_none hmn, ?_⟩
  refine ⟨rfl, rfl, Av S0 σ δ1, [_], _, fun b z => ok1.trk z, rfl, Reps.cons rv' Reps.nil, hF, fun a pz H2 sm ha h0 nw => ?_⟩
  match pz, nw with
  | [], nw => have := nw.len; simp at this
  | p0 :: pz, nw =>
  obtain ⟨hp0, hS0, ws, hw, rw0⟩ := nw.at_ 0 p0 xs rfl rfl
  have ne0 : p0 ≠ a := fun z => by rw [z, ha] at hw; cases hw
  have n1p : ∀ {b : Addr}, b = p0 ∨ b = a → H1 b = none := fun {b} z => by
    rcases z with rfl | rfl
    · exact hp0
    · exact h0
  have hx : (σ.set i (some (V.ref a)))[i]? = some (some (V.ref a)) := by
    rw [List.getElem?_set_self]
    rw [ok1.len]
    exact hil
  have lw := rw0.length
  have i0 : atI ((p0 :: pz).map V.ref) 0 = some (V.ref p0) := by
    unfold atI ixN
    simp
  have sq1 : SqL X.K (upd H2 a (.lst ((p0 :: pz).map V.ref))) a ((p0 :: pz).map V.ref) := .of upd_same
  have hw1 : (upd H2 a (.lst ((p0 :: pz).map V.ref))) p0 = some (.lst ws) := by rw [upd_ne ne0]; exact hw
  refine ⟨_, hx, a, _, 0, V.ref p0, rfl, rfl, sq1, i0, ?_⟩
  refine ⟨.inl ⟨rfl, _, .of hw1⟩, p0, ws, .non, rfl, rfl, hw1, by rw [lw]; exact big_line' hl1, ?_⟩
  have ha3 : (upd (upd H2 a (.lst ((p0 :: pz).map V.ref))) p0 (.lst (ws ++ [V.non]))) a = some (.lst ((p0 :: pz).map V.ref)) := by rw [upd_ne (Ne.symm ne0)]; exact upd_same
  refine ⟨_, hx, .inl ⟨rfl, _, .of ha3⟩, a, _, .non, rfl, rfl, ha3, ?_, ?_⟩
  · have ln := nw.len
    have lb := big_line' hl2
    simp only [List.length_map]
    rw [ln, List.length_cons]
    exact lb
  have smf : Same H1 (upd (upd (upd H2 a (.lst ((p0 :: pz).map V.ref))) p0 (.lst (ws ++ [V.non]))) a (.lst ((p0 :: pz).map V.ref ++ [V.non]))) := fun b u z => by
    have na : b ≠ a := fun y => by rw [y, h0] at z; cases z
    have np : b ≠ p0 := fun y => by rw [y, hp0] at z; cases z
    rw [upd_ne na, upd_ne np, upd_ne na]
    exact sm b u z
  obtain ⟨ok5, s5⟩ := (ok1.same smf).junk (i := i) (v := some (V.ref a))
  exact ⟨S0, _, _, ok5, g2, q.back ((s1.trans (Step.same smf)).trans s5)⟩
end
end Dl
namespace Dl
open PySem PySem.Spec PyProof.Rows L2
theorem kit_other {K : PySem.W.Frag} {C C' : Addr} {r : Bool} (hn : (C' == C) = false) (hc : PySem.W.isClsIn K C = true) (ht : PySem.W.typeIn K (.ref C) = some (.type "type")) (h : PySem.W.subIn K (.ref C') (.ref C) = some r) : PySem.W.kitOne K (.ref C') (.ref C) = some r := by
  unfold PySem.W.kitOne PySem.W.kitCls
  have e : (PySem.W.clsIn K C).isSome = true := hc
  have ne : C' ≠ C := by simpa using hn
  rw [if_neg (by simpa using ne)]
  show (if ((PySem.W.clsIn K C).isSome && PySem.W.typeIn K (.ref C) == some (.type "type")) = true then _ else _) = _
  rw [if_pos (by rw [e, ht]; simp)]
  exact h
section
variable {X : Cx} {T : CT} {e a b c : Expr} {fe fa fb : FE} {pos : Pos}
theorem pd_gintE {x : Str} {i : Int} (hm : ∃ tk, X.mg x = some (.int i tk)) (hg : Gl X x := by rfl) (hd : (x == ("__debug__" : Str)) = false := by decide) : PE X (.Name x pos) (tD T (fC (.int i))) := by
  obtain ⟨tk, h⟩ := hm
  exact pd_gint h hg hd
/-- script[lo:hi] -/
def fSliceS (f : FE) (fl fh : Es → Option (Option Int × Es)) : FA := fun δ => (f δ).bind fun (d, δ1) => (fl δ1).bind fun (l, δ2) => (fh δ2).bind fun (h, δ3) => match d with
  | .scr ns => some (cutD (ns.map D.int) l h, δ3)
  | _ => none
theorem ints_rep {H : Hp} {S : Addr → Prop} : ∀ ns : List Int, Reps T H S (ns.map D.int) (ns.map V.int)
  | [] => Reps.nil
  | n :: ns => Reps.cons (by rw [Rep]) (ints_rep ns)
theorem pf_sliceS {lo hi : Option Expr} {fl fh : Es → Option (Option Int × Es)} {p2 : Pos} (hS : ScK X.K T) (he : PE X e (tD T fe)) (hl : PO X lo (tDo T fl)) (hh : PO X hi (tDo T fh)) : PE X (.Subscript e (.Slice lo hi none p2) pos) (tF T (fSliceS fe fl fh)) := PE.imp (pe_slice sl_list he hl hh) fun σ H Q ⟨S0, δ, ds, δ', ok, e, q⟩ => by
  obtain ⟨d1, δ1, e1, e2⟩ := bind_some2 e
  obtain ⟨l, δ2, e3, e4⟩ := bind_some2 e2
  obtain ⟨h, δ3, e5, e6⟩ := bind_some2 e4
  refine ⟨S0, δ, d1, δ1, ok, e1, fun v H1 ok1 s1 r => ⟨S0, δ1, l, δ2, ok1, e3, fun H2 ok2 s2 => ⟨S0, δ2, h, δ3, ok2, e5, fun H3 ok3 s3 => ?_⟩⟩⟩
  have r3 := (s2.trans s3).rep r
  dsimp only at e6
  cases d1 with
  | scr ns =>
    cases e6
    obtain ⟨p, rfl, sq⟩ := scr_sql hS r3
    refine ⟨p, _, rfl, sq, fun q1 hq1 => q q1 _ H3 ok3 ((s1.trans s2).trans s3) hq1 ?_⟩
    unfold cutD cutV
    rw [List.length_map, List.length_map]
    have := ((ints_rep (T := T) (H := H3) (S := Av S0 σ δ') ns).drop (HT.sIx ns.length 0 l)).take (HT.sIx ns.length ns.length h - HT.sIx ns.length 0 l)
    simpa using this
  | _ => cases e6
/-- two names, the second gets a new list of its own -/
def sPar2F (i j : Nat) (fa : FE) (fb : FA) : FS := fun δ => (fa δ).bind fun (x, δ1) => (fb δ1).bind fun (zs, δ2) => some (.nx ((δ2.set i (.val x)).set j (.own .mine zs)))
theorem st_par2F (i j : Nat) {x y : Str} {fb : FA} {px py pt : Pos} {kt k2 pt2} (hc : X.calm = true) (hN : X.N.Nodup) (ha : PE X a (tD T fa)) (hb : PE X b (tF T fb)) (hij : i ≠ j := by decide) (hi : X.N[i]? = some x := by rfl) (hj : X.N[j]? = some y := by rfl)
    (hx : X.env.scope.names.lookup x = some .local := by rfl) (hy : X.env.scope.names.lookup y = some .local := by rfl)
    (h1 : starEach [a, b] X.env = (false, eval a X.env) :: starEach [b] X.env := by rfl) (h2 : starEach [b] X.env = (false, eval b X.env) :: starEach [] X.env := by rfl)
    (hw : swappedStores [.Tuple [.Name x px, .Name y py] kt pt] (.Tuple [a, b] k2 pt2) X.env = pure (some [x, y]) := by rfl)
    (hs : swapsWithSole [.Tuple [.Name x px, .Name y py] kt pt] (.Tuple [a, b] k2 pt2) pos.line X.env = pure false := by rfl) :
    PS X (.Assign [.Tuple [.Name x px, .Name y py] kt pt] (.Tuple [a, b] k2 pt2) pos) (tSt T (sPar2F i j fa fb)) := PS.imp (ps_par hc hN hi hj hij hx hy (pa_cons ha (pa_cons hb pa_nil h2) h1) hw hs) fun E σ H ⟨S0, δ, r, ok, e, q⟩ => by
  obtain ⟨dx, δ1, e1, e2⟩ := bind_some2 e
  obtain ⟨zs, δ2, e3, e4⟩ := bind_some2 e2
  cases e4
  refine ⟨S0, δ, dx, δ1, ok, e1, fun u H1 ok1 s1 r1 => ⟨S0, δ1, zs, δ2, ok1, e3, fun p vs H2 ok2 s2 hp r2 => ?_⟩⟩
  obtain ⟨ok3, s3⟩ := ok2.store (i := i) (s2.rep r1)
  obtain ⟨ok4, s4⟩ := ok3.storeOwn (i := j) hp (s3.reps r2)
  exact ⟨u, .ref p, rfl, q _ _ ok4 (((s1.trans s2).trans s3).trans s4)⟩
end
end Dl
namespace Dl
open PySem PySem.Spec PyProof.Rows L2
section
variable {K : PySem.W.Frag} {x qual : Str} {st : Stmt} {f : Addr} {fd : FuncData} {ps : List Str}
/-- a def without defaults as one with defaults -/
theorem funD_fun (F : Fun K x qual st f fd) : FunD K x qual (defArgs st) (defBody st) (defScope st) [] [] f fd := by
  obtain ⟨oc, od, kV, doc, pm, an, cdv, ct, osl, rfl, lk, hcd⟩ := F.ex
  exact ⟨⟨oc, od, .none, kV, doc, pm, an, cdv, ct, osl, rfl, lk, hcd, .inl ⟨rfl, rfl⟩, .inl rfl⟩, F.kp⟩
theorem bndI_fun (n : Nat) (ks : List Str) (F : Fun K x qual st f fd)
    (h : ∀ (kV doc pm : Value) (an : Option Addr) (cdv ct : Value) (us ws : List Value), us.length = n + 1 → ws.length = ks.length → bindArgs (PySem.W.fnOf x qual (defArgs st) (defBody st) (defScope st) .none kV doc pm an cdv ct) ⟨us, ks.zip ws⟩ = pure (ps.zip (us ++ ws))) : BndI K fd ps n ks (gPos []) := by
  obtain ⟨oc, od, kV, doc, pm, an, cdv, ct, osl, rfl, lk, hcd⟩ := F.ex
  refine ⟨fun us ws => us ++ ws, fun vs zs => vs ++ zs, ⟨fun s us ws X l1 l2 => .of_eq (h kV doc pm an cdv ct us ws l1 l2), fun r1 r2 => r1.append r2⟩, fun vs zs => vs ++ zs, fun a vs zs _ _ => rfl, fun T H S d e vs zs _ _ r r2 => ?_⟩
  rw [gPos, List.append_nil]
  exact r.append r2
end
end Dl
namespace Dl
open PySem PySem.Spec PyProof.Rows L2
section
variable {X : Cx} {T : CT} {k : Nat} {f : Addr} {fd : FuncData} {ps : List Str} {x : Str} {e : Expr} {fa : FA} {p pos : Pos}
/-- f(e), f a def that changes its list, e a new list -/
def fCallPF (F : List D → List D → Option (D × List D)) (fa : FA) : FE := fun δ => (fa δ).bind fun (xs, δ1) => (F xs []).map fun (d, _) => (d, δ1)
theorem pd_callPF {F : List D → List D → Option (D × List D)} (G : FnG X.prog X.w X.K X.mg X.base k f fd ps (sp1 T 0 F)) (hq : Quiet X.A) (hr : Room k X.A) (hm : X.mg x = some (.ref f)) (hk : PySem.W.keepIn X.K (.ref f) = true) (hb : Binds X.K fd ps []) (hps : ps.length = 1) (ha : PE X e (tF T fa))
    (hg : Gl X x := by rfl) (hdb : (x == ("__debug__" : Str)) = false := by decide) (he : starEach [e] X.env = (false, eval e X.env) :: starEach [] X.env := by rfl)
    (hpl : ((backTo pos (starEach [e] X.env)).any (·.1) || (backToKw pos (keywordEach [] X.env)).any (·.1.isNone)) = false := by rfl) :
    PE X (.Call (.Name x p) [e] [] pos) (tD T (fCallPF F fa)) := PE.imp (pe_callG (E := E0) G hq hr hm hk (kbn_pos hb hps) (pa_cons ha pa_nil he) pk_nil hg rfl rfl hdb he hpl) fun σ H Q h => by
  obtain ⟨S0, δ, d, δ', ok, e, q⟩ := h
  obtain ⟨xs, δ1, e1, e2⟩ := bind_some2 e
  obtain ⟨d1, xs', e3, e4⟩ := map_some2 e2
  cases e4
  refine ⟨S0, δ, xs, δ', ok, e1, fun a us H1 ok1 s1 hp r1 => ⟨rfl, rfl, orD (Av S0 σ δ') a, a, us, xs, [], [], d, xs', rfl, fun b z => ?_, .inr rfl, upd_same, ?_, rfl, Reps.nil, e3, fun v H' us' hk' ha' rs rv => ?_⟩⟩
  · rcases z with z | rfl
    · obtain ⟨o, e⟩ := ok1.trk z
      exact ⟨o, by rw [upd_ne (ne_of_none e hp)]; exact e⟩
    · exact ⟨_, upd_same⟩
  · exact r1.move (fun b o e _ => by rw [upd_ne (ne_of_none e hp)]; exact e) fun b z => z.elim .inl fun z => .inr (by rw [z]; exact hp)
  · have sm : Same H1 H' := fun b o e => hk' b o (by rw [upd_ne (ne_of_none e hp)]; exact e) (ne_of_none e hp)
    exact q v H' (ok1.same sm) (s1.trans (Step.same sm)) (rv.sub fun b z => .inl z)
end
end Dl
namespace Dl
open PySem PySem.Spec PyProof.Rows L2 ClX
/-! comprehensions that map -/
def itemsD : D → Option (List D)
  | .lst ds => some ds
  | .tup ds => some ds
  | _ => none
def mapO (h : D → Option D) : List D → Option (List D)
  | [] => some []
  | d :: ds => (h d).bind fun y => (mapO h ds).map fun ys => y :: ys
theorem mapO_some {h : D → Option D} {f : D → D} : ∀ {ds : List D}, (∀ d, d ∈ ds → h d = some (f d)) → mapO h ds = some (ds.map f)
  | [], _ => rfl
  | d :: ds, hh => by
    have e1 := hh d (List.mem_cons_self ..)
    have e2 := mapO_some (fun x hx => hh x (List.mem_cons_of_mem _ hx))
    simp [mapO, e1, e2]
theorem mapO_mem {h : D → Option D} : ∀ {ds ys : List D}, mapO h ds = some ys → ∀ d, d ∈ ds → ∃ y, h d = some y
  | [], _, _, d, hd => by cases hd
  | x :: ds, ys, e, d, hd => by
    obtain ⟨y, e1, e2⟩ := bind_some1 e
    obtain ⟨zs, e3, rfl⟩ := map_some1 e2
    cases hd with
    | head => exact ⟨y, e1⟩
    | tail _ h => exact mapO_mem e3 d h
theorem mapO_len {h : D → Option D} : ∀ {ds ys : List D}, mapO h ds = some ys → ys.length = ds.length
  | [], ys, e => by simp [mapO] at e; subst e; rfl
  | d :: ds, ys, e => by
    obtain ⟨y, e1, e2⟩ := bind_some1 e
    obtain ⟨zs, e3, rfl⟩ := map_some1 e2
    simp [mapO_len e3]
theorem wipe1 {δ : Es} {i : Nat} {x : Sl} (hi : δ[i]? = some .un) : wipeE (δ.set i x) [i] = δ := by
  simp only [wipeE]
  rw [List.set_set]
  apply List.ext_getElem?
  intro j
  by_cases h : j = i
  · subst h
    rw [hi, List.getElem?_set_self (List.getElem?_eq_some_iff.mp hi).1]
  · rw [List.getElem?_set_ne (Ne.symm h)]
theorem lc_map {i : Nat} {fe : FE} {h : D → Option D} {δ : Es} (hi : δ[i]? = some .un) : ∀ (ds acc : List D), (∀ d, d ∈ ds → fe (δ.set i (.val d)) = (h d).map fun y => (y, δ.set i (.val d))) → acc.length + ds.length ≤ big → lcF (gN i) fYes fe [i] ds acc δ = (mapO h ds).map fun ys => (acc ++ ys, δ)
  | [], acc, _, _ => by simp [lcF, mapO]
  | d :: ds, acc, hf, hl => by
    simp only [List.length_cons] at hl
    have hb : acc.length ≤ big := by omega
    have hd := hf d (List.mem_cons_self ..)
    have rest := fun y => lc_map hi ds (acc ++ [y]) (fun x hx => hf x (List.mem_cons_of_mem _ hx)) (by simp; omega)
    simp only [lcF, gN, fYes, Option.bind_some, if_true, hd, mapO]
    cases hy : h d with
    | none => simp
    | some y =>
      simp only [Option.map_some, Option.bind_some, hb, if_true, wipe1 hi, rest]
      cases mapO h ds <;> simp
theorem wipe0 {δ : Es} {i : Nat} (hi : δ[i]? = some .un) : wipeE δ [i] = δ := by
  have := wipe1 (x := .un) hi
  have e : δ.set i .un = δ := by
    apply List.ext_getElem?
    intro j
    by_cases h : j = i
    · subst h
      rw [hi, List.getElem?_set_self (List.getElem?_eq_some_iff.mp hi).1]
    · rw [List.getElem?_set_ne (Ne.symm h)]
  rw [e] at this; exact this
/-- a comprehension over a list (or tuple) whose element is a function of its name -/
theorem flc {i : Nat} {fI : FA} {fe : FE} {h : D → Option D} {δ δ1 : Es} {ds : List D} (hI : fI δ = some (ds, δ1)) (hi : δ1[i]? = some .un) (hf : ∀ d, d ∈ ds → fe (δ1.set i (.val d)) = (h d).map fun y => (y, δ1.set i (.val d))) (hl : ds.length ≤ big) : fLc fI (gN i) fYes fe [i] δ = (mapO h ds).map fun ys => (ys, δ1) := by
  simp only [fLc, hI, Option.bind_some, wipe0 hi]
  rw [lc_map hi ds [] hf (by simpa using hl)]
  simp
theorem ite_o {α : Type} {c : Prop} [Decidable c] {x : Option α} {y : α} (h : (if c then x else none) = some y) : c ∧ x = some y := by
  split at h
  · exact ⟨‹c›, h⟩
  · cases h
/-- == on equal flat fields of one thing -/
theorem reps_at {T : CT} {H : Hp} {S : Addr → Prop} : ∀ {ds : List D} {vs : List V} {j : Nat} {d : D}, Reps T H S ds vs → ds[j]? = some d → ∃ v, vs[j]? = some v ∧ Rep T H S d v
  | [], _, _, _, _, h => by simp at h
  | x :: ds, vs, 0, d, r, h => by
    rw [Reps] at r
    obtain ⟨v, ws, rfl, a, _⟩ := r
    simp at h
    subst h
    exact ⟨v, rfl, a⟩
  | x :: ds, vs, j + 1, d, r, h => by
    rw [Reps] at r
    obtain ⟨v, ws, rfl, _, b⟩ := r
    simp at h
    obtain ⟨z, hz, rz⟩ := reps_at b h
    exact ⟨z, by simpa using hz, rz⟩
theorem gEqF_self {T : CT} {H : Hp} {S : Addr → Prop} {ds es : List D} {vs : List V} {j : Nat} {d e r : D} (r1 : Reps T H S ds vs) (r2 : Reps T H S es vs) (h1 : ds[j]? = some d) (h2 : es[j]? = some e) (h : gEqF d e = some r) : r = .bl true := by
  obtain ⟨v, hv, a⟩ := reps_at r1 h1
  obtain ⟨v2, hv2, b⟩ := reps_at r2 h2
  rw [hv] at hv2; cases hv2
  unfold gEqF at h
  split at h
  · rename_i x y hx hy
    obtain ⟨_, h⟩ := ite_some h
    subst h
    have e1 := lit_rep a hx
    have e2 := lit_rep b hy
    subst e1 e2
    simp
  · cases h
theorem ob_self {T : CT} {H : Hp} {S : Addr → Prop} {c : Nat} {ds es : List D} {v : V} (a : Rep T H S (.obj c ds) v) (b : Rep T H S (.obj c es) v) : ∃ vs, Reps T H S ds vs ∧ Reps T H S es vs := by
  rw [Rep] at a b
  obtain ⟨a, dx, C, ns, vs, rfl, hc, ha, hl, _, r⟩ := a
  obtain ⟨a2, dx2, C2, ns2, ws, e2, hc2, ha2, hl2, _, r2⟩ := b
  cases e2
  rw [hc] at hc2; cases hc2
  rw [ha] at ha2
  injection ha2 with h1
  injection h1 with h2 h3 h4
  have := zip_snd hl hl2 h4
  subst this
  exact ⟨_, r, r2⟩
end Dl
namespace Dl
open PySem PySem.Spec PyProof.Rows L2 ClX
/-- zip( *e), e a list of two lists -/
theorem pi_zipS {X : Cx} {e : Expr} {te : TE} {p pos tpos sp_ : Pos} {elts : List Expr} {kk : Nat} (hg : Gl X "zip") (hm : X.mg "zip" = none) (he : PE X e te) (hst : starEach [.Starred e sp_] X.env = [(true, eval e X.env)] := by rfl) :
    PI X (.Tuple elts kk tpos) (.Call (.Name "zip" p) [.Starred e sp_] [] pos) (fun σ H R => te σ H fun y H1 => ∃ c a b xs ys, y = V.ref c ∧ (SqT X.K H1 c [.ref a, .ref b] ∨ SqL X.K H1 c [.ref a, .ref b]) ∧ SqL X.K H1 a xs ∧ SqL X.K H1 b ys ∧ R (Itz X.K a b) H1) := by
  refine ⟨fun pins s σ H R I h => ?_⟩
  refine Call_ (ld_blt I hg hm PyProof.Rows.boot_zip ?_)
  rw [hst]
  refine PySem.W.ks_call (P := fun _ => True) rfl (fun h _ => ⟨.machine, .inr (.inl rfl), ?_⟩) (PySem.W.ks_lone (thn (he.run pins s σ H _ I h) fun v s1 ⟨y, H1, I1, ry, c, a, b, xs, ys, ey, hx, hqx, hqy, q⟩ => ?_))
  · exact PySem.W.Looks.now
  subst ey
  obtain rfl : v = Value.ref c := ry
  refine StX.star_any I1 hx fun us s2 I2 rv => ⟨trivial, ?_⟩
  cases rv with
  | cons r rr =>
    cases rr with
    | cons r' rr =>
      cases rr
      cases r
      cases r'
      obtain ⟨its, rv, p1, _⟩ := I2.list hqx
      obtain ⟨its2, rv2, p2, _⟩ := I2.list hqy
      have la : a < s2.heap.objs.size := p1.lt
      have lb : b < s2.heap.objs.size := p2.lt
      refine call_zip_2 p1.isList p2.isList fun h' hz hTI hTO h1 h2 hsz hk => wpAny_pyIter_zip hz ?_
      have I3 : Inv X pins σ H1 { s2 with heap := h' } := I2.kept (t' := s2.toks) hk
      refine ⟨s2.heap.objs.size + 4, [s2.heap.objs.size + 4, s2.heap.objs.size + 2, s2.heap.objs.size + 3, s2.heap.objs.size, s2.heap.objs.size + 1], _, _, H1, rfl, I3, turn_zip (PySem.W.ktu_apart s2.heap.objs.size a b la lb), ⟨hz, hTI, ⟨_, _, hTO⟩, h1, h2⟩, fun c hcm => ?_, q⟩
      have e' : c = s2.heap.objs.size + 4 ∨ c = s2.heap.objs.size + 2 ∨ c = s2.heap.objs.size + 3 ∨ c = s2.heap.objs.size ∨ c = s2.heap.objs.size + 1 := by simpa using hcm
      have hle : s2.heap.objs.size ≤ c := by
        rcases e' with z | z | z | z | z
        · rw [z]; exact Nat.le_add_right _ _
        · rw [z]; exact Nat.le_add_right _ _
        · rw [z]; exact Nat.le_add_right _ _
        · rw [z]; exact Nat.le_refl _
        · rw [z]; exact Nat.le_add_right _ _
      exact I2.fpOk hle (I2.hok.fresh hle)
section
variable {X : Cx} {T : CT} {p pos sp_ : Pos}
def fZipS (fe : FE) : FA := fun δ => (fe δ).bind fun (d, δ1) => match d with
  | .lst [.lst xs, .lst ys] => some (pairsD xs ys, δ1)
  | .tup [.lst xs, .lst ys] => some (pairsD xs ys, δ1)
  | _ => none
theorem pid_zipS {e : Expr} {fe : FE} {elts : List Expr} {kk : Nat} {tpos : Pos} (hm : X.mg "zip" = none) (he : PE X e (tD T fe)) (hg : Gl X "zip" := by rfl) (hst : starEach [.Starred e sp_] X.env = [(true, eval e X.env)] := by rfl) :
    PI X (.Tuple elts kk tpos) (.Call (.Name "zip" p) [.Starred e sp_] [] pos) (tIt T (fZipS fe)) := PI.imp (pi_zipS hg hm he hst) fun σ H R ⟨S0, δ, ds, δ', ok, e, q⟩ => by
  obtain ⟨d, δ1, e1, e2⟩ := bind_some2 e
  dsimp only at e2
  have two : ∀ {xs ys : List D} {vs : List V} {H1 : Hp} {S : Addr → Prop}, Reps T H1 S [.lst xs, .lst ys] vs → ∃ a b us ws, vs = [.ref a, .ref b] ∧ H1 a = some (.lst us) ∧ H1 b = some (.lst ws) ∧ Rep T H1 S (.lst xs) (.ref a) ∧ Rep T H1 S (.lst ys) (.ref b) := by
    intro xs ys vs H1 S r
    rw [Reps] at r
    obtain ⟨v, vr, rfl, r1, r2⟩ := r
    rw [Reps] at r2
    obtain ⟨w, wr, rfl, r3, r4⟩ := r2
    rw [Reps] at r4; subst r4
    have r1' := r1
    have r3' := r3
    rw [Rep] at r1 r3
    obtain ⟨a, us, rfl, ha, _, _⟩ := r1
    obtain ⟨b, ws, rfl, hb, _, _⟩ := r3
    exact ⟨a, b, us, ws, rfl, ha, hb, r1', r3'⟩
  split at e2
  case h_3 => cases e2
  · rename_i xs ys
    cases e2
    refine ⟨S0, δ, _, δ', ok, e1, fun v H1 ok1 s1 r => ?_⟩
    rw [Rep] at r
    obtain ⟨c, vs, rfl, hc, _, rr⟩ := r
    obtain ⟨a, b, us, ws, rfl, ha, hb, ra, rb⟩ := two rr
    exact ⟨c, a, b, us, ws, rfl, .inr (SqL.of hc), SqL.of ha, SqL.of hb, q _ H1 ok1 s1 (runs_zip ra rb)⟩
  · rename_i xs ys
    cases e2
    refine ⟨S0, δ, _, δ', ok, e1, fun v H1 ok1 s1 r => ?_⟩
    rw [Rep] at r
    obtain ⟨c, vs, rfl, hc, _, rr⟩ := r
    obtain ⟨a, b, us, ws, rfl, ha, hb, ra, rb⟩ := two rr
    exact ⟨c, a, b, us, ws, rfl, .inl (SqT.of hc), SqL.of ha, SqL.of hb, q _ H1 ok1 s1 (runs_zip ra rb)⟩
end
/-- a def called by keywords in another order -/
def gSel (js : List Nat) : List D → List D → List D := fun ds es => js.map fun j => (ds ++ es).getD j .non
theorem reps_get {T : CT} {H : Hp} {S : Addr → Prop} : ∀ {ds : List D} {vs : List V} {j : Nat}, Reps T H S ds vs → j < ds.length → Rep T H S (ds.getD j .non) (vs.getD j .non)
  | d :: ds, vs, 0, r, _ => by
    rw [Reps] at r
    obtain ⟨v, ws, rfl, a, _⟩ := r
    simpa using a
  | d :: ds, vs, j + 1, r, h => by
    rw [Reps] at r
    obtain ⟨v, ws, rfl, _, b⟩ := r
    simp only [List.length_cons] at h
    have := reps_get (j := j) b (by omega)
    simpa using this
theorem reps_sel {T : CT} {H : Hp} {S : Addr → Prop} {ds : List D} {vs : List V} (r : Reps T H S ds vs) : ∀ (js : List Nat), (∀ j, j ∈ js → j < ds.length) → Reps T H S (js.map fun j => ds.getD j .non) (js.map fun j => vs.getD j .non)
  | [], _ => Reps.nil
  | j :: js, h => Reps.cons (reps_get r (h j (List.mem_cons_self ..))) (reps_sel r js fun i hi => h i (List.mem_cons_of_mem _ hi))
theorem vals_get : ∀ {vs : List V} {us : List Value} (j : Nat), Vals vs us → L2.RelV (vs.getD j .non) (us.getD j .none)
  | _, _, 0, .cons a _ => by simpa using a
  | _, _, j + 1, .cons _ r => by
    have := vals_get j r
    simpa using this
  | _, _, _, .nil => by
    show L2.RelV V.non Value.none
    rfl
theorem vals_sel {vs : List V} {us : List Value} (r : Vals vs us) : ∀ (js : List Nat), Vals (js.map fun j => vs.getD j .non) (js.map fun j => us.getD j .none)
  | [] => .nil
  | j :: js => .cons (vals_get j r) (vals_sel r js)
theorem bnd_kwP {K : PySem.W.Frag} {x qual : Str} {st : Stmt} {f : Addr} {fd : FuncData} {ps : List Str} (n : Nat) (ks : List Str) (js : List Nat) (hj : ∀ j, j ∈ js → j < n + ks.length) (F : Fun K x qual st f fd)
    (h : ∀ (kV doc pm : Value) (an : Option Addr) (cdv ct : Value) (us ws : List Value), us.length = n → ws.length = ks.length → bindArgs (PySem.W.fnOf x qual (defArgs st) (defBody st) (defScope st) .none kV doc pm an cdv ct) ⟨us, ks.zip ws⟩ = pure (ps.zip (js.map fun j => (us ++ ws).getD j .none))) : Bnd K fd ps n ks (gSel js) := by
  obtain ⟨oc, od, kV, doc, pm, an, cdv, ct, osl, rfl, lk, hcd⟩ := F.ex
  refine ⟨fun us ws => js.map fun j => (us ++ ws).getD j .none, fun vs zs => js.map fun j => (vs ++ zs).getD j .non, ⟨fun s us ws X l1 l2 => .of_eq (h kV doc pm an cdv ct us ws l1 l2), fun r1 r2 => vals_sel (r1.append r2) js⟩, fun T H S d e vs zs l1 l2 r r2 => ?_⟩
  exact reps_sel (r.append r2) js fun j hjm => by rw [List.length_append, l1, l2]; exact hj j hjm
section
variable {X : Cx} {T : CT}
def funLcm : List D → Option D
  | [.int i, .int j] => if i.natAbs < 2 ^ 64 ∧ j.natAbs < 2 ^ 64 then some (.int ((Nat.lcm i.natAbs j.natAbs : Nat) : Int)) else none
  | _ => none
def rLcm : List V → Hp → VK → Prop := fun vs H Q => ∃ a b : Int, vs = [.int a, .int b] ∧ a.natAbs < 2 ^ 64 ∧ b.natAbs < 2 ^ 64 ∧ Q (.int ((Nat.lcm a.natAbs b.natAbs : Nat) : Int)) H
theorem cr_lcm : CallR X (.builtin "math.lcm") rLcm := by
  intro pins s σ H vs us Q I r h
  obtain ⟨a, b, rfl, ha, hb, q⟩ := h
  obtain ⟨t, u, rfl⟩ := Vals.int2 r
  exact PySem.W.mc_lcm ha hb fun _ => ⟨.int _, H, I.tok _, ⟨_, rfl⟩, q⟩
theorem callv_lcm : CallV T rLcm funLcm := by
  intro S ds vs H d Q tr r e q
  unfold funLcm at e
  split at e
  · obtain ⟨h, e⟩ := ite_some e
    cases e
    exact ⟨_, _, reps_int2 r, h.1, h.2, q _ H (Same.refl _) (rep_lit rfl)⟩
  · cases e
end
end Dl
/-! x not in a list of ints; slices of a list with a step -/
namespace Dl
open PySem PySem.Spec PyProof.Rows L2 ClX
variable {X : Cx} {T : CT} {e : Expr} {fe : FE} {pos : Pos}
def gNotIn : D → D → Option D
  | .int i, .lst ds => (intsOf ds).map fun is => .bl (!decide (i ∈ is))
  | _, _ => none
theorem inV_int (i : Int) (is : List Int) : inV (.int i) (is.map V.int) = decide (i ∈ is) := by
  unfold inV
  rw [Bool.eq_iff_iff, List.any_eq_true, decide_eq_true_eq]
  constructor
  · rintro ⟨y, hy, e⟩
    obtain ⟨j, hj, rfl⟩ := List.mem_map.mp hy
    have : j = i := by simpa [eqV] using e
    exact this ▸ hj
  · intro h
    exact ⟨.int i, List.mem_map.mpr ⟨i, h, rfl⟩, by simp [eqV]⟩
theorem flat_ints (is : List Int) : (is.map V.int).all flatV = true := by
  rw [List.all_eq_true]
  intro x hx
  obtain ⟨j, _, rfl⟩ := List.mem_map.mp hx
  rfl
theorem opv_notIn {K : PySem.W.Frag} : OpV T (rIn K true) gNotIn := by
  intro S x y vx vy H d Q tr rx ry e q
  unfold gNotIn at e
  split at e
  · rename_i i ds
    obtain ⟨is, e1, e2⟩ := map_some1 e
    subst e2
    rw [rep_int rx]
    rw [Rep] at ry
    obtain ⟨a, vs, rfl, ha, _, rs⟩ := ry
    have hv := ints_reps rs e1
    subst hv
    refine ⟨a, _, rfl, .inl (SqL.of ha), rfl, flat_ints is, ?_⟩
    rw [if_pos rfl, inV_int]
    exact q _ H (Same.refl _) (rep_lit rfl)
  · cases e
/-- the items of xs[lo:hi:st] -/
def stepL {α : Type} (xs : List α) (lo hi st : Option Int) : List α := (sliceRange (sliceBounds lo hi st xs.length).1 (sliceBounds lo hi st xs.length).2.1 (sliceBounds lo hi st xs.length).2.2).filterMap fun i => xs[i]?
theorem vals_pos : ∀ {xs : List V} {us : List Value} (j : Nat), Vals xs us → (xs[j]? = none ∧ us[j]? = none) ∨ ∃ x u, xs[j]? = some x ∧ us[j]? = some u ∧ RelV x u
  | _, _, j, .nil => .inl ⟨rfl, rfl⟩
  | x :: _, u :: _, 0, .cons r _ => .inr ⟨x, u, rfl, rfl, r⟩
  | _ :: _, _ :: _, j + 1, .cons _ t => by simpa using vals_pos j t
theorem vals_pick {xs : List V} {us : List Value} (r : Vals xs us) : ∀ js : List Nat, Vals (js.filterMap fun i => xs[i]?) (js.filterMap fun i => us[i]?)
  | [] => .nil
  | j :: js => by
    have ih := vals_pick r js
    rw [List.filterMap_cons, List.filterMap_cons]
    rcases vals_pos j r with ⟨e1, e2⟩ | ⟨x, u, e1, e2, rx⟩
    · rw [e1, e2]; exact ih
    · rw [e1, e2]; exact .cons rx ih
theorem reps_pos {H : Hp} {S : Addr → Prop} : ∀ {ds : List D} {vs : List V} (j : Nat), Reps T H S ds vs → (ds[j]? = none ∧ vs[j]? = none) ∨ ∃ d v, ds[j]? = some d ∧ vs[j]? = some v ∧ Rep T H S d v
  | [], vs, j, r => by rw [Reps] at r; subst r; exact .inl ⟨rfl, rfl⟩
  | d :: ds, vs, 0, r => by
    rw [Reps] at r
    obtain ⟨v, w, rfl, a, _⟩ := r
    exact .inr ⟨d, v, rfl, rfl, a⟩
  | d :: ds, vs, j + 1, r => by
    rw [Reps] at r
    obtain ⟨v, w, rfl, _, b⟩ := r
    simpa using reps_pos j b
theorem reps_pick {H : Hp} {S : Addr → Prop} {ds : List D} {vs : List V} (r : Reps T H S ds vs) : ∀ js : List Nat, Reps T H S (js.filterMap fun i => ds[i]?) (js.filterMap fun i => vs[i]?)
  | [] => by rw [List.filterMap_nil, List.filterMap_nil, Reps]
  | j :: js => by
    have ih := reps_pick r js
    rw [List.filterMap_cons, List.filterMap_cons]
    rcases reps_pos j r with ⟨e1, e2⟩ | ⟨d, v, e1, e2, a⟩
    · rw [e1, e2]; exact ih
    · rw [e1, e2, Reps]; exact ⟨v, _, rfl, a, ih⟩
theorem pick_step (us : List Value) (lo hi st : Option Int) : slicePick us.toArray lo hi st = (stepL us lo hi st).toArray := by
  simp [slicePick, stepL]
def tStepL (K : PySem.W.Frag) (te : TE) (tl th ts : TO) : TE := fun σ H Q => te σ H fun x H1 => tl σ H1 fun l H2 => th σ H2 fun u H3 => ts σ H3 fun o H4 => ∃ a xs, x = .ref a ∧ SqL K H4 a xs ∧ o ≠ some 0 ∧ (stepL xs l u o).length ≤ sizeLine ∧ ∀ p, H4 p = none → Q (.ref p) (upd H4 p (.lst (stepL xs l u o)))
theorem pe_stepL {te : TE} {tl th ts : TO} {lo hi : Option Expr} {st : Expr} {p2 : Pos} (he : PE X e te) (hl : PO X lo tl) (hh : PO X hi th) (hs : PO X (some st) ts) : PE X (.Subscript e (.Slice lo hi (some st) p2) pos) (tStepL X.K te tl th ts) := by
  refine ⟨fun pins s σ H Q I h => ?_⟩
  refine Subscript_ (thn (he.run pins s σ H _ I h) fun v s1 ⟨x, H1, I1, r1, q1⟩ => ?_)
  refine wpAny_Slice (thn (hl.run pins s1 σ H1 _ I1 q1) fun vl s2 ⟨l, H2, I2, pl, q2⟩ => thn (hh.run pins s2 σ H2 _ I2 q2) fun vu s3 ⟨u, H3, I3, pu, q3⟩ => thn (hs.run pins s3 σ H3 _ I3 q3) fun vs s4 ⟨o, H4, I4, ps, q4⟩ => ?_)
  obtain ⟨a, xs, ex, hx, h0, hz2, q⟩ := q4
  subst ex
  cases r1
  have I5 : Inv X pins σ H4 { s4 with heap := s4.heap.push { cls := .type "slice", data := .fields #[vl, vu, vs] } } := I4.kept (t' := s4.toks) fun b ob q => Heap.get?_push_of_some _ q
  obtain ⟨its, r, ht, hz⟩ := I5.list hx
  have hlen := r.length
  show wpAny (model X.prog X.w) X.A (subscriptTail e (.Slice lo hi (some st) p2) (.ref a) (.ref s4.heap.objs.size)) (EP X pins σ Q) X.xe { s4 with heap := s4.heap.push { cls := .type "slice", data := .fields #[vl, vu, vs] } }
  refine tail_any (ops := [.ref a, .ref s4.heap.objs.size]) ht.isList.typeIs (PySem.slot_list_getitem.lookup) ?_ (by with_unfolding_all rfl)
  refine wpAny_getItem_list_slice ht.isList (Heap.IsSliceOf.new _ vl vu vs) pl pu ps h0 ?_ (by rw [List.size_toArray]; omega)
  rw [pick_step]
  refine ⟨.ref _, _, I5.laid (t' := s4.toks) (o := .lst (stepL xs l u o)) (fun b ob q => Heap.get?_push_of_some _ q) (Nat.le_refl _) ?_, rfl, q _ (I5.hok.fresh (Nat.le_refl _))⟩
  have vv : Vals (stepL xs l u o) (stepL its l u o) := by
    unfold stepL
    rw [hlen]
    exact vals_pick r _
  exact ⟨hz2, _, 0, vv, Heap.get?_push_size _ rfl⟩
/-- e[lo:hi:st], a new list -/
def fStep (f : FE) (fl fh fs : Es → Option (Option Int × Es)) : FA := fun δ => (f δ).bind fun (d, δ1) => (fl δ1).bind fun (l, δ2) => (fh δ2).bind fun (h, δ3) => (fs δ3).bind fun (o, δ4) => match d with
  | .lst ds => if o ≠ some 0 ∧ (stepL ds l h o).length ≤ big then some (stepL ds l h o, δ4) else none
  | _ => none
theorem pf_step {lo hi : Option Expr} {st : Expr} {fl fh fs : Es → Option (Option Int × Es)} {p2 : Pos} (he : PE X e (tD T fe)) (hl : PO X lo (tDo T fl)) (hh : PO X hi (tDo T fh)) (hs : PO X (some st) (tDo T fs)) : PE X (.Subscript e (.Slice lo hi (some st) p2) pos) (tF T (fStep fe fl fh fs)) := PE.imp (pe_stepL he hl hh hs) fun σ H Q ⟨S0, δ, ds, δ', ok, e, q⟩ => by
  obtain ⟨d1, δ1, e1, e2⟩ := bind_some2 e
  obtain ⟨l, δ2, e3, e4⟩ := bind_some2 e2
  obtain ⟨h, δ3, e5, e6⟩ := bind_some2 e4
  obtain ⟨o, δ4, e7, e8⟩ := bind_some2 e6
  refine ⟨S0, δ, d1, δ1, ok, e1, fun v H1 ok1 s1 r => ⟨S0, δ1, l, δ2, ok1, e3, fun H2 ok2 s2 => ⟨S0, δ2, h, δ3, ok2, e5, fun H3 ok3 s3 => ⟨S0, δ3, o, δ4, ok3, e7, fun H4 ok4 s4 => ?_⟩⟩⟩⟩
  have r3 := (s2.trans (s3.trans s4)).rep r
  dsimp only at e8
  split at e8
  · rename_i xs
    obtain ⟨⟨h0, hb⟩, e9⟩ := ite_some e8
    cases e9
    rw [Rep] at r3
    obtain ⟨a, vs, rfl, ha, _, rs⟩ := r3
    have rr : Reps T H4 (Av S0 σ δ') (stepL xs l h o) (stepL vs l h o) := by
      unfold stepL
      rw [rs.length]
      exact reps_pick rs _
    refine ⟨a, vs, rfl, SqL.of ha, h0, ?_, fun p hp => q p _ H4 ok4 (((s1.trans s2).trans s3).trans s4) hp rr⟩
    rw [rr.length]
    exact big_line hb
  · cases e8
end Dl
namespace My
def cof (t b : Int) : Int := if b < 0 then -(Int.gcd t b : Int) else (Int.gcd t b : Int)
def nrm (t b : Int) : Int × Int := (t.fdiv (cof t b), b.fdiv (cof t b))
structure IsN (t b p q : Int) : Prop where
  pos : 0 < q
  one : Int.gcd p q = 1
  eq : p * b = t * q
theorem cof_ne {t b : Int} (h : b ≠ 0) : cof t b ≠ 0 := by
  have : 0 < Int.gcd t b := Int.gcd_pos_of_ne_zero_right _ h
  unfold cof
  split <;> omega
theorem cof_dvd {t b : Int} : cof t b ∣ t ∧ cof t b ∣ b := by
  unfold cof
  split
  · exact ⟨Int.neg_dvd.mpr (Int.gcd_dvd_left ..), Int.neg_dvd.mpr (Int.gcd_dvd_right ..)⟩
  · exact ⟨Int.gcd_dvd_left .., Int.gcd_dvd_right ..⟩
theorem nrm_is {t b : Int} (h : b ≠ 0) : IsN t b (nrm t b).1 (nrm t b).2 := by
  obtain ⟨⟨p, hp⟩, ⟨q, hq⟩⟩ := @cof_dvd t b
  have hc := @cof_ne t b h
  have e1 : (nrm t b).1 = p := by
    show t.fdiv (cof t b) = p
    conv => lhs; arg 1; rw [hp]
    exact Int.mul_fdiv_cancel_left p hc
  have e2 : (nrm t b).2 = q := by
    show b.fdiv (cof t b) = q
    conv => lhs; arg 1; rw [hq]
    exact Int.mul_fdiv_cancel_left q hc
  rw [e1, e2]
  have hg : 0 < Int.gcd t b := Int.gcd_pos_of_ne_zero_right _ h
  have habs : (cof t b).natAbs = Int.gcd t b := by
    unfold cof
    split <;> simp
  refine ⟨?_, ?_, ?_⟩
  · have : b = cof t b * q := hq
    by_cases hb : b < 0
    · have hc' : cof t b < 0 := by unfold cof; rw [if_pos hb]; omega
      rcases Int.lt_trichotomy q 0 with hq' | hq' | hq'
      · have := Int.mul_pos_of_neg_of_neg hc' hq'; omega
      · subst hq'; omega
      · exact hq'
    · have hc' : 0 < cof t b := by unfold cof; rw [if_neg hb]; omega
      rcases Int.lt_trichotomy q 0 with hq' | hq' | hq'
      · have := Int.mul_neg_of_pos_of_neg hc' hq'; omega
      · subst hq'; omega
      · exact hq'
  · have e : Int.gcd (cof t b * p) (cof t b * q) = (cof t b).natAbs * Int.gcd p q := Int.gcd_mul_left ..
    rw [← hp, ← hq, habs] at e
    have : Int.gcd t b * Int.gcd p q = Int.gcd t b * 1 := by omega
    exact Nat.eq_of_mul_eq_mul_left hg this
  · calc p * b = p * (cof t b * q) := by rw [← hq]
      _ = (cof t b * p) * q := by rw [← Int.mul_assoc, Int.mul_comm p]
      _ = t * q := by rw [← hp]
theorem dvd_co {q a b : Int} (h : q ∣ a * b) (c : Int.gcd q a = 1) : q ∣ b := by
  rw [← Int.natAbs_dvd_natAbs] at h ⊢
  rw [Int.natAbs_mul] at h
  exact Nat.Coprime.dvd_of_dvd_mul_left c h
theorem isN_unique {t b p q p' q' : Int} (hb : b ≠ 0) (h : IsN t b p q) (h' : IsN t b p' q') : p = p' ∧ q = q' := by
  have e : p * q' = p' * q := by
    have : b * (p * q') = b * (p' * q) := by
      calc b * (p * q') = (p * b) * q' := by rw [← Int.mul_assoc, Int.mul_comm b]
        _ = t * q * q' := by rw [h.eq]
        _ = t * q' * q := by rw [Int.mul_assoc, Int.mul_comm q, ← Int.mul_assoc]
        _ = p' * b * q := by rw [h'.eq]
        _ = b * (p' * q) := by rw [← Int.mul_assoc, Int.mul_comm b]
    exact Int.eq_of_mul_eq_mul_left hb this
  have d1 : q ∣ q' := by
    have : q ∣ p * q' := ⟨p', by rw [e, Int.mul_comm]⟩
    exact dvd_co this (by rw [Int.gcd_comm]; exact h.one)
  have d2 : q' ∣ q := by
    have : q' ∣ p' * q := ⟨p, by rw [← e, Int.mul_comm]⟩
    exact dvd_co this (by rw [Int.gcd_comm]; exact h'.one)
  have eq : q = q' := Int.dvd_antisymm (Int.le_of_lt h.pos) (Int.le_of_lt h'.pos) d1 d2
  subst eq
  exact ⟨Int.eq_of_mul_eq_mul_right (Int.ne_of_gt h.pos) e, rfl⟩
theorem nrm_eq {t b p q : Int} (hb : b ≠ 0) (h : IsN t b p q) : nrm t b = (p, q) := by
  obtain ⟨e1, e2⟩ := isN_unique hb (nrm_is hb) h
  exact Prod.ext e1 e2
/-- the same fraction by other numbers -/
theorem nrm_same {t b t' b' : Int} (hb : b ≠ 0) (hb' : b' ≠ 0) (e : t * b' = t' * b) : nrm t b = nrm t' b' := by
  have h := nrm_is (t := t') hb'
  refine nrm_eq hb ⟨h.pos, h.one, ?_⟩
  have : b' * ((nrm t' b').1 * b) = b' * (t * (nrm t' b').2) := by
    calc b' * ((nrm t' b').1 * b) = ((nrm t' b').1 * b') * b := by rw [← Int.mul_assoc, Int.mul_comm b']
      _ = t' * (nrm t' b').2 * b := by rw [h.eq]
      _ = (t' * b) * (nrm t' b').2 := by rw [Int.mul_assoc, Int.mul_comm (nrm t' b').2, ← Int.mul_assoc]
      _ = (t * b') * (nrm t' b').2 := by rw [e]
      _ = b' * (t * (nrm t' b').2) := by rw [← Int.mul_assoc, Int.mul_comm t]
  exact Int.eq_of_mul_eq_mul_left hb' this
theorem nrm_one (i : Int) : nrm i 1 = (i, 1) := nrm_eq (by decide) ⟨by decide, by simp, by simp⟩
theorem natAbs_fdiv_le {a c : Int} (h : c ∣ a) : (a.fdiv c).natAbs ≤ a.natAbs := by
  obtain ⟨k, rfl⟩ := h
  by_cases hc : c = 0
  · subst hc; simp
  · rw [Int.mul_fdiv_cancel_left k hc, Int.natAbs_mul]
    exact Nat.le_mul_of_pos_left _ (by omega)
theorem nrm_le (t b : Int) : (nrm t b).1.natAbs ≤ t.natAbs ∧ (nrm t b).2.natAbs ≤ b.natAbs := ⟨natAbs_fdiv_le cof_dvd.1, natAbs_fdiv_le cof_dvd.2⟩
end My
namespace My
open PySem PySem.Spec PyProof.Rows L2 ClX Dl
def top (i : Nat) : Stmt := PySem.Challenge.pw_soughtrows_k43_whole_courses_through_wor.main.body.getD i (.Pass ⟨0, 0, 0, 0⟩)
def TT (K : PySem.W.Frag) (C0 C1 : Addr) : CT := ⟨fun c => match c with
  | 0 => some (C0, ["_top", "_bottom"])
  | 1 => some (C1, ["_parts"])
  | _ => none, scOf K⟩
theorem sS {K : PySem.W.Frag} {C0 C1 : Addr} : ScK K (TT K C0 C1) := fun a ns h H => h H
def pInt : D → Bool
  | .bl _ => true | .int _ => true | _ => false
def pBool : D → Bool
  | .bl _ => true | _ => false
def pStr : D → Bool
  | .str _ => true | _ => false
def pLst : D → Bool
  | .lst _ => true | _ => false
def pTup : D → Bool
  | .tup _ => true | _ => false
def pObj (c : Nat) : D → Bool
  | .obj c' _ => c' == c | _ => false
abbrev s_law_pot : Stmt := top 39
abbrev s_law_draw : Stmt := top 40
abbrev s_law_pick : Stmt := top 41
abbrev s_law_whole : Stmt := top 48
abbrev s_is_integer : Stmt := top 3
abbrev s_is_count : Stmt := top 4
abbrev s_is_list : Stmt := top 5
abbrev s_Ratio_init : Stmt := inClass (top 14) 0
abbrev s_as_ratio : Stmt := top 16
abbrev s_law_number : Stmt := top 42
abbrev s_law_binomials : Stmt := top 49
abbrev s_law_course : Stmt := top 43
abbrev s_law_worth : Stmt := top 44
abbrev s_Ratio_sign : Stmt := inClass (top 14) 4
abbrev s_Ratio_eq : Stmt := inClass (top 14) 6
abbrev s_law_form : Stmt := top 45
abbrev s_law_degree : Stmt := top 46
abbrev s_Ratio_repr : Stmt := inClass (top 14) 8
abbrev s_Ratio_add : Stmt := inClass (top 14) 10
abbrev s_Ratio_mul : Stmt := inClass (top 14) 14
abbrev s_is_number : Stmt := top 15
abbrev s_are_numbers : Stmt := top 17
abbrev s_check_whole : Stmt := top 19
abbrev s_worth : Stmt := top 21
abbrev s_trimmed : Stmt := top 36
abbrev s_least : Stmt := top 37
abbrev s_are_parts : Stmt := top 35
abbrev s_Course_init : Stmt := inClass (top 33) 0
abbrev s_Course_period : Stmt := inClass (top 33) 1
abbrev s_Course_degree : Stmt := inClass (top 33) 2
abbrev s_Course_at : Stmt := inClass (top 33) 4
abbrev s_Course_eq : Stmt := inClass (top 33) 5
abbrev s_summed : Stmt := top 22
abbrev s_Ratio_rmul : Stmt := inClass (top 14) 15
abbrev s_multiplied : Stmt := top 23
abbrev s_times_sum : Stmt := top 27
abbrev s_Ratio_sub : Stmt := inClass (top 14) 12
abbrev s_counting : Stmt := top 24
abbrev s_made_of : Stmt := top 25
abbrev s_differences_of : Stmt := top 26
abbrev s_grown : Stmt := top 34
abbrev s_law_made : Stmt := top 47
abbrev s_law_grown_right : Stmt := top 50
abbrev s_law_right : Stmt := top 51
abbrev s_law : Stmt := top 52
structure Facts (K : PySem.W.Frag) (mg : Str → Option Value) where
  C_Ratio : Addr
  C_Course : Addr
  a_law_pot : Addr
  d_law_pot : FuncData
  a_law_draw : Addr
  d_law_draw : FuncData
  a_law_pick : Addr
  d_law_pick : FuncData
  a_law_whole : Addr
  d_law_whole : FuncData
  a_is_integer : Addr
  d_is_integer : FuncData
  a_is_count : Addr
  d_is_count : FuncData
  a_is_list : Addr
  d_is_list : FuncData
  a_Ratio_init : Addr
  d_Ratio_init : FuncData
  a_as_ratio : Addr
  d_as_ratio : FuncData
  a_law_number : Addr
  d_law_number : FuncData
  a_law_binomials : Addr
  d_law_binomials : FuncData
  a_law_course : Addr
  d_law_course : FuncData
  a_law_worth : Addr
  d_law_worth : FuncData
  a_Ratio_sign : Addr
  d_Ratio_sign : FuncData
  a_Ratio_eq : Addr
  d_Ratio_eq : FuncData
  a_law_form : Addr
  d_law_form : FuncData
  a_law_degree : Addr
  d_law_degree : FuncData
  a_Ratio_repr : Addr
  d_Ratio_repr : FuncData
  a_Ratio_add : Addr
  d_Ratio_add : FuncData
  a_Ratio_mul : Addr
  d_Ratio_mul : FuncData
  a_is_number : Addr
  d_is_number : FuncData
  a_are_numbers : Addr
  d_are_numbers : FuncData
  a_check_whole : Addr
  d_check_whole : FuncData
  a_worth : Addr
  d_worth : FuncData
  p_Ratio_sign : Addr
  a_trimmed : Addr
  d_trimmed : FuncData
  a_least : Addr
  d_least : FuncData
  a_are_parts : Addr
  d_are_parts : FuncData
  a_Course_init : Addr
  d_Course_init : FuncData
  a_Course_period : Addr
  d_Course_period : FuncData
  a_Course_degree : Addr
  d_Course_degree : FuncData
  a_Course_at : Addr
  d_Course_at : FuncData
  a_Course_eq : Addr
  d_Course_eq : FuncData
  a_summed : Addr
  d_summed : FuncData
  a_Ratio_rmul : Addr
  d_Ratio_rmul : FuncData
  a_multiplied : Addr
  d_multiplied : FuncData
  a_times_sum : Addr
  d_times_sum : FuncData
  a_Ratio_sub : Addr
  d_Ratio_sub : FuncData
  a_counting : Addr
  d_counting : FuncData
  a_made_of : Addr
  d_made_of : FuncData
  a_differences_of : Addr
  d_differences_of : FuncData
  a_grown : Addr
  d_grown : FuncData
  a_law_made : Addr
  d_law_made : FuncData
  p_Course_period : Addr
  p_Course_degree : Addr
  a_law_grown_right : Addr
  d_law_grown_right : FuncData
  a_law_right : Addr
  d_law_right : FuncData
  a_law : Addr
  d_law : FuncData
  n_max : mg "max" = none
  n_len : mg "len" = none
  n_abs : mg "abs" = none
  n_sum : mg "sum" = none
  F_law_pot : Fun K "_law_pot" "_law_pot" s_law_pot a_law_pot d_law_pot
  b_law_pot : Binds K d_law_pot ["_law_script", "_law_k"] []
  n_divmod : mg "divmod" = none
  F_law_draw : Fun K "_law_draw" "_law_draw" s_law_draw a_law_draw d_law_draw
  b_law_draw : Binds K d_law_draw ["_law_pot_here", "_law_many"] []
  m_law_draw : mg "_law_draw" = some (.ref a_law_draw)
  F_law_pick : Fun K "_law_pick" "_law_pick" s_law_pick a_law_pick d_law_pick
  b_law_pick : Binds K d_law_pick ["_law_pot_here", "_law_some"] []
  m_law_pick : mg "_law_pick" = some (.ref a_law_pick)
  F_law_whole : Fun K "_law_whole" "_law_whole" s_law_whole a_law_whole d_law_whole
  b_law_whole : Binds K d_law_whole ["_law_pot_here"] []
  n_isinstance : mg "isinstance" = none
  ca : ClsAll K (TT K C_Ratio C_Course)
  i_int : Isi K (TT K C_Ratio C_Course) (.type "int") pInt
  n_int : mg "int" = none
  i_bool : Isi K (TT K C_Ratio C_Course) (.type "bool") pBool
  n_bool : mg "bool" = none
  F_is_integer : Fun K "is_integer" "is_integer" s_is_integer a_is_integer d_is_integer
  b_is_integer : Binds K d_is_integer ["value"] []
  m_is_integer : mg "is_integer" = some (.ref a_is_integer)
  F_is_count : Fun K "is_count" "is_count" s_is_count a_is_count d_is_count
  b_is_count : Binds K d_is_count ["value"] []
  i_list : Isi K (TT K C_Ratio C_Course) (.type "list") pLst
  n_list : mg "list" = none
  i_tuple : Isi K (TT K C_Ratio C_Course) (.type "tuple") pTup
  n_tuple : mg "tuple" = none
  F_is_list : Fun K "is_list" "is_list" s_is_list a_is_list d_is_list
  b_is_list : Binds K d_is_list ["value"] []
  m_gcd : mg "gcd" = some (.builtin "math.gcd")
  hc_Ratio : Cls K C_Ratio
  na_Ratio_top : NoAttr K C_Ratio "_top"
  na_Ratio_bottom : NoAttr K C_Ratio "_bottom"
  F_Ratio_init : FunD K "__init__" "Ratio.__init__" (defArgs s_Ratio_init) (defBody s_Ratio_init) (defScope s_Ratio_init) [V.int 1] [] a_Ratio_init d_Ratio_init
  i_Ratio : Isi K (TT K C_Ratio C_Course) (.ref C_Ratio) (pObj 0)
  m_Ratio : mg "Ratio" = some (.ref C_Ratio)
  mk_Ratio : Mk K C_Ratio a_Ratio_init
  bi_Ratio_init_1 : BndI K d_Ratio_init ["self", "top", "bottom"] 1 [] (gPos [.int 1])
  F_as_ratio : Fun K "as_ratio" "as_ratio" s_as_ratio a_as_ratio d_as_ratio
  b_as_ratio : Binds K d_as_ratio ["number"] []
  bi_Ratio_init_2 : BndI K d_Ratio_init ["self", "top", "bottom"] 2 [] (gPos [])
  F_law_number : Fun K "_law_number" "_law_number" s_law_number a_law_number d_law_number
  b_law_number : Binds K d_law_number ["_law_top", "_law_bottom"] []
  n_range : mg "range" = none
  n_zip : mg "zip" = none
  F_law_binomials : Fun K "_law_binomials" "_law_binomials" s_law_binomials a_law_binomials d_law_binomials
  b_law_binomials : Binds K d_law_binomials ["_law_many"] []
  F_law_course : Fun K "_law_course" "_law_course" s_law_course a_law_course d_law_course
  b_law_course : Binds K d_law_course ["_law_pot_here", "_law_most", "_law_degree_here"] []
  F_law_worth : Fun K "_law_worth" "_law_worth" s_law_worth a_law_worth d_law_worth
  b_law_worth : Binds K d_law_worth ["_law_own", "_law_whole_here"] []
  F_Ratio_sign : Fun K "sign" "Ratio.sign" s_Ratio_sign a_Ratio_sign d_Ratio_sign
  b_Ratio_sign : Binds K d_Ratio_sign ["self"] []
  F_Ratio_eq : Fun K "__eq__" "Ratio.__eq__" s_Ratio_eq a_Ratio_eq d_Ratio_eq
  b_Ratio_eq : Binds K d_Ratio_eq ["self", "other"] []
  e_Ratio_eq : PySem.W.findIn K (.ref C_Ratio) "__eq__" = some (some (.ref a_Ratio_eq))
  ef_Ratio_eq : PySem.W.isFn K (.ref a_Ratio_eq) = true
  tp_Ratio : Top K (TT K C_Ratio C_Course) C_Ratio
  ne_Ratio_eq : PySem.W.findIn K (.ref C_Ratio) "__ne__" = some (some (.builtin "object.__ne__"))
  ob_Ratio : PySem.W.subIn K (.ref C_Ratio) (.type "object") = some true
  F_law_form : Fun K "_law_form" "_law_form" s_law_form a_law_form d_law_form
  b_law_form : Binds K d_law_form ["_law_own"] []
  m_law_form : mg "_law_form" = some (.ref a_law_form)
  F_law_degree : Fun K "_law_degree" "_law_degree" s_law_degree a_law_degree d_law_degree
  b_law_degree : Binds K d_law_degree ["_law_own"] []
  F_Ratio_repr : Fun K "__repr__" "Ratio.__repr__" s_Ratio_repr a_Ratio_repr d_Ratio_repr
  b_Ratio_repr : Binds K d_Ratio_repr ["self"] []
  s_Ratio_repr : PySem.W.findIn K (.ref C_Ratio) "__repr__" = some (some (.ref a_Ratio_repr))
  sf_Ratio_repr : PySem.W.isFn K (.ref a_Ratio_repr) = true
  m_as_ratio : mg "as_ratio" = some (.ref a_as_ratio)
  F_Ratio_add : Fun K "__add__" "Ratio.__add__" s_Ratio_add a_Ratio_add d_Ratio_add
  b_Ratio_add : Binds K d_Ratio_add ["self", "other"] []
  F_Ratio_mul : Fun K "__mul__" "Ratio.__mul__" s_Ratio_mul a_Ratio_mul d_Ratio_mul
  b_Ratio_mul : Binds K d_Ratio_mul ["self", "other"] []
  F_is_number : Fun K "is_number" "is_number" s_is_number a_is_number d_is_number
  b_is_number : Binds K d_is_number ["value"] []
  m_is_list : mg "is_list" = some (.ref a_is_list)
  m_is_number : mg "is_number" = some (.ref a_is_number)
  n_all : mg "all" = none
  F_are_numbers : Fun K "are_numbers" "are_numbers" s_are_numbers a_are_numbers d_are_numbers
  b_are_numbers : Binds K d_are_numbers ["value", "many"] []
  F_check_whole : Fun K "check_whole" "check_whole" s_check_whole a_check_whole d_check_whole
  b_check_whole : Binds K d_check_whole ["whole"] []
  o_Ratio_add : OwnOp K C_Ratio .Add a_Ratio_add
  o_Ratio_mul : OwnOp K C_Ratio .Mult a_Ratio_mul
  F_worth : Fun K "worth" "worth" s_worth a_worth d_worth
  b_worth : Binds K d_worth ["numbers", "whole"] []
  pr_Ratio_sign : PropOf K C_Ratio "sign" p_Ratio_sign a_Ratio_sign
  F_trimmed : Fun K "_trimmed" "_trimmed" s_trimmed a_trimmed d_trimmed
  b_trimmed : Binds K d_trimmed ["numbers"] []
  n_enumerate : mg "enumerate" = none
  F_least : Fun K "_least" "_least" s_least a_least d_least
  b_least : Binds K d_least ["parts"] []
  mi_MOST_PARTS : ∃ tk, mg "MOST_PARTS" = some (.int 60 tk)
  mi_MOST_NUMBERS : ∃ tk, mg "MOST_NUMBERS" = some (.int 8 tk)
  m_are_numbers : mg "are_numbers" = some (.ref a_are_numbers)
  F_are_parts : Fun K "_are_parts" "_are_parts" s_are_parts a_are_parts d_are_parts
  b_are_parts : Binds K d_are_parts ["value"] []
  m_are_parts : mg "_are_parts" = some (.ref a_are_parts)
  hc_Course : Cls K C_Course
  na_Course_parts : NoAttr K C_Course "_parts"
  m_least : mg "_least" = some (.ref a_least)
  m_trimmed : mg "_trimmed" = some (.ref a_trimmed)
  F_Course_init : Fun K "__init__" "Course.__init__" s_Course_init a_Course_init d_Course_init
  b_Course_init : Binds K d_Course_init ["self", "parts"] []
  F_Course_period : Fun K "period" "Course.period" s_Course_period a_Course_period d_Course_period
  b_Course_period : Binds K d_Course_period ["self"] []
  F_Course_degree : Fun K "degree" "Course.degree" s_Course_degree a_Course_degree d_Course_degree
  b_Course_degree : Binds K d_Course_degree ["self"] []
  m_check_whole : mg "check_whole" = some (.ref a_check_whole)
  m_worth : mg "worth" = some (.ref a_worth)
  F_Course_at : Fun K "at" "Course.at" s_Course_at a_Course_at d_Course_at
  b_Course_at : Binds K d_Course_at ["self", "whole"] []
  i_Course : Isi K (TT K C_Ratio C_Course) (.ref C_Course) (pObj 1)
  m_Course : mg "Course" = some (.ref C_Course)
  F_Course_eq : Fun K "__eq__" "Course.__eq__" s_Course_eq a_Course_eq d_Course_eq
  b_Course_eq : Binds K d_Course_eq ["self", "other"] []
  F_summed : Fun K "summed" "summed" s_summed a_summed d_summed
  b_summed : Binds K d_summed ["one", "two"] []
  F_Ratio_rmul : Fun K "__rmul__" "Ratio.__rmul__" s_Ratio_rmul a_Ratio_rmul d_Ratio_rmul
  b_Ratio_rmul : Binds K d_Ratio_rmul ["self", "other"] []
  r_Ratio_rmul : OwnRev K C_Ratio .Mult a_Ratio_rmul "int.__mul__" Builtin.«int.__mul__»
  F_multiplied : Fun K "multiplied" "multiplied" s_multiplied a_multiplied d_multiplied
  b_multiplied : Binds K d_multiplied ["numbers", "number"] []
  m_summed : mg "summed" = some (.ref a_summed)
  m_multiplied : mg "multiplied" = some (.ref a_multiplied)
  F_times_sum : Fun K "_times_sum" "_times_sum" s_times_sum a_times_sum d_times_sum
  b_times_sum : Binds K d_times_sum ["numbers", "beside", "by"] []
  F_Ratio_sub : Fun K "__sub__" "Ratio.__sub__" s_Ratio_sub a_Ratio_sub d_Ratio_sub
  b_Ratio_sub : Binds K d_Ratio_sub ["self", "other"] []
  m_times_sum : mg "_times_sum" = some (.ref a_times_sum)
  o_Ratio_sub : OwnOp K C_Ratio .Sub a_Ratio_sub
  F_counting : Fun K "counting" "counting" s_counting a_counting d_counting
  b_counting : Binds K d_counting ["step", "first", "many"] []
  F_made_of : Fun K "made_of" "made_of" s_made_of a_made_of d_made_of
  b_made_of : Binds K d_made_of ["numbers", "polynomials"] []
  F_differences_of : Fun K "differences_of" "differences_of" s_differences_of a_differences_of d_differences_of
  b_differences_of : Binds K d_differences_of ["values"] []
  m_is_count : mg "is_count" = some (.ref a_is_count)
  mi_MOST_GROWN : ∃ tk, mg "MOST_GROWN" = some (.int 12 tk)
  mi_MOST_ROUNDS : ∃ tk, mg "MOST_ROUNDS" = some (.int 5 tk)
  mk_Course : Mk K C_Course a_Course_init
  bi_Course_init_1 : BndI K d_Course_init ["self", "parts"] 1 [] (gPos [])
  m_made_of : mg "made_of" = some (.ref a_made_of)
  m_counting : mg "counting" = some (.ref a_counting)
  m_differences_of : mg "differences_of" = some (.ref a_differences_of)
  F_grown : Fun K "grown" "grown" s_grown a_grown d_grown
  b_grown : Binds K d_grown ["period", "numbers"] []
  m_law_number : mg "_law_number" = some (.ref a_law_number)
  F_law_made : Fun K "_law_made" "_law_made" s_law_made a_law_made d_law_made
  b_law_made : Binds K d_law_made ["_law_own"] []
  n_repr : mg "repr" = none
  m_grown : mg "grown" = some (.ref a_grown)
  e_Course_eq : PySem.W.findIn K (.ref C_Course) "__eq__" = some (some (.ref a_Course_eq))
  ef_Course_eq : PySem.W.isFn K (.ref a_Course_eq) = true
  tp_Course : Top K (TT K C_Ratio C_Course) C_Course
  ne_Course_eq : PySem.W.findIn K (.ref C_Course) "__ne__" = some (some (.builtin "object.__ne__"))
  ob_Course : PySem.W.subIn K (.ref C_Course) (.type "object") = some true
  pr_Course_period : PropOf K C_Course "period" p_Course_period a_Course_period
  pr_Course_degree : PropOf K C_Course "degree" p_Course_degree a_Course_degree
  t_Course_at : Meth K C_Course "at" a_Course_at
  m_law_whole : mg "_law_whole" = some (.ref a_law_whole)
  m_law_binomials : mg "_law_binomials" = some (.ref a_law_binomials)
  F_law_grown_right : Fun K "_law_grown_right" "_law_grown_right" s_law_grown_right a_law_grown_right d_law_grown_right
  b_law_grown_right : Binds K d_law_grown_right ["_law_pot_here"] []
  m_law_grown_right : mg "_law_grown_right" = some (.ref a_law_grown_right)
  m_law_course : mg "_law_course" = some (.ref a_law_course)
  m_law_degree : mg "_law_degree" = some (.ref a_law_degree)
  m_law_worth : mg "_law_worth" = some (.ref a_law_worth)
  m_law_made : mg "_law_made" = some (.ref a_law_made)
  F_law_right : Fun K "_law_right" "_law_right" s_law_right a_law_right d_law_right
  b_law_right : Binds K d_law_right ["_law_pot_here"] []
  m_law_right : mg "_law_right" = some (.ref a_law_right)
  m_law_pot : mg "_law_pot" = some (.ref a_law_pot)
  F_law : Fun K "law" "law" s_law a_law d_law
  b_law : Binds K d_law ["_law_script"] []
section
variable {P : Program} {w : World} {K : PySem.W.Frag} {mg : Str → Option Value} {base : Heap}
def G_Ratio_init : List D → Option (List D)
  | [.int t, .int b] => if b ≠ 0 ∧ b.natAbs < 2 ^ 4000 then some [.int (nrm t b).1, .int (nrm t b).2] else none
  | _ => none
theorem cof_small {t b : Int} (h : b ≠ 0) (hs : b.natAbs < 2 ^ 4000) (a : Int) : okDivN a (cof t b) = true := by
  have hn := @cof_ne t b h
  have hl : (cof t b).natAbs ≤ b.natAbs := by
    have h1 : (cof t b).natAbs = Int.gcd t b := by unfold cof; split <;> simp
    rw [h1]
    exact Nat.le_of_dvd (by omega) (Int.natAbs_dvd_natAbs.mpr (Int.gcd_dvd_right t b))
  unfold okDivN
  simp only [Bool.and_eq_true, decide_eq_true_eq]
  exact ⟨hn, Nat.lt_of_le_of_lt hl hs⟩
def fu_law_common : Es → Nat := fun δ => match (δ[3]? : Option Sl) with
  | some (Sl.val (D.int j)) => j.natAbs + 1
  | _ => 0
def fu_trimmed : Es → Nat := fun δ => match (δ[1]? : Option Sl) with
  | some (Sl.val (D.int j)) => j.natAbs + 1
  | _ => 0
def fu_law_form : Es → Nat := fun δ => match (δ[3]? : Option Sl) with
  | some (Sl.own _ ds) => ds.length + 1
  | _ => 0
def fu_differences_of : Es → Nat := fun δ => match (δ[2]? : Option Sl) with
  | some (Sl.val (D.lst ds)) => ds.length + 1
  | some (Sl.own _ ds) => ds.length + 1
  | _ => 0
theorem sc_law_pot : FnScope ["_law_script", "_law_k", "_law_cell"] ["_law_script", "_law_k"] (defScope s_law_pot) := ⟨rfl, rfl, rfl, by decide +kernel, rfl, by decide +kernel, by decide +kernel⟩
def g_law_pot : FA := (sSeqF (sSet 2 (fBin gAdd0 (fBin gAdd0 (fBin (gOr (gI okMul fun i j => .int (i * j)) gRep) (fC (.int 359)) (fV 1)) (fC (.int 733))) (fBin (gI okPos fun i j => .int (i % j)) (fFun funSum (fCons (fFr (fSliceS (fV 0) fNoPart (fPart (fC (.int 1))))) fNil)) (fC (.int 1000003)))))
    (sSeqF (sIf (fB (fBin (gI0 fun i j => .bl (decide (i < j))) (fV 1) (fFun funLenR (fCons (fV 0) fNil)))) (sSet 2 (fFun (fun1I fun i => .int (if i < 0 then -i else i)) (fCons (fBin gIxS (fV 0) (fV 1)) fNil))) sNil)
    (fLst (fCons (fFun funMax2 (fCons (fC (.int 0)) (fCons (fBin (gI0 fun i j => .int (i - j)) (fV 2) (fBin (gI okPow fun i j => .int (i ^ j.toNat)) (fC (.int 10)) (fC (.int 18)))) fNil))) (fCons (fBin gAdd0 (fBin (gI okPos fun i j => .int (i % j)) (fBin (gOr (gI okMul fun i j => .int (i * j)) gRep) (fBin gAdd0 (fBin (gI okPos fun i j => .int (i % j)) (fV 2) (fC (.int 2147483549))) (fC (.int 89))) (fBin (gI okPow fun i j => .int (i ^ j.toNat)) (fBin gAdd0 (fBin (gOr (gI okMul fun i j => .int (i * j)) gRep) (fC (.int 2)) (fV 1)) (fC (.int 67))) (fC (.int 3)))) (fC (.int 2147483477))) (fC (.int 1))) fNil)))))
def G_law_pot : List D → Option (List D) := outF 3 g_law_pot
theorem ok_law_pot (M : Facts K mg) : FnG P w K mg base 1 M.a_law_pot M.d_law_pot ["_law_script", "_law_k"] (spF (TT K M.C_Ratio M.C_Course) 2 G_law_pot) :=
  okF (g := g_law_pot) M.F_law_pot sc_law_pot rfl rfl (fun cdv A outer s H E hq hr =>
    (sts_consF (st_set 2 sc_law_pot.nd (pd_op op_add0 opv_add0 (pd_op op_add0 opv_add0 (pd_op (Dl.OpR.or op_mulW op_rep) (Dl.OpV.or opv_mulW opv_rep) pd_int (pd_v 1)) pd_int) (pd_op op_mod opv_mod (pd_blt (cr_sum rfl) callv_sum M.n_sum (by decide +kernel) (pds_cons (pd_fr (pf_sliceS sS (pd_v 0) pdo_none (pdo_some pd_int))) pds_nil)) pd_int)))
    (sts_consF (st_if (pt_cmp' op_lt opv_lt (pd_v 1) (pd_blt call_len_seq (callv_lenR sS) M.n_len PySem.boot_len (pds_cons (pd_v 0) pds_nil)) rfl) (sts_one (st_set 2 sc_law_pot.nd (pd_blt call_abs callv_abs M.n_abs (by decide +kernel) (pds_cons (pd_ixS sS (pd_v 0) (pd_v 1)) pds_nil)))) sts_nil)
    (sts_retF (pf_lst (pds_cons (pd_blt (call_max2 rfl) callv_max2 M.n_max (by decide +kernel) (pds_cons pd_int (pds_cons (pd_op op_sub opv_sub (pd_v 2) (pd_op op_pow opv_pow pd_int pd_int)) pds_nil))) (pds_cons (pd_op op_add0 opv_add0 (pd_op op_mod opv_mod (pd_op (Dl.OpR.or op_mulW op_rep) (Dl.OpV.or opv_mulW opv_rep) (pd_op op_add0 opv_add0 (pd_op op_mod opv_mod (pd_v 2) pd_int) pd_int) (pd_op op_pow opv_pow (pd_op op_add0 opv_add0 (pd_op (Dl.OpR.or op_mulW op_rep) (Dl.OpV.or opv_mulW opv_rep) pd_int (pd_v 1)) pd_int) pd_int)) pd_int) pd_int) pds_nil)))))))

theorem sc_law_draw : FnScope ["_law_pot_here", "_law_many", "_law_digit"] ["_law_pot_here", "_law_many"] (defScope s_law_draw) := ⟨rfl, rfl, rfl, by decide +kernel, rfl, by decide +kernel, by decide +kernel⟩
def g_law_draw : FS := (sSeq (sIf (fB (fBin (gI0 fun i j => .bl (decide (j < i))) (fIxN 0 (fC (.int 0))) (fC (.int 0)))) (sSeq (sAsg (fFun funDivmod (fCons (fIxN 0 (fC (.int 0))) (fCons (fV 1) fNil))) (gT 2 (gsCons (gI1 0 (fC (.int 0))) (gsCons (gN 2) gsNil))))
    (sRet (fV 2))) sNil)
    (sSeq (sAsg (fBin (gI okPos fun i j => .int (i % j)) (fBin gAdd0 (fBin (gOr (gI okMul fun i j => .int (i * j)) gRep) (fIxN 0 (fC (.int 1))) (fC (.int 48271))) (fC (.int 89))) (fC (.int 2147483587))) (gI1 0 (fC (.int 1))))
    (sRet (fBin (gI okPos fun i j => .int (i % j)) (fBin (gI okDivN fun i j => .int (i.fdiv j)) (fBin (gI okPos fun i j => .int (i % j)) (fBin (gOr (gI okMul fun i j => .int (i * j)) gRep) (fIxN 0 (fC (.int 1))) (fIxN 0 (fC (.int 1)))) (fC (.int 2147483549))) (fC (.int 13))) (fV 1)))))
def G_law_draw : List D → List D → Option (D × List D) := outP 3 g_law_draw
theorem ok_law_draw (M : Facts K mg) : FnG P w K mg base 1 M.a_law_draw M.d_law_draw ["_law_pot_here", "_law_many"] (sp1 (TT K M.C_Ratio M.C_Course) 1 G_law_draw) :=
  ok1' (g := g_law_draw) M.F_law_draw sc_law_draw rfl rfl (fun cdv A outer s H E hq hr =>
    (sts_cons (st_if (pt_cmp' op_gt opv_gt (pd_ixN (i := 0) pd_int) pd_int rfl) (sts_cons (st_asg (ws := [2, 0]) (pd_blt call_divmodW callv_divmod M.n_divmod (by decide +kernel) (pds_cons (pd_ixN (i := 0) pd_int) (pds_cons (pd_v 1) pds_nil))) (tg_t rfl (tgs_cons (tg_i (i := 0) pd_int) (tgs_cons (tg_n 2 sc_law_draw.nd) tgs_nil))))
    (sts_one (st_ret (pd_v 2)))) sts_nil)
    (sts_cons (st_asg (ws := [0]) (pd_op op_mod opv_mod (pd_op op_add0 opv_add0 (pd_op (Dl.OpR.or op_mulW op_rep) (Dl.OpV.or opv_mulW opv_rep) (pd_ixN (i := 0) pd_int) pd_int) pd_int) pd_int) (tg_i (i := 0) pd_int))
    (sts_one (st_ret (pd_op op_mod opv_mod (pd_op op_fdivNW opv_fdiv (pd_op op_mod opv_mod (pd_op (Dl.OpR.or op_mulW op_rep) (Dl.OpV.or opv_mulW opv_rep) (pd_ixN (i := 0) pd_int) (pd_ixN (i := 0) pd_int)) pd_int) pd_int) (pd_v 1)))))))

theorem sc_law_pick : FnScope ["_law_pot_here", "_law_some"] ["_law_pot_here", "_law_some"] (defScope s_law_pick) := ⟨rfl, rfl, rfl, by decide +kernel, rfl, by decide +kernel, by decide +kernel⟩
def g_law_pick : FS := (sRet (fIxN 1 (fCallP 0 G_law_draw (fCons (fLenN 1) fNil))))
def G_law_pick : List D → List D → Option (D × List D) := outP 2 g_law_pick
theorem ok_law_pick (M : Facts K mg) : FnG P w K mg base 2 M.a_law_pick M.d_law_pick ["_law_pot_here", "_law_some"] (sp1 (TT K M.C_Ratio M.C_Course) 1 G_law_pick) :=
  ok1' (g := g_law_pick) M.F_law_pick sc_law_pick rfl rfl (fun cdv A outer s H E hq hr =>
    (sts_one (st_ret (pd_ixN (i := 1) (pd_callP (i := 0) (ok_law_draw M) hq (hr.mono (by decide)) M.m_law_draw M.F_law_draw.kp M.b_law_draw rfl (pds_cons (pd_lenN (i := 1) M.n_len) pds_nil))))))

theorem sc_law_whole : FnScope ["_law_pot_here", "_law_near"] ["_law_pot_here"] (defScope s_law_whole) := ⟨rfl, rfl, rfl, by decide +kernel, rfl, by decide +kernel, by decide +kernel⟩
def g_law_whole : FS := (sSeq (sSet 1 (fBin (gI0 fun i j => .int (i - j)) (fCallP 0 G_law_draw (fCons (fC (.int 41)) fNil)) (fC (.int 20))))
    (sRet (fCallP 0 G_law_pick (fCons (fFr (fLst (fCons (fV 1) (fCons (fV 1) (fCons (fBin gAdd0 (fBin (gOr (gI okMul fun i j => .int (i * j)) gRep) (fV 1) (fBin (gI okPow fun i j => .int (i ^ j.toNat)) (fC (.int 10)) (fC (.int 4)))) (fC (.int 7))) (fCons (fBin (gI0 fun i j => .int (i - j)) (fBin (gOr (gI okMul fun i j => .int (i * j)) gRep) (fV 1) (fBin (gI okPow fun i j => .int (i ^ j.toNat)) (fC (.int 10)) (fC (.int 24)))) (fC (.int 5))) fNil)))))) fNil))))
def G_law_whole : List D → List D → Option (D × List D) := outP 2 g_law_whole
theorem ok_law_whole (M : Facts K mg) : FnG P w K mg base 3 M.a_law_whole M.d_law_whole ["_law_pot_here"] (sp1 (TT K M.C_Ratio M.C_Course) 0 G_law_whole) :=
  ok1' (g := g_law_whole) M.F_law_whole sc_law_whole rfl rfl (fun cdv A outer s H E hq hr =>
    (sts_cons (st_set 1 sc_law_whole.nd (pd_op op_sub opv_sub (pd_callP (i := 0) (ok_law_draw M) hq (hr.mono (by decide)) M.m_law_draw M.F_law_draw.kp M.b_law_draw rfl (pds_cons pd_int pds_nil)) pd_int))
    (sts_one (st_ret (pd_callP (i := 0) (ok_law_pick M) hq (hr.mono (by decide)) M.m_law_pick M.F_law_pick.kp M.b_law_pick rfl (pds_cons (pd_fr (pf_lst (pds_cons (pd_v 1) (pds_cons (pd_v 1) (pds_cons (pd_op op_add0 opv_add0 (pd_op (Dl.OpR.or op_mulW op_rep) (Dl.OpV.or opv_mulW opv_rep) (pd_v 1) (pd_op op_pow opv_pow pd_int pd_int)) pd_int) (pds_cons (pd_op op_sub opv_sub (pd_op (Dl.OpR.or op_mulW op_rep) (Dl.OpV.or opv_mulW opv_rep) (pd_v 1) (pd_op op_pow opv_pow pd_int pd_int)) pd_int) pds_nil)))))) pds_nil))))))

theorem sc_is_integer : FnScope ["value"] ["value"] (defScope s_is_integer) := ⟨rfl, rfl, rfl, by decide +kernel, rfl, by decide +kernel, by decide +kernel⟩
def g_is_integer : FS := (sRet (fAndV (fIsi pInt (fV 0)) (fNotV (fIsi pBool (fV 0)))))
def G_is_integer : List D → Option D := outD 1 g_is_integer
theorem ok_is_integer (M : Facts K mg) : FnG P w K mg base 1 M.a_is_integer M.d_is_integer ["value"] (sp0 (TT K M.C_Ratio M.C_Course) 1 G_is_integer) :=
  ok0' (g := g_is_integer) M.F_is_integer sc_is_integer rfl rfl (fun cdv A outer s H E hq hr =>
    (sts_one (st_ret (pd_and (pd_isi (pd_v 0) (pe_bltn (v := .ty "int") rfl M.n_int (by decide +kernel) rfl) (ClsV.ty "int") M.ca M.i_int M.n_isinstance) (pd_one (pd_not (pd_isi (pd_v 0) (pe_bltn (v := .ty "bool") rfl M.n_bool (by decide +kernel) rfl) (ClsV.ty "bool") M.ca M.i_bool M.n_isinstance)))))))

theorem sc_is_count : FnScope ["value"] ["value"] (defScope s_is_count) := ⟨rfl, rfl, rfl, by decide +kernel, rfl, by decide +kernel, by decide +kernel⟩
def g_is_count : FS := (sRet (fAndV (fCall G_is_integer (gPos []) (fCons (fV 0) fNil) fNil) (fBin (gI0 fun i j => .bl (decide (j ≤ i))) (fV 0) (fC (.int 0)))))
def G_is_count : List D → Option D := outD 1 g_is_count
theorem ok_is_count (M : Facts K mg) : FnG P w K mg base 2 M.a_is_count M.d_is_count ["value"] (sp0 (TT K M.C_Ratio M.C_Course) 1 G_is_count) :=
  ok0' (g := g_is_count) M.F_is_count sc_is_count rfl rfl (fun cdv A outer s H E hq hr =>
    (sts_one (st_ret (pd_and (pd_call (ok_is_integer M) hq (hr.mono (by decide)) M.m_is_integer M.F_is_integer.kp (bnd_of 1 M.b_is_integer .nil lits_nil rfl) (pds_cons (pd_v 0) pds_nil) pks_nil) (pd_one (pd_cmp op_ge opv_ge (pd_v 0) pd_int rfl))))))

theorem sc_is_list : FnScope ["value"] ["value"] (defScope s_is_list) := ⟨rfl, rfl, rfl, by decide +kernel, rfl, by decide +kernel, by decide +kernel⟩
def g_is_list : FS := (sRet (fIsi (fun d => pLst d || pTup d) (fV 0)))
def G_is_list : List D → Option D := outD 1 g_is_list
theorem ok_is_list (M : Facts K mg) : FnG P w K mg base 1 M.a_is_list M.d_is_list ["value"] (sp0 (TT K M.C_Ratio M.C_Course) 1 G_is_list) :=
  ok0' (g := g_is_list) M.F_is_list sc_is_list rfl rfl (fun cdv A outer s H E hq hr =>
    (sts_one (st_ret (pd_isi2 (pd_v 0) (pe_bltn (v := .ty "list") rfl M.n_list (by decide +kernel) rfl) (pe_bltn (v := .ty "tuple") rfl M.n_tuple (by decide +kernel) rfl) (ClsV.ty "list") (ClsV.ty "tuple") M.ca M.i_list M.i_tuple M.n_isinstance))))

theorem sc_Ratio_init : FnScope ["self", "top", "bottom", "common"] ["self", "top", "bottom"] (defScope s_Ratio_init) := ⟨rfl, rfl, rfl, by decide +kernel, rfl, by decide +kernel, by decide +kernel⟩
def g_Ratio_init (C : Addr) : FS := (sSeq (sIf (fNot (fB (fCall G_is_integer (gPos []) (fCons (fV 1) fNil) fNil))) sNo sNil)
    (sSeq (sIf (fOr (fNot (fB (fCall G_is_integer (gPos []) (fCons (fV 2) fNil) fNil))) (fB (fBin gEqF (fV 2) (fC (.int 0))))) sNo sNil)
    (sSeq (sSet 3 (fFun funGcd (fCons (fV 1) (fCons (fV 2) fNil))))
    (sSeq (sIf (fB (fBin (gI0 fun i j => .bl (decide (i < j))) (fV 2) (fC (.int 0)))) (sSet 3 (fUn gNeg (fV 3))) sNil)
    (sSeq (sIni 0 C ["_top", "_bottom"] "_top" (fBin (gI okDivN fun i j => .int (i.fdiv j)) (fV 1) (fV 3)))
    (sIni 0 C ["_top", "_bottom"] "_bottom" (fBin (gI okDivN fun i j => .int (i.fdiv j)) (fV 2) (fV 3))))))))
theorem tell_Ratio_init (C dx : Addr) (ds fs : List D) (h : ds.length = 2) (e : G_Ratio_init ds = some fs) : ∃ r, g_Ratio_init C (.own (.ini C dx ["_top", "_bottom"]) [] :: ini 3 ds) = some r ∧ endI C ["_top", "_bottom"] r = some fs := by
  unfold G_Ratio_init at e
  split at e
  case h_2 => cases e
  rename_i t b
  obtain ⟨⟨hb, hs⟩, e⟩ := ite_some e
  subst e
  have k1 := @cof_small t b hb hs t
  have k2 := @cof_small t b hb hs b
  have isI : ∀ i : Int, G_is_integer [.int i] = some (.bl true) := fun _ => rfl
  by_cases hn : b < 0
  · have e : cof t b = -(Int.gcd t b : Int) := if_pos hn
    simp only [e] at k1 k2
    simp [g_Ratio_init, sSeq, sIf, fNot, fOr, fB, fCall, fCons, fNil, fV, ini, gPos, isI, sNo, sNil, fBin, Dl.gOr, gEqF, litV, scal, sSet, fFun, funGcd, gI0, gI, fC, sIni, hb, hn, fUn, gNeg, uOr, nrm, e]
    simp [k1, k2, endI, Int.gcd] at k1 k2 ⊢
  · have e : cof t b = (Int.gcd t b : Int) := if_neg hn
    simp only [e] at k1 k2
    simp [g_Ratio_init, sSeq, sIf, fNot, fOr, fB, fCall, fCons, fNil, fV, ini, gPos, isI, sNo, sNil, fBin, Dl.gOr, gEqF, litV, scal, sSet, fFun, funGcd, gI0, gI, fC, sIni, hb, hn, fUn, gNeg, uOr, nrm, e]
    simp [k1, k2, endI, Int.gcd] at k1 k2 ⊢
theorem ok_Ratio_init (M : Facts K mg) : FnG P w K mg base 2 M.a_Ratio_init M.d_Ratio_init ["self", "top", "bottom"] (spI (TT K M.C_Ratio M.C_Course) 0 2 G_Ratio_init) :=
  okI (g := g_Ratio_init M.C_Ratio) (C := M.C_Ratio) G_Ratio_init M.F_Ratio_init sc_Ratio_init rfl rfl (fun cdv A outer s H E hq hr =>
    (sts_cons (st_if (pt_n (pt_d (pd_call (ok_is_integer M) hq (hr.mono (by decide)) M.m_is_integer M.F_is_integer.kp (bnd_of 1 M.b_is_integer .nil lits_nil rfl) (pds_cons (pd_v 1) pds_nil) pks_nil))) (sts_one st_no) sts_nil)
    (sts_cons (st_if (PW.pt (w_or (pt_n (pt_d (pd_call (ok_is_integer M) hq (hr.mono (by decide)) M.m_is_integer M.F_is_integer.kp (bnd_of 1 M.b_is_integer .nil lits_nil rfl) (pds_cons (pd_v 2) pds_nil) pks_nil))) (w_or1 (pt_cmp' op_eq opv_eqF (pd_v 2) pd_int rfl)))) (sts_one st_no) sts_nil)
    (sts_cons (st_set 3 sc_Ratio_init.nd (pd_bfun cr_gcd callv_gcd M.m_gcd (pds_cons (pd_v 1) (pds_cons (pd_v 2) pds_nil))))
    (sts_cons (st_if (pt_cmp' op_lt opv_lt (pd_v 2) pd_int rfl) (sts_one (st_set 3 sc_Ratio_init.nd (pd_un un_neg unv_neg (pd_v 3)))) sts_nil)
    (sts_cons (st_ini (i := 0) (pd_op op_fdivNW opv_fdiv (pd_v 1) (pd_v 3)) M.hc_Ratio M.na_Ratio_top)
    (sts_one (st_ini (i := 0) (pd_op op_fdivNW opv_fdiv (pd_v 2) (pd_v 3)) M.hc_Ratio M.na_Ratio_bottom)))))))) fun dx ds fs h1 h2 => tell_Ratio_init M.C_Ratio dx ds fs h1 h2

theorem sc_as_ratio : FnScope ["number"] ["number"] (defScope s_as_ratio) := ⟨rfl, rfl, rfl, by decide +kernel, rfl, by decide +kernel, by decide +kernel⟩
def g_as_ratio : FS := (sSeq (sIf (fB (fIsi (pObj 0) (fV 0))) (sRet (fV 0)) sNil)
    (sRet (fMake 0 G_Ratio_init (gPos [.int 1]) (fCons (fV 0) fNil) fNil)))
def G_as_ratio : List D → Option D := outD 1 g_as_ratio
theorem ok_as_ratio (M : Facts K mg) : FnG P w K mg base 4 M.a_as_ratio M.d_as_ratio ["number"] (sp0 (TT K M.C_Ratio M.C_Course) 1 G_as_ratio) :=
  ok0' (g := g_as_ratio) M.F_as_ratio sc_as_ratio rfl rfl (fun cdv A outer s H E hq hr =>
    (sts_cons (st_if (pt_d (pd_isi (pd_v 0) (pe_glob (v := .ref M.C_Ratio) rfl M.m_Ratio rfl) (ClsV.own M.C_Ratio) M.ca M.i_Ratio M.n_isinstance)) (sts_one (st_ret (pd_v 0))) sts_nil)
    (sts_one (st_ret (pd_make (c := 0) rfl M.mk_Ratio (ok_Ratio_init M) hq (hr.mono (by decide)) M.m_Ratio M.bi_Ratio_init_1 (pds_cons (pd_v 0) pds_nil) pks_nil)))))

theorem sc_law_number : FnScope ["_law_top", "_law_bottom"] ["_law_top", "_law_bottom"] (defScope s_law_number) := ⟨rfl, rfl, rfl, by decide +kernel, rfl, by decide +kernel, by decide +kernel⟩
def g_law_number : FS := (sRet (fIf (fB (fBin gEqF (fV 1) (fC (.int 1)))) (fV 0) (fMake 0 G_Ratio_init (gPos []) (fCons (fV 0) (fCons (fV 1) fNil)) fNil)))
def G_law_number : List D → Option D := outD 2 g_law_number
theorem ok_law_number (M : Facts K mg) : FnG P w K mg base 4 M.a_law_number M.d_law_number ["_law_top", "_law_bottom"] (sp0 (TT K M.C_Ratio M.C_Course) 2 G_law_number) :=
  ok0' (g := g_law_number) M.F_law_number sc_law_number rfl rfl (fun cdv A outer s H E hq hr =>
    (sts_one (st_ret (pd_if (pt_cmp' op_eq opv_eqF (pd_v 1) pd_int rfl) (pd_v 0) (pd_make (c := 0) rfl M.mk_Ratio (ok_Ratio_init M) hq (hr.mono (by decide)) M.m_Ratio M.bi_Ratio_init_2 (pds_cons (pd_v 0) (pds_cons (pd_v 1) pds_nil)) pks_nil)))))

theorem sc_law_binomials : FnScope ["_law_many", "_law_found", "_law_turn", "_law_left", "_law_right_here"] ["_law_many"] (defScope s_law_binomials) := ⟨rfl, rfl, rfl, by decide +kernel, rfl, by decide +kernel, by decide +kernel⟩
def g_law_binomials : FS := (sSeq (sSet 1 (fFr (fLst (fCons (fC (.int 1)) fNil))))
    (sSeq (sFor (fRg1 (fCons (fV 0) fNil)) (gN 2) (sSet 1 (fBin gAdd0 (fBin gAdd0 (fFr (fLst (fCons (fC (.int 1)) fNil))) (fFr (fLc (fZip (fCons (fFr (fSlice (fV 1) fNoPart (fPart (fUn gNeg (fC (.int 1)))))) (fCons (fFr (fSlice (fV 1) (fPart (fC (.int 1))) fNoPart)) fNil))) (gT 2 (gsCons (gN 3) (gsCons (gN 4) gsNil))) fYes (fBin gAdd0 (fV 3) (fV 4)) [3, 4]))) (fFr (fLst (fCons (fC (.int 1)) fNil))))))
    (sRet (fV 1))))
def G_law_binomials : List D → Option D := outD 5 g_law_binomials
theorem ok_law_binomials (M : Facts K mg) : FnG P w K mg base 1 M.a_law_binomials M.d_law_binomials ["_law_many"] (sp0 (TT K M.C_Ratio M.C_Course) 1 G_law_binomials) :=
  ok0' (g := g_law_binomials) M.F_law_binomials sc_law_binomials rfl rfl (fun cdv A outer s H E hq hr =>
    (sts_cons (st_set 1 sc_law_binomials.nd (pd_fr (pf_lst (pds_cons pd_int pds_nil))))
    (sts_cons (st_for (ws := [2]) PassesOwn.never rfl (pid_rg1 M.n_range (pds_cons (pd_v 0) pds_nil)) (tg_n 2 sc_law_binomials.nd) (sts_one (st_set 1 sc_law_binomials.nd (pd_op op_add0 opv_add0 (pd_op op_add0 opv_add0 (pd_fr (pf_lst (pds_cons pd_int pds_nil))) (pd_fr (pf_lc rfl sc_law_binomials.nd (blkOk_by (own := [("_law_left", 3), ("_law_right_here", 4)]) (by show blkC ["_law_many", "_law_found", "_law_turn", "_law_left", "_law_right_here"] (defScope s_law_binomials) _ _ = true; decide +kernel)) (pid_zip M.n_zip (pds_cons (pd_fr (pf_slice (pd_v 1) pdo_none (pdo_some (pd_un un_neg unv_neg pd_int)))) (pds_cons (pd_fr (pf_slice (pd_v 1) (pdo_some pd_int) pdo_none)) pds_nil))) (fun _ _ _ _ _ => (tg_t rfl (tgs_cons (tg_n 3 sc_law_binomials.nd) (tgs_cons (tg_n 4 sc_law_binomials.nd) tgs_nil)))) (fun _ _ _ _ _ => pts_yes) (fun _ _ _ _ _ => (pd_op op_add0 opv_add0 (pd_v 3) (pd_v 4)))))) (pd_fr (pf_lst (pds_cons pd_int pds_nil)))))))
    (sts_one (st_ret (pd_v 1))))))

theorem sc_law_course : FnScope ["_law_pot_here", "_law_most", "_law_degree_here", "_law_found", "_law_part", "_law_row", "_law_power"] ["_law_pot_here", "_law_most", "_law_degree_here"] (defScope s_law_course) := ⟨rfl, rfl, rfl, by decide +kernel, rfl, by decide +kernel, by decide +kernel⟩
def g_law_course : FS := (sSeq (sOwn 3 (fLst fNil))
    (sSeq (sFor (fRg1 (fCons (fBin gAdd0 (fC (.int 1)) (fCallP 0 G_law_draw (fCons (fV 1) fNil))) fNil)) (gN 4) (sSeq (sOwn 5 (fLst fNil))
    (sSeq (sFor (fRg1 (fCons (fCallP 0 G_law_draw (fCons (fBin gAdd0 (fV 2) (fC (.int 2))) fNil)) fNil)) (gN 6) (sApp 5 (fBin (gI0 fun i j => .int (i - j)) (fCallP 0 G_law_draw (fCons (fC (.int 7)) fNil)) (fC (.int 3)))))
    (sApp 3 (fV 5)))))
    (sRet (fTup (fCons (fCallP 0 G_law_pick (fCons (fFr (fLst (fCons (fC (.int 1)) (fCons (fC (.int 1)) (fCons (fC (.int 2)) (fCons (fC (.int 3)) fNil)))))) fNil)) (fCons (fV 3) fNil))))))
def G_law_course : List D → List D → Option (D × List D) := outP 7 g_law_course
theorem ok_law_course (M : Facts K mg) : FnG P w K mg base 3 M.a_law_course M.d_law_course ["_law_pot_here", "_law_most", "_law_degree_here"] (sp1 (TT K M.C_Ratio M.C_Course) 2 G_law_course) :=
  ok1' (g := g_law_course) M.F_law_course sc_law_course rfl rfl (fun cdv A outer s H E hq hr =>
    (sts_cons (st_own 3 sc_law_course.nd (pf_lst pds_nil))
    (sts_cons (st_for (ws := [4]) PassesOwn.never rfl (pid_rg1 M.n_range (pds_cons (pd_op op_add0 opv_add0 pd_int (pd_callP (i := 0) (ok_law_draw M) hq (hr.mono (by decide)) M.m_law_draw M.F_law_draw.kp M.b_law_draw rfl (pds_cons (pd_v 1) pds_nil))) pds_nil)) (tg_n 4 sc_law_course.nd) (sts_cons (st_own 5 sc_law_course.nd (pf_lst pds_nil))
    (sts_cons (st_for (ws := [6]) PassesOwn.never rfl (pid_rg1 M.n_range (pds_cons (pd_callP (i := 0) (ok_law_draw M) hq (hr.mono (by decide)) M.m_law_draw M.F_law_draw.kp M.b_law_draw rfl (pds_cons (pd_op op_add0 opv_add0 (pd_v 2) pd_int) pds_nil)) pds_nil)) (tg_n 6 sc_law_course.nd) (sts_one (st_app (i := 5) (pd_op op_sub opv_sub (pd_callP (i := 0) (ok_law_draw M) hq (hr.mono (by decide)) M.m_law_draw M.F_law_draw.kp M.b_law_draw rfl (pds_cons pd_int pds_nil)) pd_int) (h := fun ho => pe_bm PySem.F.plainAttrs_list PySem.F.slot_list_append PySem.F.type_list_append mt_append ho (pa_cons (pd_op op_sub opv_sub (pd_callP (i := 0) (ok_law_draw M) hq (hr.mono (by decide)) M.m_law_draw M.F_law_draw.kp M.b_law_draw rfl (pds_cons pd_int pds_nil)) pd_int) pa_nil)))))
    (sts_one (st_app (i := 3) (pd_v 5) (h := fun ho => pe_bm PySem.F.plainAttrs_list PySem.F.slot_list_append PySem.F.type_list_append mt_append ho (pa_cons (pd_v 5) pa_nil)))))))
    (sts_one (st_ret (pd_tup (pds_cons (pd_callP (i := 0) (ok_law_pick M) hq (hr.mono (by decide)) M.m_law_pick M.F_law_pick.kp M.b_law_pick rfl (pds_cons (pd_fr (pf_lst (pds_cons pd_int (pds_cons pd_int (pds_cons pd_int (pds_cons pd_int pds_nil)))))) pds_nil)) (pds_cons (pd_v 3) pds_nil))))))))

theorem sc_law_worth : FnScope ["_law_own", "_law_whole_here", "_law_total", "_law_top"] ["_law_own", "_law_whole_here"] (defScope s_law_worth) := ⟨rfl, rfl, rfl, by decide +kernel, rfl, by decide +kernel, by decide +kernel⟩
def g_law_worth : FS := (sSeq (sSet 2 (fC (.int 0)))
    (sSeq (sFor (fSq (fFr (fRev (fBin gIx (fIxN 0 (fC (.int 1))) (fBin (gI okPos fun i j => .int (i % j)) (fV 1) (fFun funLen (fCons (fIxN 0 (fC (.int 1))) fNil))))))) (gN 3) (sSet 2 (fBin gAdd0 (fBin (gOr (gI okMul fun i j => .int (i * j)) gRep) (fV 2) (fV 1)) (fV 3))))
    (sRet (fMake 0 G_Ratio_init (gPos []) (fCons (fV 2) (fCons (fIxN 0 (fC (.int 0))) fNil)) fNil))))
def G_law_worth : List D → Option D := outD 4 g_law_worth
theorem ok_law_worth (M : Facts K mg) : FnG P w K mg base 4 M.a_law_worth M.d_law_worth ["_law_own", "_law_whole_here"] (sp0 (TT K M.C_Ratio M.C_Course) 2 G_law_worth) :=
  ok0' (g := g_law_worth) M.F_law_worth sc_law_worth rfl rfl (fun cdv A outer s H E hq hr =>
    (sts_cons (st_set 2 sc_law_worth.nd pd_int)
    (sts_cons (st_for (ws := [3]) PassesOwn.never rfl (pid_sq (pd_fr (pf_rev (pd_ix (pd_ixN (i := 0) pd_int) (pd_op op_mod opv_mod (pd_v 1) (pd_blt call_len_seq callv_len M.n_len (by decide +kernel) (pds_cons (pd_ixN (i := 0) pd_int) pds_nil))))))) (tg_n 3 sc_law_worth.nd) (sts_one (st_set 2 sc_law_worth.nd (pd_op op_add0 opv_add0 (pd_op (Dl.OpR.or op_mulW op_rep) (Dl.OpV.or opv_mulW opv_rep) (pd_v 2) (pd_v 1)) (pd_v 3)))))
    (sts_one (st_ret (pd_make (c := 0) rfl M.mk_Ratio (ok_Ratio_init M) hq (hr.mono (by decide)) M.m_Ratio M.bi_Ratio_init_2 (pds_cons (pd_v 2) (pds_cons (pd_ixN (i := 0) pd_int) pds_nil)) pks_nil))))))

theorem sc_Ratio_sign : FnScope ["self"] ["self"] (defScope s_Ratio_sign) := ⟨rfl, rfl, rfl, by decide +kernel, rfl, by decide +kernel, by decide +kernel⟩
def g_Ratio_sign : FS := (sSeq (sIf (fB (fBin (gI0 fun i j => .bl (decide (i < j))) (fFld 0 0 (fV 0)) (fC (.int 0)))) (sRet (fUn gNeg (fC (.int 1)))) sNil)
    (sRet (fIf (fB (fBin (gI0 fun i j => .bl (decide (j < i))) (fFld 0 0 (fV 0)) (fC (.int 0)))) (fC (.int 1)) (fC (.int 0)))))
def G_Ratio_sign : List D → Option D := outD 1 g_Ratio_sign
theorem ok_Ratio_sign (M : Facts K mg) : FnG P w K mg base 1 M.a_Ratio_sign M.d_Ratio_sign ["self"] (sp0 (TT K M.C_Ratio M.C_Course) 1 G_Ratio_sign) :=
  ok0' (g := g_Ratio_sign) M.F_Ratio_sign sc_Ratio_sign rfl rfl (fun cdv A outer s H E hq hr =>
    (sts_cons (st_if (pt_cmp' op_lt opv_lt (pd_fld (c := 0) (j := 0) (pd_v 0) rfl M.hc_Ratio M.na_Ratio_top) pd_int rfl) (sts_one (st_ret (pd_un un_neg unv_neg pd_int))) sts_nil)
    (sts_one (st_ret (pd_if (pt_cmp' op_gt opv_gt (pd_fld (c := 0) (j := 0) (pd_v 0) rfl M.hc_Ratio M.na_Ratio_top) pd_int rfl) pd_int pd_int)))))

theorem sc_Ratio_eq : FnScope ["self", "other"] ["self", "other"] (defScope s_Ratio_eq) := ⟨rfl, rfl, rfl, by decide +kernel, rfl, by decide +kernel, by decide +kernel⟩
def g_Ratio_eq : FS := (sRet (fAndV (fIsi (pObj 0) (fV 1)) (fAndV (fBin gEqF (fFld 0 0 (fV 0)) (fFld 0 0 (fV 1))) (fBin gEqF (fFld 0 1 (fV 0)) (fFld 0 1 (fV 1))))))
def G_Ratio_eq : List D → Option D := outD 2 g_Ratio_eq
theorem ok_Ratio_eq (M : Facts K mg) : FnG P w K mg base 1 M.a_Ratio_eq M.d_Ratio_eq ["self", "other"] (sp0 (TT K M.C_Ratio M.C_Course) 2 G_Ratio_eq) :=
  ok0' (g := g_Ratio_eq) M.F_Ratio_eq sc_Ratio_eq rfl rfl (fun cdv A outer s H E hq hr =>
    (sts_one (st_ret (pd_and (pd_isi (pd_v 1) (pe_glob (v := .ref M.C_Ratio) rfl M.m_Ratio rfl) (ClsV.own M.C_Ratio) M.ca M.i_Ratio M.n_isinstance) (pd_and (pd_cmp op_eq opv_eqF (pd_fld (c := 0) (j := 0) (pd_v 0) rfl M.hc_Ratio M.na_Ratio_top) (pd_fld (c := 0) (j := 0) (pd_v 1) rfl M.hc_Ratio M.na_Ratio_top) rfl) (pd_one (pd_cmp op_eq opv_eqF (pd_fld (c := 0) (j := 1) (pd_v 0) rfl M.hc_Ratio M.na_Ratio_bottom) (pd_fld (c := 0) (j := 1) (pd_v 1) rfl M.hc_Ratio M.na_Ratio_bottom) rfl)))))))

theorem rf_ratio {T : CT} : Rf T (eqOb 0 G_Ratio_eq) := fun H S x y v b rx ry e => by
  unfold eqOb at e
  split at e
  case h_2 => cases e
  rename_i ds _ es
  obtain ⟨⟨rfl, rfl⟩, e⟩ := ite_o e
  split at e
  case h_2 => cases e
  rename_i r hr
  cases e
  obtain ⟨vs, r1, r2⟩ := ob_self rx ry
  simp only [G_Ratio_eq, outD, g_Ratio_eq, sRet, fAndV, fIsi, isC, pObj, fB, fBin, fFld, fV, ini, endD, List.length_cons, List.length_nil, List.map_cons, List.map_nil, List.cons_append, List.getElem?_cons_zero, List.getElem?_cons_succ, Option.bind_some, if_true] at hr
  cases h0 : ds[0]? with
  | none => simp [h0] at hr
  | some d0 =>
    cases k0 : es[0]? with
    | none => simp [h0, k0] at hr
    | some e0 =>
      cases g0 : gEqF d0 e0 with
      | none => simp [h0, k0, g0] at hr
      | some x0 =>
        have := gEqF_self r1 r2 h0 k0 g0
        subst this
        cases h1 : ds[1]? with
        | none => simp [h0, k0, g0, h1] at hr
        | some d1 =>
          cases k1 : es[1]? with
          | none => simp [h0, k0, g0, h1, k1] at hr
          | some e1 =>
            cases g1 : gEqF d1 e1 with
            | none => simp [h0, k0, g0, h1, k1, g1] at hr
            | some x1 =>
              have := gEqF_self r1 r2 h1 k1 g1
              subst this
              simp [h0, k0, g0, h1, k1, g1, endD] at hr
              exact hr
def eq0 := bOr eqFl (eqOb 0 G_Ratio_eq)
def eq1 := bOr eq0 (eqLs eq0)
def eq2 := bOr eq1 (eqLs eq1)
def eq3 := bOr eq2 (eqLs eq2)
theorem rf0 {T : CT} : Rf T eq0 := rf_flat.or rf_ratio
theorem rf1 {T : CT} : Rf T eq1 := rf0.or (rf_ls rf0)
theorem rf2 {T : CT} : Rf T eq2 := rf1.or (rf_ls rf1)
theorem eqB0 {X : Cx} {K : PySem.W.Frag} {mg : Str → Option Value} (M : Facts K mg) (eK : X.K = K) (em : X.mg = mg) : EqB X (TT K M.C_Ratio M.C_Course) 1 eq0 := by subst eK em; exact (eqB_flat.mono (by decide)).or (EqB.ob rf_ratio rfl M.tp_Ratio M.e_Ratio_eq M.ef_Ratio_eq (ok_Ratio_eq M) M.b_Ratio_eq rfl)
theorem eqB1 {X : Cx} {K : PySem.W.Frag} {mg : Str → Option Value} (M : Facts K mg) (eK : X.K = K) (em : X.mg = mg) : EqB X (TT K M.C_Ratio M.C_Course) 2 eq1 := ((eqB0 M eK em).mono (by decide)).or ((eqB0 M eK em).ls rf0)
theorem eqB2 {X : Cx} {K : PySem.W.Frag} {mg : Str → Option Value} (M : Facts K mg) (eK : X.K = K) (em : X.mg = mg) : EqB X (TT K M.C_Ratio M.C_Course) 3 eq2 := ((eqB1 M eK em).mono (by decide)).or ((eqB1 M eK em).ls rf1)
theorem eqB3 {X : Cx} {K : PySem.W.Frag} {mg : Str → Option Value} (M : Facts K mg) (eK : X.K = K) (em : X.mg = mg) : EqB X (TT K M.C_Ratio M.C_Course) 4 eq3 := ((eqB2 M eK em).mono (by decide)).or ((eqB2 M eK em).ls rf2)

theorem sc_law_form : FnScope ["_law_own", "_law_found", "_law_part", "_law_row", "_law_many"] ["_law_own"] (defScope s_law_form) := ⟨rfl, rfl, rfl, by decide +kernel, rfl, by decide +kernel, by decide +kernel⟩
def g_law_form : FS := (sSeq (sOwn 1 (fLst fNil))
    (sSeq (sFor (fSq (fIxN 0 (fC (.int 1)))) (gN 2) (sSeq (sOwn 3 (fLof (fCons (fV 2) fNil)))
    (sSeq (sWhile fu_law_form (fAnd (fB (fCmpO 3 (gOr (gOr gNeF (gOwnNe 0 G_Ratio_eq)) (gB true (eqLs eq3))) (fFr (fLst fNil)))) (fB (fBin (gOr (gOr gEqF (gOwnE 0 G_Ratio_eq)) (gB false (eqLs eq3))) (fIxN 3 (fUn gNeg (fC (.int 1)))) (fC (.int 0))))) (sPop 3))
    (sApp 1 (fV 3)))))
    (sSeq (sFor (fRg2 (fCons (fC (.int 1)) (fCons (fBin gAdd0 (fLenN 1) (fC (.int 1))) fNil))) (gN 4) (sIf (fAnd (fB (fBin (gOr (gOr gEqF (gOwnE 0 G_Ratio_eq)) (gB false (eqLs eq3))) (fBin (gI okPos fun i j => .int (i % j)) (fLenN 1) (fV 4)) (fC (.int 0)))) (fB (fBin (gOr (gOr gEqF (gOwnE 0 G_Ratio_eq)) (gB false (eqLs eq3))) (fV 1) (fBin (gOr (gI okMul fun i j => .int (i * j)) gRep) (fFr (fSlice (fV 1) fNoPart (fPart (fV 4)))) (fBin (gI okDivN fun i j => .int (i.fdiv j)) (fLenN 1) (fV 4)))))) (sRet (fFr (fSlice (fV 1) fNoPart (fPart (fV 4))))) sNil))
    (sRet (fV 1)))))
def G_law_form : List D → Option D := outD 5 g_law_form
theorem ok_law_form (M : Facts K mg) : FnG P w K mg base 6 M.a_law_form M.d_law_form ["_law_own"] (sp0 (TT K M.C_Ratio M.C_Course) 1 G_law_form) :=
  ok0' (g := g_law_form) M.F_law_form sc_law_form rfl rfl (fun cdv A outer s H E hq hr =>
    (sts_cons (st_own 1 sc_law_form.nd (pf_lst pds_nil))
    (sts_cons (st_for (ws := [2]) PassesOwn.never rfl (pid_sq (pd_ixN (i := 0) pd_int)) (tg_n 2 sc_law_form.nd) (sts_cons (st_own 3 sc_law_form.nd (pf_lof M.n_list (pds_cons (pd_v 2) pds_nil)))
    (sts_cons (st_while fu_law_form PassesOwn.never (PW.pt (w_and (pt_cmpO (i := 3) (Dl.OpR.or (Dl.OpR.or op_ne (op_ownNe (T := TT K M.C_Ratio M.C_Course) (E := E0) M.e_Ratio_eq M.ef_Ratio_eq M.ne_Ratio_eq M.ob_Ratio (ok_Ratio_eq M) hq (hr.mono (by decide)) M.b_Ratio_eq rfl)) (op_neB (n := 5) (T := TT K M.C_Ratio M.C_Course) (rcB_ls true (eqB3 M rfl rfl)) hq (hr.mono (by decide)))) (Dl.OpV.or (Dl.OpV.or opv_neF (opv_ownNe (c := 0) rfl M.tp_Ratio)) (opv_eqB true)) (pd_fr (pf_lst pds_nil)) rfl) (w_and1 (pt_cmp' (Dl.OpR.or (Dl.OpR.or op_eq (op_ownE (T := TT K M.C_Ratio M.C_Course) (E := E0) M.e_Ratio_eq M.ef_Ratio_eq (ok_Ratio_eq M) hq (hr.mono (by decide)) M.b_Ratio_eq rfl)) (op_eqB (n := 5) (T := TT K M.C_Ratio M.C_Course) (rcB_ls false (eqB3 M rfl rfl)) hq (hr.mono (by decide)))) (Dl.OpV.or (Dl.OpV.or opv_eqF (opv_ownE (c := 0) rfl M.tp_Ratio)) (opv_eqB false)) (pd_ixN (i := 3) (pd_un un_neg unv_neg pd_int)) pd_int rfl)))) (sts_one (st_pop (i := 3) (h := fun ho => pe_bm0 PySem.F.plainAttrs_list PySem.F.slot_list_pop PySem.F.type_list_pop mt_pop ho))))
    (sts_one (st_app (i := 1) (pd_v 3) (h := fun ho => pe_bm PySem.F.plainAttrs_list PySem.F.slot_list_append PySem.F.type_list_append mt_append ho (pa_cons (pd_v 3) pa_nil)))))))
    (sts_cons (st_for (ws := [4]) PassesOwn.never rfl (pid_rg2 M.n_range (pds_cons pd_int (pds_cons (pd_op op_add0 opv_add0 (pd_lenN (i := 1) M.n_len) pd_int) pds_nil))) (tg_n 4 sc_law_form.nd) (sts_one (st_if (PW.pt (w_and (pt_cmp' (Dl.OpR.or (Dl.OpR.or op_eq (op_ownE (T := TT K M.C_Ratio M.C_Course) (E := E0) M.e_Ratio_eq M.ef_Ratio_eq (ok_Ratio_eq M) hq (hr.mono (by decide)) M.b_Ratio_eq rfl)) (op_eqB (n := 5) (T := TT K M.C_Ratio M.C_Course) (rcB_ls false (eqB3 M rfl rfl)) hq (hr.mono (by decide)))) (Dl.OpV.or (Dl.OpV.or opv_eqF (opv_ownE (c := 0) rfl M.tp_Ratio)) (opv_eqB false)) (pd_op op_mod opv_mod (pd_lenN (i := 1) M.n_len) (pd_v 4)) pd_int rfl) (w_and1 (pt_cmp' (Dl.OpR.or (Dl.OpR.or op_eq (op_ownE (T := TT K M.C_Ratio M.C_Course) (E := E0) M.e_Ratio_eq M.ef_Ratio_eq (ok_Ratio_eq M) hq (hr.mono (by decide)) M.b_Ratio_eq rfl)) (op_eqB (n := 5) (T := TT K M.C_Ratio M.C_Course) (rcB_ls false (eqB3 M rfl rfl)) hq (hr.mono (by decide)))) (Dl.OpV.or (Dl.OpV.or opv_eqF (opv_ownE (c := 0) rfl M.tp_Ratio)) (opv_eqB false)) (pd_v 1) (pd_op (Dl.OpR.or op_mulW op_rep) (Dl.OpV.or opv_mulW opv_rep) (pd_fr (pf_slice (pd_v 1) pdo_none (pdo_some (pd_v 4)))) (pd_op op_fdivNW opv_fdiv (pd_lenN (i := 1) M.n_len) (pd_v 4))) rfl)))) (sts_one (st_ret (pd_fr (pf_slice (pd_v 1) pdo_none (pdo_some (pd_v 4)))))) sts_nil)))
    (sts_one (st_ret (pd_v 1)))))))

theorem sc_law_degree : FnScope ["_law_own", "_law_part"] ["_law_own"] (defScope s_law_degree) := ⟨rfl, rfl, rfl, by decide +kernel, rfl, by decide +kernel, by decide +kernel⟩
def g_law_degree : FS := (sRet (fBin (gI0 fun i j => .int (i - j)) (fFun funMaxL (fCons (fFr (fLc (fSq (fCall G_law_form (gPos []) (fCons (fV 0) fNil) fNil)) (gN 1) fYes (fLenN 1) [1])) fNil)) (fC (.int 1))))
def G_law_degree : List D → Option D := outD 2 g_law_degree
theorem ok_law_degree (M : Facts K mg) : FnG P w K mg base 7 M.a_law_degree M.d_law_degree ["_law_own"] (sp0 (TT K M.C_Ratio M.C_Course) 1 G_law_degree) :=
  ok0' (g := g_law_degree) M.F_law_degree sc_law_degree rfl rfl (fun cdv A outer s H E hq hr =>
    (sts_one (st_ret (pd_op op_sub opv_sub (pd_blt (cr_max rfl) callv_maxL M.n_max (by decide +kernel) (pds_cons (pd_fr (pf_lc rfl sc_law_degree.nd (blkOk_by (own := [("_law_part", 1)]) (by show blkC ["_law_own", "_law_part"] (defScope s_law_degree) _ _ = true; decide +kernel)) (pid_sq (pd_call (ok_law_form M) hq (hr.mono (by decide)) M.m_law_form M.F_law_form.kp (bnd_of 1 M.b_law_form .nil lits_nil rfl) (pds_cons (pd_v 0) pds_nil) pks_nil)) (fun _ _ _ _ _ => (tg_n 1 sc_law_degree.nd)) (fun _ _ _ _ _ => pts_yes) (fun _ _ _ _ _ => (pd_lenN (i := 1) M.n_len)))) pds_nil)) pd_int))))

theorem sc_Ratio_repr : FnScope ["self"] ["self"] (defScope s_Ratio_repr) := ⟨rfl, rfl, rfl, by decide +kernel, rfl, by decide +kernel, by decide +kernel⟩
def g_Ratio_repr : FS := (sRet (fJoin [fC (.str "Ratio("), fFmt (fFld 0 0 (fV 0)), fC (.str ", "), fFmt (fFld 0 1 (fV 0)), fC (.str ")")] Str.empty))
def G_Ratio_repr : List D → Option D := outD 1 g_Ratio_repr
theorem ok_Ratio_repr (M : Facts K mg) : FnOk P w K mg base CX0 1 M.a_Ratio_repr M.d_Ratio_repr ["self"] (sp0 (TT K M.C_Ratio M.C_Course) 1 G_Ratio_repr) :=
  ok0A (g := g_Ratio_repr) M.F_Ratio_repr sc_Ratio_repr rfl rfl (fun cdv A outer s H E hr =>
    (sts_one (st_ret (pd_joined (.cons pd_str (.cons (pd_fmt (pd_fld (c := 0) (j := 0) (pd_v 0) rfl M.hc_Ratio M.na_Ratio_top)) (.cons pd_str (.cons (pd_fmt (pd_fld (c := 0) (j := 1) (pd_v 0) rfl M.hc_Ratio M.na_Ratio_bottom)) (.cons pd_str .nil)))))))))

def rp0 := rOrr rpFl (rpOb 0 G_Ratio_repr)
def rp1 := rOrr rp0 (rpLs rp0)
def rp2 := rOrr rp1 (rpLs rp1)
theorem rpB0 {X : Cx} {K : PySem.W.Frag} {mg : Str → Option Value} (M : Facts K mg) (eK : X.K = K) (em : X.mg = mg) : RpB X (TT K M.C_Ratio M.C_Course) 1 rp0 := by subst eK em; exact (rpB_flat.mono (by decide)).or (RpB.ob rfl M.s_Ratio_repr M.sf_Ratio_repr (ok_Ratio_repr M) M.b_Ratio_repr rfl)
theorem rpB1 {X : Cx} {K : PySem.W.Frag} {mg : Str → Option Value} (M : Facts K mg) (eK : X.K = K) (em : X.mg = mg) : RpB X (TT K M.C_Ratio M.C_Course) 2 rp1 := ((rpB0 M eK em).mono (by decide)).or (rpB0 M eK em).ls
theorem rpB2 {X : Cx} {K : PySem.W.Frag} {mg : Str → Option Value} (M : Facts K mg) (eK : X.K = K) (em : X.mg = mg) : RpB X (TT K M.C_Ratio M.C_Course) 3 rp2 := ((rpB1 M eK em).mono (by decide)).or (rpB1 M eK em).ls

theorem sc_Ratio_add : FnScope ["self", "other", "right"] ["self", "other"] (defScope s_Ratio_add) := ⟨rfl, rfl, rfl, by decide +kernel, rfl, by decide +kernel, by decide +kernel⟩
def g_Ratio_add : FS := (sSeq (sSet 2 (fCall G_as_ratio (gPos []) (fCons (fV 1) fNil) fNil))
    (sRet (fMake 0 G_Ratio_init (gPos []) (fCons (fBin gAdd0 (fBin (gOr (gI okMul fun i j => .int (i * j)) gRep) (fFld 0 0 (fV 0)) (fFld 0 1 (fV 2))) (fBin (gOr (gI okMul fun i j => .int (i * j)) gRep) (fFld 0 0 (fV 2)) (fFld 0 1 (fV 0)))) (fCons (fBin (gOr (gI okMul fun i j => .int (i * j)) gRep) (fFld 0 1 (fV 0)) (fFld 0 1 (fV 2))) fNil)) fNil)))
def G_Ratio_add : List D → Option D := outD 3 g_Ratio_add
theorem ok_Ratio_add (M : Facts K mg) : FnG P w K mg base 5 M.a_Ratio_add M.d_Ratio_add ["self", "other"] (sp0 (TT K M.C_Ratio M.C_Course) 2 G_Ratio_add) :=
  ok0' (g := g_Ratio_add) M.F_Ratio_add sc_Ratio_add rfl rfl (fun cdv A outer s H E hq hr =>
    (sts_cons (st_set 2 sc_Ratio_add.nd (pd_call (ok_as_ratio M) hq (hr.mono (by decide)) M.m_as_ratio M.F_as_ratio.kp (bnd_of 1 M.b_as_ratio .nil lits_nil rfl) (pds_cons (pd_v 1) pds_nil) pks_nil))
    (sts_one (st_ret (pd_make (c := 0) rfl M.mk_Ratio (ok_Ratio_init M) hq (hr.mono (by decide)) M.m_Ratio M.bi_Ratio_init_2 (pds_cons (pd_op op_add0 opv_add0 (pd_op (Dl.OpR.or op_mulW op_rep) (Dl.OpV.or opv_mulW opv_rep) (pd_fld (c := 0) (j := 0) (pd_v 0) rfl M.hc_Ratio M.na_Ratio_top) (pd_fld (c := 0) (j := 1) (pd_v 2) rfl M.hc_Ratio M.na_Ratio_bottom)) (pd_op (Dl.OpR.or op_mulW op_rep) (Dl.OpV.or opv_mulW opv_rep) (pd_fld (c := 0) (j := 0) (pd_v 2) rfl M.hc_Ratio M.na_Ratio_top) (pd_fld (c := 0) (j := 1) (pd_v 0) rfl M.hc_Ratio M.na_Ratio_bottom))) (pds_cons (pd_op (Dl.OpR.or op_mulW op_rep) (Dl.OpV.or opv_mulW opv_rep) (pd_fld (c := 0) (j := 1) (pd_v 0) rfl M.hc_Ratio M.na_Ratio_bottom) (pd_fld (c := 0) (j := 1) (pd_v 2) rfl M.hc_Ratio M.na_Ratio_bottom)) pds_nil)) pks_nil)))))

theorem sc_Ratio_mul : FnScope ["self", "other", "right"] ["self", "other"] (defScope s_Ratio_mul) := ⟨rfl, rfl, rfl, by decide +kernel, rfl, by decide +kernel, by decide +kernel⟩
def g_Ratio_mul : FS := (sSeq (sSet 2 (fCall G_as_ratio (gPos []) (fCons (fV 1) fNil) fNil))
    (sRet (fMake 0 G_Ratio_init (gPos []) (fCons (fBin (gOr (gI okMul fun i j => .int (i * j)) gRep) (fFld 0 0 (fV 0)) (fFld 0 0 (fV 2))) (fCons (fBin (gOr (gI okMul fun i j => .int (i * j)) gRep) (fFld 0 1 (fV 0)) (fFld 0 1 (fV 2))) fNil)) fNil)))
def G_Ratio_mul : List D → Option D := outD 3 g_Ratio_mul
theorem ok_Ratio_mul (M : Facts K mg) : FnG P w K mg base 5 M.a_Ratio_mul M.d_Ratio_mul ["self", "other"] (sp0 (TT K M.C_Ratio M.C_Course) 2 G_Ratio_mul) :=
  ok0' (g := g_Ratio_mul) M.F_Ratio_mul sc_Ratio_mul rfl rfl (fun cdv A outer s H E hq hr =>
    (sts_cons (st_set 2 sc_Ratio_mul.nd (pd_call (ok_as_ratio M) hq (hr.mono (by decide)) M.m_as_ratio M.F_as_ratio.kp (bnd_of 1 M.b_as_ratio .nil lits_nil rfl) (pds_cons (pd_v 1) pds_nil) pks_nil))
    (sts_one (st_ret (pd_make (c := 0) rfl M.mk_Ratio (ok_Ratio_init M) hq (hr.mono (by decide)) M.m_Ratio M.bi_Ratio_init_2 (pds_cons (pd_op (Dl.OpR.or op_mulW op_rep) (Dl.OpV.or opv_mulW opv_rep) (pd_fld (c := 0) (j := 0) (pd_v 0) rfl M.hc_Ratio M.na_Ratio_top) (pd_fld (c := 0) (j := 0) (pd_v 2) rfl M.hc_Ratio M.na_Ratio_top)) (pds_cons (pd_op (Dl.OpR.or op_mulW op_rep) (Dl.OpV.or opv_mulW opv_rep) (pd_fld (c := 0) (j := 1) (pd_v 0) rfl M.hc_Ratio M.na_Ratio_bottom) (pd_fld (c := 0) (j := 1) (pd_v 2) rfl M.hc_Ratio M.na_Ratio_bottom)) pds_nil)) pks_nil)))))

theorem sc_is_number : FnScope ["value"] ["value"] (defScope s_is_number) := ⟨rfl, rfl, rfl, by decide +kernel, rfl, by decide +kernel, by decide +kernel⟩
def g_is_number : FS := (sRet (fOrV (fCall G_is_integer (gPos []) (fCons (fV 0) fNil) fNil) (fIsi (pObj 0) (fV 0))))
def G_is_number : List D → Option D := outD 1 g_is_number
theorem ok_is_number (M : Facts K mg) : FnG P w K mg base 2 M.a_is_number M.d_is_number ["value"] (sp0 (TT K M.C_Ratio M.C_Course) 1 G_is_number) :=
  ok0' (g := g_is_number) M.F_is_number sc_is_number rfl rfl (fun cdv A outer s H E hq hr =>
    (sts_one (st_ret (pd_or (pd_call (ok_is_integer M) hq (hr.mono (by decide)) M.m_is_integer M.F_is_integer.kp (bnd_of 1 M.b_is_integer .nil lits_nil rfl) (pds_cons (pd_v 0) pds_nil) pks_nil) (pd_one (pd_isi (pd_v 0) (pe_glob (v := .ref M.C_Ratio) rfl M.m_Ratio rfl) (ClsV.own M.C_Ratio) M.ca M.i_Ratio M.n_isinstance))))))

theorem sc_are_numbers : FnScope ["value", "many", "number"] ["value", "many"] (defScope s_are_numbers) := ⟨rfl, rfl, rfl, by decide +kernel, rfl, by decide +kernel, by decide +kernel⟩
def g_are_numbers : FS := (sRet (fAndV (fCall G_is_list (gPos []) (fCons (fV 0) fNil) fNil) (fAndV (fBin (gOr (gOr gEqF (gOwnE 0 G_Ratio_eq)) (gB false (eqLs eq3))) (fLenN 0) (fV 1)) (fFun funAll (fCons (fFr (fLc (fSq (fV 0)) (gN 2) fYes (fCall G_is_number (gPos []) (fCons (fV 2) fNil) fNil) [2])) fNil)))))
def G_are_numbers : List D → Option D := outD 3 g_are_numbers
theorem ok_are_numbers (M : Facts K mg) : FnG P w K mg base 6 M.a_are_numbers M.d_are_numbers ["value", "many"] (sp0 (TT K M.C_Ratio M.C_Course) 2 G_are_numbers) :=
  ok0' (g := g_are_numbers) M.F_are_numbers sc_are_numbers rfl rfl (fun cdv A outer s H E hq hr =>
    (sts_one (st_ret (pd_and (pd_call (ok_is_list M) hq (hr.mono (by decide)) M.m_is_list M.F_is_list.kp (bnd_of 1 M.b_is_list .nil lits_nil rfl) (pds_cons (pd_v 0) pds_nil) pks_nil) (pd_and (pd_cmp (Dl.OpR.or (Dl.OpR.or op_eq (op_ownE (T := TT K M.C_Ratio M.C_Course) (E := E0) M.e_Ratio_eq M.ef_Ratio_eq (ok_Ratio_eq M) hq (hr.mono (by decide)) M.b_Ratio_eq rfl)) (op_eqB (n := 5) (T := TT K M.C_Ratio M.C_Course) (rcB_ls false (eqB3 M rfl rfl)) hq (hr.mono (by decide)))) (Dl.OpV.or (Dl.OpV.or opv_eqF (opv_ownE (c := 0) rfl M.tp_Ratio)) (opv_eqB false)) (pd_lenN (i := 0) M.n_len) (pd_v 1) rfl) (pd_one (pd_blt (cr_all rfl) callv_all M.n_all (by decide +kernel) (pds_cons (pd_fr (pf_lc rfl sc_are_numbers.nd (blkOk_by (own := [("number", 2)]) (by show blkC ["value", "many", "number"] (defScope s_are_numbers) _ _ = true; decide +kernel)) (pid_sq (pd_v 0)) (fun _ _ _ _ _ => (tg_n 2 sc_are_numbers.nd)) (fun _ _ _ _ _ => pts_yes) (fun _ _ _ _ _ => (pd_call (ok_is_number M) hq (hr.mono (by decide)) M.m_is_number M.F_is_number.kp (bnd_of 1 M.b_is_number .nil lits_nil rfl) (pds_cons (pd_v 2) pds_nil) pks_nil)))) pds_nil))))))))

theorem sc_check_whole : FnScope ["whole"] ["whole"] (defScope s_check_whole) := ⟨rfl, rfl, rfl, by decide +kernel, rfl, by decide +kernel, by decide +kernel⟩
def g_check_whole : FS := (sIf (fNot (fB (fCall G_is_integer (gPos []) (fCons (fV 0) fNil) fNil))) sNo sNil)
def G_check_whole : List D → Option D := outD 1 g_check_whole
theorem ok_check_whole (M : Facts K mg) : FnG P w K mg base 2 M.a_check_whole M.d_check_whole ["whole"] (sp0 (TT K M.C_Ratio M.C_Course) 1 G_check_whole) :=
  ok0' (g := g_check_whole) M.F_check_whole sc_check_whole rfl rfl (fun cdv A outer s H E hq hr =>
    (sts_one (st_if (pt_n (pt_d (pd_call (ok_is_integer M) hq (hr.mono (by decide)) M.m_is_integer M.F_is_integer.kp (bnd_of 1 M.b_is_integer .nil lits_nil rfl) (pds_cons (pd_v 0) pds_nil) pks_nil))) (sts_one st_no) sts_nil)))

theorem sc_worth : FnScope ["numbers", "whole", "found", "number"] ["numbers", "whole"] (defScope s_worth) := ⟨rfl, rfl, rfl, by decide +kernel, rfl, by decide +kernel, by decide +kernel⟩
def g_worth : FS := (sSeq (sSet 2 (fMake 0 G_Ratio_init (gPos [.int 1]) (fCons (fC (.int 0)) fNil) fNil))
    (sSeq (sFor (fSq (fFr (fRev (fV 0)))) (gN 3) (sSet 2 (fBin (gOr gAdd0 (gOwn2 0 G_Ratio_add)) (fBin (gOr (gOr (gI okMul fun i j => .int (i * j)) gRep) (gOwn2 0 G_Ratio_mul)) (fV 2) (fV 1)) (fV 3))))
    (sRet (fV 2))))
def G_worth : List D → Option D := outD 4 g_worth
theorem ok_worth (M : Facts K mg) : FnG P w K mg base 6 M.a_worth M.d_worth ["numbers", "whole"] (sp0 (TT K M.C_Ratio M.C_Course) 2 G_worth) :=
  ok0' (g := g_worth) M.F_worth sc_worth rfl rfl (fun cdv A outer s H E hq hr =>
    (sts_cons (st_set 2 sc_worth.nd (pd_make (c := 0) rfl M.mk_Ratio (ok_Ratio_init M) hq (hr.mono (by decide)) M.m_Ratio M.bi_Ratio_init_1 (pds_cons pd_int pds_nil) pks_nil))
    (sts_cons (st_for (ws := [3]) PassesOwn.never rfl (pid_sq (pd_fr (pf_rev (pd_v 0)))) (tg_n 3 sc_worth.nd) (sts_one (st_set 2 sc_worth.nd (pd_op (Dl.OpR.or op_add0 (op_ownB (E := E0) M.o_Ratio_add (ok_Ratio_add M) hq (hr.mono (by decide)) M.b_Ratio_add rfl)) (Dl.OpV.or opv_add0 (opv_own2 (c := 0) rfl)) (pd_op (Dl.OpR.or (Dl.OpR.or op_mulW op_rep) (op_ownB (E := E0) M.o_Ratio_mul (ok_Ratio_mul M) hq (hr.mono (by decide)) M.b_Ratio_mul rfl)) (Dl.OpV.or (Dl.OpV.or opv_mulW opv_rep) (opv_own2 (c := 0) rfl)) (pd_v 2) (pd_v 1)) (pd_v 3)))))
    (sts_one (st_ret (pd_v 2))))))

theorem sc_trimmed : FnScope ["numbers", "many"] ["numbers"] (defScope s_trimmed) := ⟨rfl, rfl, rfl, by decide +kernel, rfl, by decide +kernel, by decide +kernel⟩
def g_trimmed : FS := (sSeq (sSet 1 (fLenN 0))
    (sSeq (sWhile fu_trimmed (fAnd (fB (fBin (gI0 fun i j => .bl (decide (j < i))) (fV 1) (fC (.int 0)))) (fB (fBin (gOr (gOr gEqF (gOwnE 0 G_Ratio_eq)) (gB false (eqLs eq3))) (fProp 0 G_Ratio_sign (fIxN 0 (fBin (gI0 fun i j => .int (i - j)) (fV 1) (fC (.int 1))))) (fC (.int 0))))) (sSet 1 (fBin (gI0 fun i j => .int (i - j)) (fV 1) (fC (.int 1)))))
    (sRet (fFr (fSlice (fV 0) fNoPart (fPart (fV 1)))))))
def G_trimmed : List D → Option D := outD 2 g_trimmed
theorem ok_trimmed (M : Facts K mg) : FnG P w K mg base 6 M.a_trimmed M.d_trimmed ["numbers"] (sp0 (TT K M.C_Ratio M.C_Course) 1 G_trimmed) :=
  ok0' (g := g_trimmed) M.F_trimmed sc_trimmed rfl rfl (fun cdv A outer s H E hq hr =>
    (sts_cons (st_set 1 sc_trimmed.nd (pd_lenN (i := 0) M.n_len))
    (sts_cons (st_while fu_trimmed PassesOwn.never (PW.pt (w_and (pt_cmp' op_gt opv_gt (pd_v 1) pd_int rfl) (w_and1 (pt_cmp' (Dl.OpR.or (Dl.OpR.or op_eq (op_ownE (T := TT K M.C_Ratio M.C_Course) (E := E0) M.e_Ratio_eq M.ef_Ratio_eq (ok_Ratio_eq M) hq (hr.mono (by decide)) M.b_Ratio_eq rfl)) (op_eqB (n := 5) (T := TT K M.C_Ratio M.C_Course) (rcB_ls false (eqB3 M rfl rfl)) hq (hr.mono (by decide)))) (Dl.OpV.or (Dl.OpV.or opv_eqF (opv_ownE (c := 0) rfl M.tp_Ratio)) (opv_eqB false)) (pd_prop (c := 0) (pd_ixN (i := 0) (pd_op op_sub opv_sub (pd_v 1) pd_int)) rfl M.hc_Ratio M.pr_Ratio_sign (ok_Ratio_sign M) hq (hr.mono (by decide)) M.b_Ratio_sign) pd_int rfl)))) (sts_one (st_set 1 sc_trimmed.nd (pd_op op_sub opv_sub (pd_v 1) pd_int))))
    (sts_one (st_ret (pd_fr (pf_slice (pd_v 0) pdo_none (pdo_some (pd_v 1)))))))))

theorem sc_least : FnScope ["parts", "many", "period", "at", "part"] ["parts"] (defScope s_least) := ⟨rfl, rfl, rfl, by decide +kernel, rfl, by decide +kernel, by decide +kernel⟩
def g_least : FS := (sSeq (sSet 1 (fLenN 0))
    (sSeq (sFor (fRg2 (fCons (fC (.int 1)) (fCons (fV 1) fNil))) (gN 2) (sIf (fAnd (fB (fBin (gOr (gOr gEqF (gOwnE 0 G_Ratio_eq)) (gB false (eqLs eq3))) (fBin (gI okPos fun i j => .int (i % j)) (fV 1) (fV 2)) (fC (.int 0)))) (fB (fFun funAll (fCons (fFr (fLc (fEnum (fCons (fV 0) fNil)) (gT 2 (gsCons (gN 3) (gsCons (gN 4) gsNil))) fYes (fBin (gOr (gOr gEqF (gOwnE 0 G_Ratio_eq)) (gB false (eqLs eq3))) (fV 4) (fIxN 0 (fBin (gI okPos fun i j => .int (i % j)) (fV 3) (fV 2)))) [3, 4])) fNil)))) (sRet (fFr (fSlice (fV 0) fNoPart (fPart (fV 2))))) sNil))
    (sRet (fV 0))))
def G_least : List D → Option D := outD 5 g_least
theorem ok_least (M : Facts K mg) : FnG P w K mg base 6 M.a_least M.d_least ["parts"] (sp0 (TT K M.C_Ratio M.C_Course) 1 G_least) :=
  ok0' (g := g_least) M.F_least sc_least rfl rfl (fun cdv A outer s H E hq hr =>
    (sts_cons (st_set 1 sc_least.nd (pd_lenN (i := 0) M.n_len))
    (sts_cons (st_for (ws := [2]) PassesOwn.never rfl (pid_rg2 M.n_range (pds_cons pd_int (pds_cons (pd_v 1) pds_nil))) (tg_n 2 sc_least.nd) (sts_one (st_if (PW.pt (w_and (pt_cmp' (Dl.OpR.or (Dl.OpR.or op_eq (op_ownE (T := TT K M.C_Ratio M.C_Course) (E := E0) M.e_Ratio_eq M.ef_Ratio_eq (ok_Ratio_eq M) hq (hr.mono (by decide)) M.b_Ratio_eq rfl)) (op_eqB (n := 5) (T := TT K M.C_Ratio M.C_Course) (rcB_ls false (eqB3 M rfl rfl)) hq (hr.mono (by decide)))) (Dl.OpV.or (Dl.OpV.or opv_eqF (opv_ownE (c := 0) rfl M.tp_Ratio)) (opv_eqB false)) (pd_op op_mod opv_mod (pd_v 1) (pd_v 2)) pd_int rfl) (w_and1 (pt_d (pd_blt (cr_all rfl) callv_all M.n_all (by decide +kernel) (pds_cons (pd_fr (pf_lc rfl sc_least.nd (blkOk_by (own := [("at", 3), ("part", 4)]) (by show blkC ["parts", "many", "period", "at", "part"] (defScope s_least) _ _ = true; decide +kernel)) (pid_enum M.n_enumerate (pds_cons (pd_v 0) pds_nil)) (fun _ _ _ _ _ => (tg_t rfl (tgs_cons (tg_n 3 sc_least.nd) (tgs_cons (tg_n 4 sc_least.nd) tgs_nil)))) (fun _ _ _ _ _ => pts_yes) (fun _ _ _ _ _ => (pd_cmp (Dl.OpR.or (Dl.OpR.or op_eq (op_ownE (T := TT K M.C_Ratio M.C_Course) (E := E0) M.e_Ratio_eq M.ef_Ratio_eq (ok_Ratio_eq M) hq (hr.mono (by decide)) M.b_Ratio_eq rfl)) (op_eqB (n := 5) (T := TT K M.C_Ratio M.C_Course) (rcB_ls false (eqB3 M rfl rfl)) hq (hr.mono (by decide)))) (Dl.OpV.or (Dl.OpV.or opv_eqF (opv_ownE (c := 0) rfl M.tp_Ratio)) (opv_eqB false)) (pd_v 4) (pd_ixN (i := 0) (pd_op op_mod opv_mod (pd_v 3) (pd_v 2))) rfl)))) pds_nil)))))) (sts_one (st_ret (pd_fr (pf_slice (pd_v 0) pdo_none (pdo_some (pd_v 2)))))) sts_nil)))
    (sts_one (st_ret (pd_v 0))))))

theorem sc_are_parts : FnScope ["value", "part"] ["value"] (defScope s_are_parts) := ⟨rfl, rfl, rfl, by decide +kernel, rfl, by decide +kernel, by decide +kernel⟩
def g_are_parts : FS := (sSeq (sIf (fOr (fNot (fB (fCall G_is_list (gPos []) (fCons (fV 0) fNil) fNil))) (fNot (fB (fChain (gI0 fun i j => .bl (decide (i ≤ j))) (gI0 fun i j => .bl (decide (i ≤ j))) (fC (.int 1)) (fLenN 0) (fC (.int 60)))))) (sRet (fC (.bl false))) sNil)
    (sRet (fFun funAll (fCons (fFr (fLc (fSq (fV 0)) (gN 1) fYes (fAndV (fCall G_is_list (gPos []) (fCons (fV 1) fNil) fNil) (fAndV (fBin (gI0 fun i j => .bl (decide (i ≤ j))) (fLenN 1) (fC (.int 8))) (fCall G_are_numbers (gPos []) (fCons (fV 1) (fCons (fLenN 1) fNil)) fNil))) [1])) fNil))))
def G_are_parts : List D → Option D := outD 2 g_are_parts
theorem ok_are_parts (M : Facts K mg) : FnG P w K mg base 7 M.a_are_parts M.d_are_parts ["value"] (sp0 (TT K M.C_Ratio M.C_Course) 1 G_are_parts) :=
  ok0' (g := g_are_parts) M.F_are_parts sc_are_parts rfl rfl (fun cdv A outer s H E hq hr =>
    (sts_cons (st_if (PW.pt (w_or (pt_n (pt_d (pd_call (ok_is_list M) hq (hr.mono (by decide)) M.m_is_list M.F_is_list.kp (bnd_of 1 M.b_is_list .nil lits_nil rfl) (pds_cons (pd_v 0) pds_nil) pks_nil))) (w_or1 (pt_n (pt_chainD op_le op_le opv_le opv_le pd_int (pd_lenN (i := 0) M.n_len) (pd_gintE M.mi_MOST_PARTS)))))) (sts_one (st_ret pd_bl)) sts_nil)
    (sts_one (st_ret (pd_blt (cr_all rfl) callv_all M.n_all (by decide +kernel) (pds_cons (pd_fr (pf_lc rfl sc_are_parts.nd (blkOk_by (own := [("part", 1)]) (by show blkC ["value", "part"] (defScope s_are_parts) _ _ = true; decide +kernel)) (pid_sq (pd_v 0)) (fun _ _ _ _ _ => (tg_n 1 sc_are_parts.nd)) (fun _ _ _ _ _ => pts_yes) (fun _ _ _ _ _ => (pd_and (pd_call (ok_is_list M) hq (hr.mono (by decide)) M.m_is_list M.F_is_list.kp (bnd_of 1 M.b_is_list .nil lits_nil rfl) (pds_cons (pd_v 1) pds_nil) pks_nil) (pd_and (pd_cmp op_le opv_le (pd_lenN (i := 1) M.n_len) (pd_gintE M.mi_MOST_NUMBERS) rfl) (pd_one (pd_call (ok_are_numbers M) hq (hr.mono (by decide)) M.m_are_numbers M.F_are_numbers.kp (bnd_of 2 M.b_are_numbers .nil lits_nil rfl) (pds_cons (pd_v 1) (pds_cons (pd_lenN (i := 1) M.n_len) pds_nil)) pks_nil))))))) pds_nil))))))

theorem sc_Course_init : FnScope ["self", "parts", "part", "number"] ["self", "parts"] (defScope s_Course_init) := ⟨rfl, rfl, rfl, by decide +kernel, rfl, by decide +kernel, by decide +kernel⟩
def g_Course_init (C : Addr) : FS := (sSeq (sIf (fNot (fB (fCall G_are_parts (gPos []) (fCons (fV 1) fNil) fNil))) sNo sNil)
    (sIni 0 C ["_parts"] "_parts" (fCall G_least (gPos []) (fCons (fFr (fLc (fSq (fV 1)) (gN 2) fYes (fCall G_trimmed (gPos []) (fCons (fFr (fLc (fSq (fV 2)) (gN 3) fYes (fCall G_as_ratio (gPos []) (fCons (fV 3) fNil) fNil) [3])) fNil) fNil) [2])) fNil) fNil)))
def partF (p : D) : Option D := (itemsD p).bind fun ds => if ds.length ≤ 1000 then (mapO (fun d => G_as_ratio [d]) ds).bind fun ys => G_trimmed [.lst ys] else none
def G_Course_init : List D → Option (List D)
  | [p] => match G_are_parts [p] with
    | some (.bl true) => (itemsD p).bind fun ds => if ds.length ≤ 1000 then (mapO partF ds).bind fun ys => (G_least [.lst ys]).map fun q => [q] else none
    | _ => none
  | _ => none
theorem fSq_items {i : Nat} {δ : Es} {p : D} {ds : List D} (hi : δ[i]? = some (.val p)) (h : itemsD p = some ds) : fSq (fV i) δ = some (ds, δ) := by
  cases p <;> simp [itemsD] at h <;> subst h <;> simp [fSq, fV, hi]
theorem partF_some {d y : D} (h : partF d = some y) : ∃ zs ws, itemsD d = some zs ∧ zs.length ≤ 1000 ∧ mapO (fun d => G_as_ratio [d]) zs = some ws ∧ G_trimmed [.lst ws] = some y := by
  unfold partF at h
  cases f1 : itemsD d with
  | none => rw [f1] at h; cases h
  | some zs =>
    rw [f1, Option.bind_some] at h
    obtain ⟨hz, h⟩ := ite_o h
    obtain ⟨ws, f2, f3⟩ := bind_some1 h
    exact ⟨zs, ws, rfl, hz, f2, f3⟩
theorem course_some {p : D} {fs : List D} (h : G_Course_init [p] = some fs) : ∃ xs ys q, G_are_parts [p] = some (.bl true) ∧ itemsD p = some xs ∧ xs.length ≤ 1000 ∧ mapO partF xs = some ys ∧ G_least [.lst ys] = some q ∧ fs = [q] := by
  rw [G_Course_init] at h
  split at h
  case h_2 => cases h
  rename_i hp
  cases f1 : itemsD p with
  | none => rw [f1] at h; cases h
  | some xs =>
    rw [f1, Option.bind_some] at h
    obtain ⟨hz, h⟩ := ite_o h
    obtain ⟨ys, f2, h⟩ := bind_some1 h
    obtain ⟨q, f3, rfl⟩ := map_some1 h
    exact ⟨xs, ys, q, hp, rfl, hz, f2, f3, rfl⟩
theorem course_in {C dx : Addr} {p d y : D} {zs ws : List D} (f1 : itemsD d = some zs) (hz : zs.length ≤ 1000) (f2 : mapO (fun d => G_as_ratio [d]) zs = some ws) (f3 : G_trimmed [.lst ws] = some y) :
    fCall G_trimmed (gPos []) (fCons (fFr (fLc (fSq (fV 2)) (gN 3) fYes (fCall G_as_ratio (gPos []) (fCons (fV 3) fNil) fNil) [3])) fNil) fNil [.own (.ini C dx ["_parts"]) [], .val p, .val d, .un] = some (y, [.own (.ini C dx ["_parts"]) [], .val p, .val d, .un]) := by
  have hb : zs.length ≤ big := by unfold big; omega
  have k2 : fLc (fSq (fV 2)) (gN 3) fYes (fCall G_as_ratio (gPos []) (fCons (fV 3) fNil) fNil) [3] [.own (.ini C dx ["_parts"]) [], .val p, .val d, .un] = (mapO (fun d => G_as_ratio [d]) zs).map fun ys => (ys, [.own (.ini C dx ["_parts"]) [], .val p, .val d, .un]) :=
    flc (fSq_items rfl f1) rfl (fun x _ => by simp [fCall, fCons, fNil, fV, gPos]) hb
  rw [f2] at k2
  simp [fCall, fCons, fNil, fFr, k2, gPos, f3]
theorem course_out {C dx : Addr} {p : D} {xs ys : List D} (e1 : itemsD p = some xs) (hl : xs.length ≤ 1000) (e2 : mapO partF xs = some ys) : 
   fLc (fSq (fV 1)) (gN 2) fYes (fCall G_trimmed (gPos []) (fCons (fFr (fLc (fSq (fV 2)) (gN 3) fYes (fCall G_as_ratio (gPos []) (fCons (fV 3) fNil) fNil) [3])) fNil) fNil) [2] [.own (.ini C dx ["_parts"]) [], .val p, .un, .un] = some (ys, [.own (.ini C dx ["_parts"]) [], .val p, .un, .un]) := by
  have hb : xs.length ≤ big := by unfold big; omega
  have k : fLc (fSq (fV 1)) (gN 2) fYes (fCall G_trimmed (gPos []) (fCons (fFr (fLc (fSq (fV 2)) (gN 3) fYes (fCall G_as_ratio (gPos []) (fCons (fV 3) fNil) fNil) [3])) fNil) fNil) [2] [.own (.ini C dx ["_parts"]) [], .val p, .un, .un] = (mapO partF xs).map fun ys => (ys, [.own (.ini C dx ["_parts"]) [], .val p, .un, .un]) := by
    refine flc (fSq_items rfl e1) rfl (fun d hd => ?_) hb
    obtain ⟨y, hy⟩ := mapO_mem e2 d hd
    obtain ⟨zs, ws, f1, hz, f2, f3⟩ := partF_some hy
    rw [hy]
    exact course_in f1 hz f2 f3
  rw [e2] at k
  exact k
theorem tA {C dx : Addr} {p : D} (hp : G_are_parts [p] = some (.bl true)) : (sIf (fNot (fB (fCall G_are_parts (gPos []) (fCons (fV 1) fNil) fNil))) sNo sNil) [.own (.ini C dx ["_parts"]) [], .val p, .un, .un] = some (.nx [.own (.ini C dx ["_parts"]) [], .val p, .un, .un]) := by
  simp [sIf, fNot, fB, fCall, fCons, fNil, fV, gPos, hp, sNil]
theorem tB1 {F : List D → Option D} {C dx : Addr} {p q : D} {ys : List D} {X : FA} (e3 : F [.lst ys] = some q) (k : X [.own (.ini C dx ["_parts"]) [], .val p, .un, .un] = some (ys, [.own (.ini C dx ["_parts"]) [], .val p, .un, .un])) : fCall F (gPos []) (fCons (fFr X) fNil) fNil [.own (.ini C dx ["_parts"]) [], .val p, .un, .un] = some (q, [.own (.ini C dx ["_parts"]) [], .val p, .un, .un]) := by
    rw [fCall, fCons, fFr, k]
    simp only [Option.map_some, Option.bind_some, fNil, gPos, List.append_nil, e3]
theorem tB2 {C dx : Addr} {p q : D} {X : FE} (e : X [.own (.ini C dx ["_parts"]) [], .val p, .un, .un] = some (q, [.own (.ini C dx ["_parts"]) [], .val p, .un, .un])) : (sIni 0 C ["_parts"] "_parts" X) [.own (.ini C dx ["_parts"]) [], .val p, .un, .un] = some (.nx [.own (.ini C dx ["_parts"]) [q], .val p, .un, .un]) := by
  rw [sIni, e]
  simp
theorem tB {C dx : Addr} {p q : D} {ys : List D} (e3 : G_least [.lst ys] = some q) (k : fLc (fSq (fV 1)) (gN 2) fYes (fCall G_trimmed (gPos []) (fCons (fFr (fLc (fSq (fV 2)) (gN 3) fYes (fCall G_as_ratio (gPos []) (fCons (fV 3) fNil) fNil) [3])) fNil) fNil) [2] [.own (.ini C dx ["_parts"]) [], .val p, .un, .un] = some (ys, [.own (.ini C dx ["_parts"]) [], .val p, .un, .un])) : (sIni 0 C ["_parts"] "_parts" (fCall G_least (gPos []) (fCons (fFr (fLc (fSq (fV 1)) (gN 2) fYes (fCall G_trimmed (gPos []) (fCons (fFr (fLc (fSq (fV 2)) (gN 3) fYes (fCall G_as_ratio (gPos []) (fCons (fV 3) fNil) fNil) [3])) fNil) fNil) [2])) fNil) fNil)) [.own (.ini C dx ["_parts"]) [], .val p, .un, .un] = some (.nx [.own (.ini C dx ["_parts"]) [q], .val p, .un, .un]) := tB2 (tB1 e3 k)
theorem tC2 {C dx : Addr} {q p : D} : endI C ["_parts"] (.nx [.own (.ini C dx ["_parts"]) [q], .val p, .un, .un]) = some [q] := by simp [endI]
theorem tell_Course_init (C dx : Addr) (ds fs : List D) (h : ds.length = 1) (e : G_Course_init ds = some fs) : ∃ r, g_Course_init C (.own (.ini C dx ["_parts"]) [] :: ini 3 ds) = some r ∧ endI C ["_parts"] r = some fs := by
  obtain ⟨p, rfl⟩ := List.length_eq_one_iff.mp h
  obtain ⟨xs, ys, q, hp, e1, hl, e2, e3, rfl⟩ := course_some e
  have k := course_out (C := C) (dx := dx) e1 hl e2
  refine ⟨.nx [.own (.ini C dx ["_parts"]) [q], .val p, .un, .un], ?_, tC2⟩
  have i0 : ini 3 [p] = [.val p, .un, .un] := rfl
  rw [i0, g_Course_init, sSeq, tA hp]
  exact tB e3 k
theorem ok_Course_init (M : Facts K mg) : FnG P w K mg base 8 M.a_Course_init M.d_Course_init ["self", "parts"] (spI (TT K M.C_Ratio M.C_Course) 1 1 G_Course_init) :=
  okI (g := g_Course_init M.C_Course) (C := M.C_Course) G_Course_init (funD_fun M.F_Course_init) sc_Course_init rfl rfl (fun cdv A outer s H E hq hr =>
    (sts_cons (st_if (pt_n (pt_d (pd_call (ok_are_parts M) hq (hr.mono (by decide)) M.m_are_parts M.F_are_parts.kp (bnd_of 1 M.b_are_parts .nil lits_nil rfl) (pds_cons (pd_v 1) pds_nil) pks_nil))) (sts_one st_no) sts_nil)
    (sts_one (st_ini (i := 0) (pd_call (ok_least M) hq (hr.mono (by decide)) M.m_least M.F_least.kp (bnd_of 1 M.b_least .nil lits_nil rfl) (pds_cons (pd_fr (pf_lc rfl sc_Course_init.nd (blkOk_by (own := [("part", 2)]) (by show blkC ["self", "parts", "part", "number"] (defScope s_Course_init) _ _ = true; decide +kernel)) (pid_sq (pd_v 1)) (fun _ _ _ _ _ => (tg_n 2 sc_Course_init.nd)) (fun _ _ _ _ _ => pts_yes) (fun _ _ _ _ _ => (pd_call (ok_trimmed M) hq (hr.mono (by decide)) M.m_trimmed M.F_trimmed.kp (bnd_of 1 M.b_trimmed .nil lits_nil rfl) (pds_cons (pd_fr (pf_lc rfl sc_Course_init.nd (blkOk_by (own := [("number", 3)]) (by kernel_rfl)) (pid_sq (pd_v 2)) (fun _ _ _ _ _ => (tg_n 3 sc_Course_init.nd)) (fun _ _ _ _ _ => pts_yes) (fun _ _ _ _ _ => (pd_call (ok_as_ratio M) hq (hr.mono (by decide)) M.m_as_ratio M.F_as_ratio.kp (bnd_of 1 M.b_as_ratio .nil lits_nil rfl) (pds_cons (pd_v 3) pds_nil) pks_nil)))) pds_nil) pks_nil)))) pds_nil) pks_nil) M.hc_Course M.na_Course_parts)))) fun dx ds fs h1 h2 => tell_Course_init M.C_Course dx ds fs h1 h2

theorem sc_Course_period : FnScope ["self"] ["self"] (defScope s_Course_period) := ⟨rfl, rfl, rfl, by decide +kernel, rfl, by decide +kernel, by decide +kernel⟩
def g_Course_period : FS := (sRet (fFun funLen (fCons (fFld 1 0 (fV 0)) fNil)))
def G_Course_period : List D → Option D := outD 1 g_Course_period
theorem ok_Course_period (M : Facts K mg) : FnG P w K mg base 1 M.a_Course_period M.d_Course_period ["self"] (sp0 (TT K M.C_Ratio M.C_Course) 1 G_Course_period) :=
  ok0' (g := g_Course_period) M.F_Course_period sc_Course_period rfl rfl (fun cdv A outer s H E hq hr =>
    (sts_one (st_ret (pd_blt call_len_seq callv_len M.n_len (by decide +kernel) (pds_cons (pd_fld (c := 1) (j := 0) (pd_v 0) rfl M.hc_Course M.na_Course_parts) pds_nil)))))

theorem sc_Course_degree : FnScope ["self", "part"] ["self"] (defScope s_Course_degree) := ⟨rfl, rfl, rfl, by decide +kernel, rfl, by decide +kernel, by decide +kernel⟩
def g_Course_degree : FS := (sRet (fBin (gI0 fun i j => .int (i - j)) (fFun funMaxL (fCons (fFr (fLc (fSq (fFld 1 0 (fV 0))) (gN 1) fYes (fLenN 1) [1])) fNil)) (fC (.int 1))))
def G_Course_degree : List D → Option D := outD 2 g_Course_degree
theorem ok_Course_degree (M : Facts K mg) : FnG P w K mg base 1 M.a_Course_degree M.d_Course_degree ["self"] (sp0 (TT K M.C_Ratio M.C_Course) 1 G_Course_degree) :=
  ok0' (g := g_Course_degree) M.F_Course_degree sc_Course_degree rfl rfl (fun cdv A outer s H E hq hr =>
    (sts_one (st_ret (pd_op op_sub opv_sub (pd_blt (cr_max rfl) callv_maxL M.n_max (by decide +kernel) (pds_cons (pd_fr (pf_lc rfl sc_Course_degree.nd (blkOk_by (own := [("part", 1)]) (by show blkC ["self", "part"] (defScope s_Course_degree) _ _ = true; decide +kernel)) (pid_sq (pd_fld (c := 1) (j := 0) (pd_v 0) rfl M.hc_Course M.na_Course_parts)) (fun _ _ _ _ _ => (tg_n 1 sc_Course_degree.nd)) (fun _ _ _ _ _ => pts_yes) (fun _ _ _ _ _ => (pd_lenN (i := 1) M.n_len)))) pds_nil)) pd_int))))

theorem sc_Course_at : FnScope ["self", "whole"] ["self", "whole"] (defScope s_Course_at) := ⟨rfl, rfl, rfl, by decide +kernel, rfl, by decide +kernel, by decide +kernel⟩
def g_Course_at : FS := (sSeq (sExpr (fCall G_check_whole (gPos []) (fCons (fV 1) fNil) fNil))
    (sRet (fCall G_worth (gPos []) (fCons (fBin gIx (fFld 1 0 (fV 0)) (fBin (gI okPos fun i j => .int (i % j)) (fV 1) (fFun funLen (fCons (fFld 1 0 (fV 0)) fNil)))) (fCons (fV 1) fNil)) fNil)))
def G_Course_at : List D → Option D := outD 2 g_Course_at
theorem ok_Course_at (M : Facts K mg) : FnG P w K mg base 7 M.a_Course_at M.d_Course_at ["self", "whole"] (sp0 (TT K M.C_Ratio M.C_Course) 2 G_Course_at) :=
  ok0' (g := g_Course_at) M.F_Course_at sc_Course_at rfl rfl (fun cdv A outer s H E hq hr =>
    (sts_cons (st_expr (pd_call (ok_check_whole M) hq (hr.mono (by decide)) M.m_check_whole M.F_check_whole.kp (bnd_of 1 M.b_check_whole .nil lits_nil rfl) (pds_cons (pd_v 1) pds_nil) pks_nil))
    (sts_one (st_ret (pd_call (ok_worth M) hq (hr.mono (by decide)) M.m_worth M.F_worth.kp (bnd_of 2 M.b_worth .nil lits_nil rfl) (pds_cons (pd_ix (pd_fld (c := 1) (j := 0) (pd_v 0) rfl M.hc_Course M.na_Course_parts) (pd_op op_mod opv_mod (pd_v 1) (pd_blt call_len_seq callv_len M.n_len (by decide +kernel) (pds_cons (pd_fld (c := 1) (j := 0) (pd_v 0) rfl M.hc_Course M.na_Course_parts) pds_nil)))) (pds_cons (pd_v 1) pds_nil)) pks_nil)))))

theorem sc_Course_eq : FnScope ["self", "other"] ["self", "other"] (defScope s_Course_eq) := ⟨rfl, rfl, rfl, by decide +kernel, rfl, by decide +kernel, by decide +kernel⟩
def g_Course_eq : FS := (sRet (fAndV (fIsi (pObj 1) (fV 1)) (fBin (gOr (gOr gEqF (gOwnE 0 G_Ratio_eq)) (gB false (eqLs eq3))) (fFld 1 0 (fV 0)) (fFld 1 0 (fV 1)))))
def G_Course_eq : List D → Option D := outD 2 g_Course_eq
theorem ok_Course_eq (M : Facts K mg) : FnG P w K mg base 6 M.a_Course_eq M.d_Course_eq ["self", "other"] (sp0 (TT K M.C_Ratio M.C_Course) 2 G_Course_eq) :=
  ok0' (g := g_Course_eq) M.F_Course_eq sc_Course_eq rfl rfl (fun cdv A outer s H E hq hr =>
    (sts_one (st_ret (pd_and (pd_isi (pd_v 1) (pe_glob (v := .ref M.C_Course) rfl M.m_Course rfl) (ClsV.own M.C_Course) M.ca M.i_Course M.n_isinstance) (pd_one (pd_cmp (Dl.OpR.or (Dl.OpR.or op_eq (op_ownE (T := TT K M.C_Ratio M.C_Course) (E := E0) M.e_Ratio_eq M.ef_Ratio_eq (ok_Ratio_eq M) hq (hr.mono (by decide)) M.b_Ratio_eq rfl)) (op_eqB (n := 5) (T := TT K M.C_Ratio M.C_Course) (rcB_ls false (eqB3 M rfl rfl)) hq (hr.mono (by decide)))) (Dl.OpV.or (Dl.OpV.or opv_eqF (opv_ownE (c := 0) rfl M.tp_Ratio)) (opv_eqB false)) (pd_fld (c := 1) (j := 0) (pd_v 0) rfl M.hc_Course M.na_Course_parts) (pd_fld (c := 1) (j := 0) (pd_v 1) rfl M.hc_Course M.na_Course_parts) rfl))))))

theorem sc_summed : FnScope ["one", "two", "many", "longer", "numbers", "left", "right"] ["one", "two"] (defScope s_summed) := ⟨rfl, rfl, rfl, by decide +kernel, rfl, by decide +kernel, by decide +kernel⟩
def g_summed : FS := (sSeq (sSet 2 (fFun funMax2 (fCons (fLenN 0) (fCons (fLenN 1) fNil))))
    (sSeq (sOwn 3 (fLc (fSq (fFr (fLst (fCons (fV 0) (fCons (fV 1) fNil))))) (gN 4) fYes (fBin (gOr gAdd0 (gOwn2 0 G_Ratio_add)) (fV 4) (fBin (gOr (gOr (gI okMul fun i j => .int (i * j)) gRep) (gOwn2 0 G_Ratio_mul)) (fFr (fLst (fCons (fMake 0 G_Ratio_init (gPos [.int 1]) (fCons (fC (.int 0)) fNil) fNil) fNil))) (fBin (gI0 fun i j => .int (i - j)) (fV 2) (fLenN 4)))) [4]))
    (sRet (fFr (fLc (fZipS (fV 3)) (gT 2 (gsCons (gN 5) (gsCons (gN 6) gsNil))) fYes (fBin (gOr gAdd0 (gOwn2 0 G_Ratio_add)) (fV 5) (fV 6)) [5, 6])))))
def G_summed : List D → Option D := outD 7 g_summed
theorem ok_summed (M : Facts K mg) : FnG P w K mg base 6 M.a_summed M.d_summed ["one", "two"] (sp0 (TT K M.C_Ratio M.C_Course) 2 G_summed) :=
  ok0' (g := g_summed) M.F_summed sc_summed rfl rfl (fun cdv A outer s H E hq hr =>
    (sts_cons (st_set 2 sc_summed.nd (pd_blt (call_max2 rfl) callv_max2 M.n_max (by decide +kernel) (pds_cons (pd_lenN (i := 0) M.n_len) (pds_cons (pd_lenN (i := 1) M.n_len) pds_nil))))
    (sts_cons (st_lc 3 rfl sc_summed.nd (blkOk_by (own := [("numbers", 4)]) (by show blkC ["one", "two", "many", "longer", "numbers", "left", "right"] (defScope s_summed) _ _ = true; decide +kernel)) (pid_sq (pd_fr (pf_lst (pds_cons (pd_v 0) (pds_cons (pd_v 1) pds_nil))))) (fun _ _ _ _ _ => (tg_n 4 sc_summed.nd)) (fun _ _ _ _ _ => pts_yes) (fun _ _ _ _ _ => (pd_op (Dl.OpR.or op_add0 (op_ownB (E := E0) M.o_Ratio_add (ok_Ratio_add M) hq (hr.mono (by decide)) M.b_Ratio_add rfl)) (Dl.OpV.or opv_add0 (opv_own2 (c := 0) rfl)) (pd_v 4) (pd_op (Dl.OpR.or (Dl.OpR.or op_mulW op_rep) (op_ownB (E := E0) M.o_Ratio_mul (ok_Ratio_mul M) hq (hr.mono (by decide)) M.b_Ratio_mul rfl)) (Dl.OpV.or (Dl.OpV.or opv_mulW opv_rep) (opv_own2 (c := 0) rfl)) (pd_fr (pf_lst (pds_cons (pd_make (c := 0) rfl M.mk_Ratio (ok_Ratio_init M) hq (hr.mono (by decide)) M.m_Ratio M.bi_Ratio_init_1 (pds_cons pd_int pds_nil) pks_nil) pds_nil))) (pd_op op_sub opv_sub (pd_v 2) (pd_lenN (i := 4) M.n_len))))))
    (sts_one (st_ret (pd_fr (pf_lc rfl sc_summed.nd (blkOk_by (own := [("left", 5), ("right", 6)]) (by show blkC ["one", "two", "many", "longer", "numbers", "left", "right"] (defScope s_summed) _ _ = true; decide +kernel)) (pid_zipS M.n_zip (pd_v 3)) (fun _ _ _ _ _ => (tg_t rfl (tgs_cons (tg_n 5 sc_summed.nd) (tgs_cons (tg_n 6 sc_summed.nd) tgs_nil)))) (fun _ _ _ _ _ => pts_yes) (fun _ _ _ _ _ => (pd_op (Dl.OpR.or op_add0 (op_ownB (E := E0) M.o_Ratio_add (ok_Ratio_add M) hq (hr.mono (by decide)) M.b_Ratio_add rfl)) (Dl.OpV.or opv_add0 (opv_own2 (c := 0) rfl)) (pd_v 5) (pd_v 6))))))))))

theorem sc_Ratio_rmul : FnScope ["self", "other"] ["self", "other"] (defScope s_Ratio_rmul) := ⟨rfl, rfl, rfl, by decide +kernel, rfl, by decide +kernel, by decide +kernel⟩
def g_Ratio_rmul : FS := (sRet (fBin (gOr (gOr (gI okMul fun i j => .int (i * j)) gRep) (gOwn2 0 G_Ratio_mul)) (fCall G_as_ratio (gPos []) (fCons (fV 1) fNil) fNil) (fV 0)))
def G_Ratio_rmul : List D → Option D := outD 2 g_Ratio_rmul
theorem ok_Ratio_rmul (M : Facts K mg) : FnG P w K mg base 6 M.a_Ratio_rmul M.d_Ratio_rmul ["self", "other"] (sp0 (TT K M.C_Ratio M.C_Course) 2 G_Ratio_rmul) :=
  ok0' (g := g_Ratio_rmul) M.F_Ratio_rmul sc_Ratio_rmul rfl rfl (fun cdv A outer s H E hq hr =>
    (sts_one (st_ret (pd_op (Dl.OpR.or (Dl.OpR.or op_mulW op_rep) (op_ownB (E := E0) M.o_Ratio_mul (ok_Ratio_mul M) hq (hr.mono (by decide)) M.b_Ratio_mul rfl)) (Dl.OpV.or (Dl.OpV.or opv_mulW opv_rep) (opv_own2 (c := 0) rfl)) (pd_call (ok_as_ratio M) hq (hr.mono (by decide)) M.m_as_ratio M.F_as_ratio.kp (bnd_of 1 M.b_as_ratio .nil lits_nil rfl) (pds_cons (pd_v 1) pds_nil) pks_nil) (pd_v 0)))))

theorem sc_multiplied : FnScope ["numbers", "number", "told"] ["numbers", "number"] (defScope s_multiplied) := ⟨rfl, rfl, rfl, by decide +kernel, rfl, by decide +kernel, by decide +kernel⟩
def g_multiplied : FS := (sRet (fFr (fLc (fSq (fV 0)) (gN 2) fYes (fBin (gOr (gOr (gOr (gI okMul fun i j => .int (i * j)) gRep) (gOwn2 0 G_Ratio_mul)) (gOwnR 0 G_Ratio_rmul)) (fV 1) (fV 2)) [2])))
def G_multiplied : List D → Option D := outD 3 g_multiplied
theorem ok_multiplied (M : Facts K mg) : FnG P w K mg base 7 M.a_multiplied M.d_multiplied ["numbers", "number"] (sp0 (TT K M.C_Ratio M.C_Course) 2 G_multiplied) :=
  ok0' (g := g_multiplied) M.F_multiplied sc_multiplied rfl rfl (fun cdv A outer s H E hq hr =>
    (sts_one (st_ret (pd_fr (pf_lc rfl sc_multiplied.nd (blkOk_by (own := [("told", 2)]) (by show blkC ["numbers", "number", "told"] (defScope s_multiplied) _ _ = true; decide +kernel)) (pid_sq (pd_v 0)) (fun _ _ _ _ _ => (tg_n 2 sc_multiplied.nd)) (fun _ _ _ _ _ => pts_yes) (fun _ _ _ _ _ => (pd_op (Dl.OpR.or (Dl.OpR.or (Dl.OpR.or op_mulW op_rep) (op_ownB (E := E0) M.o_Ratio_mul (ok_Ratio_mul M) hq (hr.mono (by decide)) M.b_Ratio_mul rfl)) (op_rmul (E := E0) M.r_Ratio_rmul (ok_Ratio_rmul M) hq (hr.mono (by decide)) M.b_Ratio_rmul rfl)) (Dl.OpV.or (Dl.OpV.or (Dl.OpV.or opv_mulW opv_rep) (opv_own2 (c := 0) rfl)) (opv_ownR (c := 0) rfl)) (pd_v 1) (pd_v 2))))))))

theorem sc_times_sum : FnScope ["numbers", "beside", "by"] ["numbers", "beside", "by"] (defScope s_times_sum) := ⟨rfl, rfl, rfl, by decide +kernel, rfl, by decide +kernel, by decide +kernel⟩
def g_times_sum : FS := (sRet (fCall G_summed (gPos []) (fCons (fCall G_multiplied (gPos []) (fCons (fV 0) (fCons (fV 1) fNil)) fNil) (fCons (fBin (gOr gAdd0 (gOwn2 0 G_Ratio_add)) (fFr (fLst (fCons (fMake 0 G_Ratio_init (gPos [.int 1]) (fCons (fC (.int 0)) fNil) fNil) fNil))) (fCall G_multiplied (gPos []) (fCons (fV 0) (fCons (fV 2) fNil)) fNil)) fNil)) fNil))
def G_times_sum : List D → Option D := outD 3 g_times_sum
theorem ok_times_sum (M : Facts K mg) : FnG P w K mg base 8 M.a_times_sum M.d_times_sum ["numbers", "beside", "by"] (sp0 (TT K M.C_Ratio M.C_Course) 3 G_times_sum) :=
  ok0' (g := g_times_sum) M.F_times_sum sc_times_sum rfl rfl (fun cdv A outer s H E hq hr =>
    (sts_one (st_ret (pd_call (ok_summed M) hq (hr.mono (by decide)) M.m_summed M.F_summed.kp (bnd_of 2 M.b_summed .nil lits_nil rfl) (pds_cons (pd_call (ok_multiplied M) hq (hr.mono (by decide)) M.m_multiplied M.F_multiplied.kp (bnd_of 2 M.b_multiplied .nil lits_nil rfl) (pds_cons (pd_v 0) (pds_cons (pd_v 1) pds_nil)) pks_nil) (pds_cons (pd_op (Dl.OpR.or op_add0 (op_ownB (E := E0) M.o_Ratio_add (ok_Ratio_add M) hq (hr.mono (by decide)) M.b_Ratio_add rfl)) (Dl.OpV.or opv_add0 (opv_own2 (c := 0) rfl)) (pd_fr (pf_lst (pds_cons (pd_make (c := 0) rfl M.mk_Ratio (ok_Ratio_init M) hq (hr.mono (by decide)) M.m_Ratio M.bi_Ratio_init_1 (pds_cons pd_int pds_nil) pks_nil) pds_nil))) (pd_call (ok_multiplied M) hq (hr.mono (by decide)) M.m_multiplied M.F_multiplied.kp (bnd_of 2 M.b_multiplied .nil lits_nil rfl) (pds_cons (pd_v 0) (pds_cons (pd_v 2) pds_nil)) pks_nil)) pds_nil)) pks_nil))))

theorem sc_Ratio_sub : FnScope ["self", "other", "right"] ["self", "other"] (defScope s_Ratio_sub) := ⟨rfl, rfl, rfl, by decide +kernel, rfl, by decide +kernel, by decide +kernel⟩
def g_Ratio_sub : FS := (sSeq (sSet 2 (fCall G_as_ratio (gPos []) (fCons (fV 1) fNil) fNil))
    (sRet (fMake 0 G_Ratio_init (gPos []) (fCons (fBin (gI0 fun i j => .int (i - j)) (fBin (gOr (gOr (gOr (gI okMul fun i j => .int (i * j)) gRep) (gOwn2 0 G_Ratio_mul)) (gOwnR 0 G_Ratio_rmul)) (fFld 0 0 (fV 0)) (fFld 0 1 (fV 2))) (fBin (gOr (gOr (gOr (gI okMul fun i j => .int (i * j)) gRep) (gOwn2 0 G_Ratio_mul)) (gOwnR 0 G_Ratio_rmul)) (fFld 0 0 (fV 2)) (fFld 0 1 (fV 0)))) (fCons (fBin (gOr (gOr (gOr (gI okMul fun i j => .int (i * j)) gRep) (gOwn2 0 G_Ratio_mul)) (gOwnR 0 G_Ratio_rmul)) (fFld 0 1 (fV 0)) (fFld 0 1 (fV 2))) fNil)) fNil)))
def G_Ratio_sub : List D → Option D := outD 3 g_Ratio_sub
theorem ok_Ratio_sub (M : Facts K mg) : FnG P w K mg base 7 M.a_Ratio_sub M.d_Ratio_sub ["self", "other"] (sp0 (TT K M.C_Ratio M.C_Course) 2 G_Ratio_sub) :=
  ok0' (g := g_Ratio_sub) M.F_Ratio_sub sc_Ratio_sub rfl rfl (fun cdv A outer s H E hq hr =>
    (sts_cons (st_set 2 sc_Ratio_sub.nd (pd_call (ok_as_ratio M) hq (hr.mono (by decide)) M.m_as_ratio M.F_as_ratio.kp (bnd_of 1 M.b_as_ratio .nil lits_nil rfl) (pds_cons (pd_v 1) pds_nil) pks_nil))
    (sts_one (st_ret (pd_make (c := 0) rfl M.mk_Ratio (ok_Ratio_init M) hq (hr.mono (by decide)) M.m_Ratio M.bi_Ratio_init_2 (pds_cons (pd_op op_sub opv_sub (pd_op (Dl.OpR.or (Dl.OpR.or (Dl.OpR.or op_mulW op_rep) (op_ownB (E := E0) M.o_Ratio_mul (ok_Ratio_mul M) hq (hr.mono (by decide)) M.b_Ratio_mul rfl)) (op_rmul (E := E0) M.r_Ratio_rmul (ok_Ratio_rmul M) hq (hr.mono (by decide)) M.b_Ratio_rmul rfl)) (Dl.OpV.or (Dl.OpV.or (Dl.OpV.or opv_mulW opv_rep) (opv_own2 (c := 0) rfl)) (opv_ownR (c := 0) rfl)) (pd_fld (c := 0) (j := 0) (pd_v 0) rfl M.hc_Ratio M.na_Ratio_top) (pd_fld (c := 0) (j := 1) (pd_v 2) rfl M.hc_Ratio M.na_Ratio_bottom)) (pd_op (Dl.OpR.or (Dl.OpR.or (Dl.OpR.or op_mulW op_rep) (op_ownB (E := E0) M.o_Ratio_mul (ok_Ratio_mul M) hq (hr.mono (by decide)) M.b_Ratio_mul rfl)) (op_rmul (E := E0) M.r_Ratio_rmul (ok_Ratio_rmul M) hq (hr.mono (by decide)) M.b_Ratio_rmul rfl)) (Dl.OpV.or (Dl.OpV.or (Dl.OpV.or opv_mulW opv_rep) (opv_own2 (c := 0) rfl)) (opv_ownR (c := 0) rfl)) (pd_fld (c := 0) (j := 0) (pd_v 2) rfl M.hc_Ratio M.na_Ratio_top) (pd_fld (c := 0) (j := 1) (pd_v 0) rfl M.hc_Ratio M.na_Ratio_bottom))) (pds_cons (pd_op (Dl.OpR.or (Dl.OpR.or (Dl.OpR.or op_mulW op_rep) (op_ownB (E := E0) M.o_Ratio_mul (ok_Ratio_mul M) hq (hr.mono (by decide)) M.b_Ratio_mul rfl)) (op_rmul (E := E0) M.r_Ratio_rmul (ok_Ratio_rmul M) hq (hr.mono (by decide)) M.b_Ratio_rmul rfl)) (Dl.OpV.or (Dl.OpV.or (Dl.OpV.or opv_mulW opv_rep) (opv_own2 (c := 0) rfl)) (opv_ownR (c := 0) rfl)) (pd_fld (c := 0) (j := 1) (pd_v 0) rfl M.hc_Ratio M.na_Ratio_bottom) (pd_fld (c := 0) (j := 1) (pd_v 2) rfl M.hc_Ratio M.na_Ratio_bottom)) pds_nil)) pks_nil)))))

theorem sc_counting : FnScope ["step", "first", "many", "found", "size", "by"] ["step", "first", "many"] (defScope s_counting) := ⟨rfl, rfl, rfl, by decide +kernel, rfl, by decide +kernel, by decide +kernel⟩
def g_counting : FS := (sSeq (sOwn 3 (fLst (fCons (fFr (fLst (fCons (fMake 0 G_Ratio_init (gPos [.int 1]) (fCons (fC (.int 1)) fNil) fNil) fNil))) fNil)))
    (sSeq (sFor (fRg2 (fCons (fC (.int 1)) (fCons (fV 2) fNil))) (gN 4) (sSeq (sSet 5 (fMake 0 G_Ratio_init (gPos []) (fCons (fC (.int 1)) (fCons (fBin (gOr (gOr (gOr (gI okMul fun i j => .int (i * j)) gRep) (gOwn2 0 G_Ratio_mul)) (gOwnR 0 G_Ratio_rmul)) (fV 0) (fV 4)) fNil)) fNil))
    (sApp 3 (fCall G_times_sum (gPos []) (fCons (fIxN 3 (fUn gNeg (fC (.int 1)))) (fCons (fBin (gOr (gOr (gOr (gI okMul fun i j => .int (i * j)) gRep) (gOwn2 0 G_Ratio_mul)) (gOwnR 0 G_Ratio_rmul)) (fV 5) (fBin (gOr (gI0 fun i j => .int (i - j)) (gOwn2 0 G_Ratio_sub)) (fUn gNeg (fV 1)) (fBin (gOr (gOr (gOr (gI okMul fun i j => .int (i * j)) gRep) (gOwn2 0 G_Ratio_mul)) (gOwnR 0 G_Ratio_rmul)) (fV 0) (fBin (gOr (gI0 fun i j => .int (i - j)) (gOwn2 0 G_Ratio_sub)) (fV 4) (fC (.int 1)))))) (fCons (fV 5) fNil))) fNil))))
    (sRet (fFr (fSlice (fV 3) fNoPart (fPart (fV 2)))))))
def G_counting : List D → Option D := outD 6 g_counting
theorem ok_counting (M : Facts K mg) : FnG P w K mg base 9 M.a_counting M.d_counting ["step", "first", "many"] (sp0 (TT K M.C_Ratio M.C_Course) 3 G_counting) :=
  ok0' (g := g_counting) M.F_counting sc_counting rfl rfl (fun cdv A outer s H E hq hr =>
    (sts_cons (st_own 3 sc_counting.nd (pf_lst (pds_cons (pd_fr (pf_lst (pds_cons (pd_make (c := 0) rfl M.mk_Ratio (ok_Ratio_init M) hq (hr.mono (by decide)) M.m_Ratio M.bi_Ratio_init_1 (pds_cons pd_int pds_nil) pks_nil) pds_nil))) pds_nil)))
    (sts_cons (st_for (ws := [4]) PassesOwn.never rfl (pid_rg2 M.n_range (pds_cons pd_int (pds_cons (pd_v 2) pds_nil))) (tg_n 4 sc_counting.nd) (sts_cons (st_set 5 sc_counting.nd (pd_make (c := 0) rfl M.mk_Ratio (ok_Ratio_init M) hq (hr.mono (by decide)) M.m_Ratio M.bi_Ratio_init_2 (pds_cons pd_int (pds_cons (pd_op (Dl.OpR.or (Dl.OpR.or (Dl.OpR.or op_mulW op_rep) (op_ownB (E := E0) M.o_Ratio_mul (ok_Ratio_mul M) hq (hr.mono (by decide)) M.b_Ratio_mul rfl)) (op_rmul (E := E0) M.r_Ratio_rmul (ok_Ratio_rmul M) hq (hr.mono (by decide)) M.b_Ratio_rmul rfl)) (Dl.OpV.or (Dl.OpV.or (Dl.OpV.or opv_mulW opv_rep) (opv_own2 (c := 0) rfl)) (opv_ownR (c := 0) rfl)) (pd_v 0) (pd_v 4)) pds_nil)) pks_nil))
    (sts_one (st_app (i := 3) (pd_call (ok_times_sum M) hq (hr.mono (by decide)) M.m_times_sum M.F_times_sum.kp (bnd_of 3 M.b_times_sum .nil lits_nil rfl) (pds_cons (pd_ixN (i := 3) (pd_un un_neg unv_neg pd_int)) (pds_cons (pd_op (Dl.OpR.or (Dl.OpR.or (Dl.OpR.or op_mulW op_rep) (op_ownB (E := E0) M.o_Ratio_mul (ok_Ratio_mul M) hq (hr.mono (by decide)) M.b_Ratio_mul rfl)) (op_rmul (E := E0) M.r_Ratio_rmul (ok_Ratio_rmul M) hq (hr.mono (by decide)) M.b_Ratio_rmul rfl)) (Dl.OpV.or (Dl.OpV.or (Dl.OpV.or opv_mulW opv_rep) (opv_own2 (c := 0) rfl)) (opv_ownR (c := 0) rfl)) (pd_v 5) (pd_op (Dl.OpR.or op_sub (op_ownB (E := E0) M.o_Ratio_sub (ok_Ratio_sub M) hq (hr.mono (by decide)) M.b_Ratio_sub rfl)) (Dl.OpV.or opv_sub (opv_own2 (c := 0) rfl)) (pd_un un_neg unv_neg (pd_v 1)) (pd_op (Dl.OpR.or (Dl.OpR.or (Dl.OpR.or op_mulW op_rep) (op_ownB (E := E0) M.o_Ratio_mul (ok_Ratio_mul M) hq (hr.mono (by decide)) M.b_Ratio_mul rfl)) (op_rmul (E := E0) M.r_Ratio_rmul (ok_Ratio_rmul M) hq (hr.mono (by decide)) M.b_Ratio_rmul rfl)) (Dl.OpV.or (Dl.OpV.or (Dl.OpV.or opv_mulW opv_rep) (opv_own2 (c := 0) rfl)) (opv_ownR (c := 0) rfl)) (pd_v 0) (pd_op (Dl.OpR.or op_sub (op_ownB (E := E0) M.o_Ratio_sub (ok_Ratio_sub M) hq (hr.mono (by decide)) M.b_Ratio_sub rfl)) (Dl.OpV.or opv_sub (opv_own2 (c := 0) rfl)) (pd_v 4) pd_int)))) (pds_cons (pd_v 5) pds_nil))) pks_nil) (h := fun ho => pe_bm PySem.F.plainAttrs_list PySem.F.slot_list_append PySem.F.type_list_append mt_append ho (pa_cons (pd_call (ok_times_sum M) hq (hr.mono (by decide)) M.m_times_sum M.F_times_sum.kp (bnd_of 3 M.b_times_sum .nil lits_nil rfl) (pds_cons (pd_ixN (i := 3) (pd_un un_neg unv_neg pd_int)) (pds_cons (pd_op (Dl.OpR.or (Dl.OpR.or (Dl.OpR.or op_mulW op_rep) (op_ownB (E := E0) M.o_Ratio_mul (ok_Ratio_mul M) hq (hr.mono (by decide)) M.b_Ratio_mul rfl)) (op_rmul (E := E0) M.r_Ratio_rmul (ok_Ratio_rmul M) hq (hr.mono (by decide)) M.b_Ratio_rmul rfl)) (Dl.OpV.or (Dl.OpV.or (Dl.OpV.or opv_mulW opv_rep) (opv_own2 (c := 0) rfl)) (opv_ownR (c := 0) rfl)) (pd_v 5) (pd_op (Dl.OpR.or op_sub (op_ownB (E := E0) M.o_Ratio_sub (ok_Ratio_sub M) hq (hr.mono (by decide)) M.b_Ratio_sub rfl)) (Dl.OpV.or opv_sub (opv_own2 (c := 0) rfl)) (pd_un un_neg unv_neg (pd_v 1)) (pd_op (Dl.OpR.or (Dl.OpR.or (Dl.OpR.or op_mulW op_rep) (op_ownB (E := E0) M.o_Ratio_mul (ok_Ratio_mul M) hq (hr.mono (by decide)) M.b_Ratio_mul rfl)) (op_rmul (E := E0) M.r_Ratio_rmul (ok_Ratio_rmul M) hq (hr.mono (by decide)) M.b_Ratio_rmul rfl)) (Dl.OpV.or (Dl.OpV.or (Dl.OpV.or opv_mulW opv_rep) (opv_own2 (c := 0) rfl)) (opv_ownR (c := 0) rfl)) (pd_v 0) (pd_op (Dl.OpR.or op_sub (op_ownB (E := E0) M.o_Ratio_sub (ok_Ratio_sub M) hq (hr.mono (by decide)) M.b_Ratio_sub rfl)) (Dl.OpV.or opv_sub (opv_own2 (c := 0) rfl)) (pd_v 4) pd_int)))) (pds_cons (pd_v 5) pds_nil))) pks_nil) pa_nil))))))
    (sts_one (st_ret (pd_fr (pf_slice (pd_v 3) pdo_none (pdo_some (pd_v 2)))))))))

theorem sc_made_of : FnScope ["numbers", "polynomials", "found", "number", "told"] ["numbers", "polynomials"] (defScope s_made_of) := ⟨rfl, rfl, rfl, by decide +kernel, rfl, by decide +kernel, by decide +kernel⟩
def g_made_of : FS := (sSeq (sSet 2 (fFr (fLst fNil)))
    (sSeq (sFor (fZip (fCons (fV 0) (fCons (fV 1) fNil))) (gT 2 (gsCons (gN 3) (gsCons (gN 4) gsNil))) (sSet 2 (fCall G_summed (gPos []) (fCons (fV 2) (fCons (fCall G_multiplied (gPos []) (fCons (fV 4) (fCons (fV 3) fNil)) fNil) fNil)) fNil)))
    (sRet (fV 2))))
def G_made_of : List D → Option D := outD 5 g_made_of
theorem ok_made_of (M : Facts K mg) : FnG P w K mg base 8 M.a_made_of M.d_made_of ["numbers", "polynomials"] (sp0 (TT K M.C_Ratio M.C_Course) 2 G_made_of) :=
  ok0' (g := g_made_of) M.F_made_of sc_made_of rfl rfl (fun cdv A outer s H E hq hr =>
    (sts_cons (st_set 2 sc_made_of.nd (pd_fr (pf_lst pds_nil)))
    (sts_cons (st_for (ws := [3, 4]) PassesOwn.never rfl (pid_zip M.n_zip (pds_cons (pd_v 0) (pds_cons (pd_v 1) pds_nil))) (tg_t rfl (tgs_cons (tg_n 3 sc_made_of.nd) (tgs_cons (tg_n 4 sc_made_of.nd) tgs_nil))) (sts_one (st_set 2 sc_made_of.nd (pd_call (ok_summed M) hq (hr.mono (by decide)) M.m_summed M.F_summed.kp (bnd_of 2 M.b_summed .nil lits_nil rfl) (pds_cons (pd_v 2) (pds_cons (pd_call (ok_multiplied M) hq (hr.mono (by decide)) M.m_multiplied M.F_multiplied.kp (bnd_of 2 M.b_multiplied .nil lits_nil rfl) (pds_cons (pd_v 4) (pds_cons (pd_v 3) pds_nil)) pks_nil) pds_nil)) pks_nil))))
    (sts_one (st_ret (pd_v 2))))))

theorem sc_differences_of : FnScope ["values", "found", "left", "one", "two"] ["values"] (defScope s_differences_of) := ⟨rfl, rfl, rfl, by decide +kernel, rfl, by decide +kernel, by decide +kernel⟩
def g_differences_of : FS := (sSeq (sOwn 1 (fLst fNil))
    (sSeq (sSet 2 (fV 0))
    (sSeq (sWhile fu_differences_of (fB (fBin (gI0 fun i j => .bl (decide (j < i))) (fLenN 2) (fC (.int 0)))) (sSeq (sApp 1 (fIxN 2 (fC (.int 0))))
    (sOwn 2 (fLc (fZip (fCons (fV 2) (fCons (fFr (fSlice (fV 2) (fPart (fC (.int 1))) fNoPart)) fNil))) (gT 2 (gsCons (gN 3) (gsCons (gN 4) gsNil))) fYes (fBin (gOr (gI0 fun i j => .int (i - j)) (gOwn2 0 G_Ratio_sub)) (fV 4) (fV 3)) [3, 4]))))
    (sRet (fV 1)))))
def G_differences_of : List D → Option D := outD 5 g_differences_of
theorem ok_differences_of (M : Facts K mg) : FnG P w K mg base 8 M.a_differences_of M.d_differences_of ["values"] (sp0 (TT K M.C_Ratio M.C_Course) 1 G_differences_of) :=
  ok0' (g := g_differences_of) M.F_differences_of sc_differences_of rfl rfl (fun cdv A outer s H E hq hr =>
    (sts_cons (st_own 1 sc_differences_of.nd (pf_lst pds_nil))
    (sts_cons (st_set 2 sc_differences_of.nd (pd_v 0))
    (sts_cons (st_while fu_differences_of PassesOwn.never (pt_cmp' op_gt opv_gt (pd_lenN (i := 2) M.n_len) pd_int rfl) (sts_cons (st_app (i := 1) (pd_ixN (i := 2) pd_int) (h := fun ho => pe_bm PySem.F.plainAttrs_list PySem.F.slot_list_append PySem.F.type_list_append mt_append ho (pa_cons (pd_ixN (i := 2) pd_int) pa_nil)))
    (sts_one (st_lc 2 rfl sc_differences_of.nd (blkOk_by (own := [("one", 3), ("two", 4)]) (by show blkC ["values", "found", "left", "one", "two"] (defScope s_differences_of) _ _ = true; decide +kernel)) (pid_zip M.n_zip (pds_cons (pd_v 2) (pds_cons (pd_fr (pf_slice (pd_v 2) (pdo_some pd_int) pdo_none)) pds_nil))) (fun _ _ _ _ _ => (tg_t rfl (tgs_cons (tg_n 3 sc_differences_of.nd) (tgs_cons (tg_n 4 sc_differences_of.nd) tgs_nil)))) (fun _ _ _ _ _ => pts_yes) (fun _ _ _ _ _ => (pd_op (Dl.OpR.or op_sub (op_ownB (E := E0) M.o_Ratio_sub (ok_Ratio_sub M) hq (hr.mono (by decide)) M.b_Ratio_sub rfl)) (Dl.OpV.or opv_sub (opv_own2 (c := 0) rfl)) (pd_v 4) (pd_v 3)))))))
    (sts_one (st_ret (pd_v 1)))))))

theorem sc_grown : FnScope ["period", "numbers", "told", "many", "rounds", "number", "left"] ["period", "numbers"] (defScope s_grown) := ⟨rfl, rfl, rfl, by decide +kernel, rfl, by decide +kernel, by decide +kernel⟩
def g_grown : FS := (sSeq (sIf (fOr (fNot (fB (fCall G_is_count (gPos []) (fCons (fV 0) fNil) fNil))) (fNot (fB (fChain (gI0 fun i j => .bl (decide (i ≤ j))) (gI0 fun i j => .bl (decide (i ≤ j))) (fC (.int 1)) (fV 0) (fC (.int 12)))))) sNo sNil)
    (sSeq (sIf (fOr (fNot (fB (fCall G_is_list (gPos []) (fCons (fV 1) fNil) fNil))) (fB (fBin gNotIn (fLenN 1) (fFr (fLc (fRg1 (fCons (fBin (gOr gAdd0 (gOwn2 0 G_Ratio_add)) (fC (.int 5)) (fC (.int 1))) fNil)) (gN 4) fYes (fBin (gOr (gOr (gOr (gI okMul fun i j => .int (i * j)) gRep) (gOwn2 0 G_Ratio_mul)) (gOwnR 0 G_Ratio_rmul)) (fV 0) (fV 4)) [4]))))) sNo sNil)
    (sSeq (sIf (fNot (fB (fCall G_are_numbers (gPos []) (fCons (fV 1) (fCons (fLenN 1) fNil)) fNil))) sNo sNil)
    (sSeq (sSet 2 (fFr (fLc (fSq (fV 1)) (gN 5) fYes (fCall G_as_ratio (gPos []) (fCons (fV 5) fNil) fNil) [5])))
    (sSeq (sSet 3 (fBin (gI okDivN fun i j => .int (i.fdiv j)) (fLenN 1) (fV 0)))
    (sRet (fMake 1 G_Course_init (gPos []) (fCons (fFr (fLc (fRg1 (fCons (fV 0) fNil)) (gN 6) fYes (fCall G_made_of (gPos []) (fCons (fCall G_differences_of (gPos []) (fCons (fFr (fStep (fV 2) (fPart (fV 6)) fNoPart (fPart (fV 0)))) fNil) fNil) (fCons (fCall G_counting (gPos []) (fCons (fV 0) (fCons (fV 6) (fCons (fV 3) fNil))) fNil) fNil)) fNil) [6])) fNil) fNil)))))))
def G_grown : List D → Option D := outD 7 g_grown
theorem ok_grown (M : Facts K mg) : FnG P w K mg base 10 M.a_grown M.d_grown ["period", "numbers"] (sp0 (TT K M.C_Ratio M.C_Course) 2 G_grown) :=
  ok0' (g := g_grown) M.F_grown sc_grown rfl rfl (fun cdv A outer s H E hq hr =>
    (sts_cons (st_if (PW.pt (w_or (pt_n (pt_d (pd_call (ok_is_count M) hq (hr.mono (by decide)) M.m_is_count M.F_is_count.kp (bnd_of 1 M.b_is_count .nil lits_nil rfl) (pds_cons (pd_v 0) pds_nil) pks_nil))) (w_or1 (pt_n (pt_chainD op_le op_le opv_le opv_le pd_int (pd_v 0) (pd_gintE M.mi_MOST_GROWN)))))) (sts_one st_no) sts_nil)
    (sts_cons (st_if (PW.pt (w_or (pt_n (pt_d (pd_call (ok_is_list M) hq (hr.mono (by decide)) M.m_is_list M.F_is_list.kp (bnd_of 1 M.b_is_list .nil lits_nil rfl) (pds_cons (pd_v 1) pds_nil) pks_nil))) (w_or1 (pt_cmp' op_notIn_seq opv_notIn (pd_lenN (i := 1) M.n_len) (pd_fr (pf_lc rfl sc_grown.nd (blkOk_by (own := [("rounds", 4)]) (by show blkC ["period", "numbers", "told", "many", "rounds", "number", "left"] (defScope s_grown) _ _ = true; decide +kernel)) (pid_rg1 M.n_range (pds_cons (pd_op (Dl.OpR.or op_add0 (op_ownB (E := E0) M.o_Ratio_add (ok_Ratio_add M) hq (hr.mono (by decide)) M.b_Ratio_add rfl)) (Dl.OpV.or opv_add0 (opv_own2 (c := 0) rfl)) (pd_gintE M.mi_MOST_ROUNDS) pd_int) pds_nil)) (fun _ _ _ _ _ => (tg_n 4 sc_grown.nd)) (fun _ _ _ _ _ => pts_yes) (fun _ _ _ _ _ => (pd_op (Dl.OpR.or (Dl.OpR.or (Dl.OpR.or op_mulW op_rep) (op_ownB (E := E0) M.o_Ratio_mul (ok_Ratio_mul M) hq (hr.mono (by decide)) M.b_Ratio_mul rfl)) (op_rmul (E := E0) M.r_Ratio_rmul (ok_Ratio_rmul M) hq (hr.mono (by decide)) M.b_Ratio_rmul rfl)) (Dl.OpV.or (Dl.OpV.or (Dl.OpV.or opv_mulW opv_rep) (opv_own2 (c := 0) rfl)) (opv_ownR (c := 0) rfl)) (pd_v 0) (pd_v 4))))) rfl)))) (sts_one st_no) sts_nil)
    (sts_cons (st_if (pt_n (pt_d (pd_call (ok_are_numbers M) hq (hr.mono (by decide)) M.m_are_numbers M.F_are_numbers.kp (bnd_of 2 M.b_are_numbers .nil lits_nil rfl) (pds_cons (pd_v 1) (pds_cons (pd_lenN (i := 1) M.n_len) pds_nil)) pks_nil))) (sts_one st_no) sts_nil)
    (sts_cons (st_set 2 sc_grown.nd (pd_fr (pf_lc rfl sc_grown.nd (blkOk_by (own := [("number", 5)]) (by show blkC ["period", "numbers", "told", "many", "rounds", "number", "left"] (defScope s_grown) _ _ = true; decide +kernel)) (pid_sq (pd_v 1)) (fun _ _ _ _ _ => (tg_n 5 sc_grown.nd)) (fun _ _ _ _ _ => pts_yes) (fun _ _ _ _ _ => (pd_call (ok_as_ratio M) hq (hr.mono (by decide)) M.m_as_ratio M.F_as_ratio.kp (bnd_of 1 M.b_as_ratio .nil lits_nil rfl) (pds_cons (pd_v 5) pds_nil) pks_nil)))))
    (sts_cons (st_set 3 sc_grown.nd (pd_op op_fdivNW opv_fdiv (pd_lenN (i := 1) M.n_len) (pd_v 0)))
    (sts_one (st_ret (pd_make (c := 1) rfl M.mk_Course (ok_Course_init M) hq (hr.mono (by decide)) M.m_Course M.bi_Course_init_1 (pds_cons (pd_fr (pf_lc rfl sc_grown.nd (blkOk_by (own := [("left", 6)]) (by show blkC ["period", "numbers", "told", "many", "rounds", "number", "left"] (defScope s_grown) _ _ = true; decide +kernel)) (pid_rg1 M.n_range (pds_cons (pd_v 0) pds_nil)) (fun _ _ _ _ _ => (tg_n 6 sc_grown.nd)) (fun _ _ _ _ _ => pts_yes) (fun _ _ _ _ _ => (pd_call (ok_made_of M) hq (hr.mono (by decide)) M.m_made_of M.F_made_of.kp (bnd_of 2 M.b_made_of .nil lits_nil rfl) (pds_cons (pd_call (ok_differences_of M) hq (hr.mono (by decide)) M.m_differences_of M.F_differences_of.kp (bnd_of 1 M.b_differences_of .nil lits_nil rfl) (pds_cons (pd_fr (pf_step (pd_v 2) (pdo_some (pd_v 6)) pdo_none (pdo_some (pd_v 0)))) pds_nil) pks_nil) (pds_cons (pd_call (ok_counting M) hq (hr.mono (by decide)) M.m_counting M.F_counting.kp (bnd_of 3 M.b_counting .nil lits_nil rfl) (pds_cons (pd_v 0) (pds_cons (pd_v 6) (pds_cons (pd_v 3) pds_nil))) pks_nil) pds_nil)) pks_nil)))) pds_nil) pks_nil)))))))))

theorem sc_law_made : FnScope ["_law_own", "_law_part", "_law_top"] ["_law_own"] (defScope s_law_made) := ⟨rfl, rfl, rfl, by decide +kernel, rfl, by decide +kernel, by decide +kernel⟩
def g_law_made : FS := (sRet (fMake 1 G_Course_init (gPos []) (fCons (fFr (fLc (fSq (fIxN 0 (fC (.int 1)))) (gN 1) fYes (fFr (fLc (fSq (fV 1)) (gN 2) fYes (fCall G_law_number (gPos []) (fCons (fV 2) (fCons (fIxN 0 (fC (.int 0))) fNil)) fNil) [2])) [1])) fNil) fNil))
def G_law_made : List D → Option D := outD 3 g_law_made
theorem ok_law_made (M : Facts K mg) : FnG P w K mg base 10 M.a_law_made M.d_law_made ["_law_own"] (sp0 (TT K M.C_Ratio M.C_Course) 1 G_law_made) :=
  ok0' (g := g_law_made) M.F_law_made sc_law_made rfl rfl (fun cdv A outer s H E hq hr =>
    (sts_one (st_ret (pd_make (c := 1) rfl M.mk_Course (ok_Course_init M) hq (hr.mono (by decide)) M.m_Course M.bi_Course_init_1 (pds_cons (pd_fr (pf_lc rfl sc_law_made.nd (blkOk_by (own := [("_law_part", 1)]) (by show blkC ["_law_own", "_law_part", "_law_top"] (defScope s_law_made) _ _ = true; decide +kernel)) (pid_sq (pd_ixN (i := 0) pd_int)) (fun _ _ _ _ _ => (tg_n 1 sc_law_made.nd)) (fun _ _ _ _ _ => pts_yes) (fun _ _ _ _ _ => (pd_fr (pf_lc rfl sc_law_made.nd (blkOk_by (own := [("_law_top", 2)]) (by kernel_rfl)) (pid_sq (pd_v 1)) (fun _ _ _ _ _ => (tg_n 2 sc_law_made.nd)) (fun _ _ _ _ _ => pts_yes) (fun _ _ _ _ _ => (pd_call (ok_law_number M) hq (hr.mono (by decide)) M.m_law_number M.F_law_number.kp (bnd_of 2 M.b_law_number .nil lits_nil rfl) (pds_cons (pd_v 2) (pds_cons (pd_ixN (i := 0) pd_int) pds_nil)) pks_nil))))))) pds_nil) pks_nil))))

theorem sc_law_grown_right : FnScope ["_law_pot_here", "_law_period", "_law_share", "_law_bottom", "_law_numbers", "_law_at", "_law_shown", "_law_course_here", "_law_number_here", "_law_turn", "_law_whole_here", "_law_total", "_law_many"] ["_law_pot_here"] (defScope s_law_grown_right) := ⟨rfl, rfl, rfl, by decide +kernel, rfl, by decide +kernel, by decide +kernel⟩
def g_law_grown_right : FS := (sSeq (sPar3 1 2 3 (fCons (fBin (gOr gAdd0 (gOwn2 0 G_Ratio_add)) (fC (.int 1)) (fCallP 0 G_law_draw (fCons (fC (.int 6)) fNil))) (fCons (fCallP 0 G_law_draw (fCons (fC (.int 5)) fNil)) (fCons (fCallP 0 G_law_pick (fCons (fFr (fLst (fCons (fC (.int 1)) (fCons (fC (.int 1)) (fCons (fC (.int 2)) fNil))))) fNil)) fNil))))
    (sSeq (sOwn 4 (fLst fNil))
    (sSeq (sFor (fRg1 (fCons (fBin (gOr (gOr (gOr (gI okMul fun i j => .int (i * j)) gRep) (gOwn2 0 G_Ratio_mul)) (gOwnR 0 G_Ratio_rmul)) (fV 1) (fV 2)) fNil)) (gN 5) (sApp 4 (fCall G_law_number (gPos []) (fCons (fBin (gOr (gI0 fun i j => .int (i - j)) (gOwn2 0 G_Ratio_sub)) (fCallP 0 G_law_draw (fCons (fC (.int 13)) fNil)) (fC (.int 6))) (fCons (fV 3) fNil)) fNil)))
    (sSeq (sSet 6 (fFun (funRp rp2) (fCons (fV 4) fNil)))
    (sSeq (sSet 7 (fCall G_grown (gPos []) (fCons (fV 1) (fCons (fIf (fB (fBin (gOr (gOr (gOr gEqF (gOwnE 0 G_Ratio_eq)) (gOwnE 1 G_Course_eq)) (gB false (eqLs eq3))) (fCallP 0 G_law_draw (fCons (fC (.int 2)) fNil)) (fC (.int 0)))) (fFun funTup (fCons (fV 4) fNil)) (fV 4)) fNil)) fNil))
    (sSeq (sIf (fOr (fB (fBin (gOr (gOr (gOr gNeF (gOwnNe 0 G_Ratio_eq)) (gOwnNe 1 G_Course_eq)) (gB true (eqLs eq3))) (fBin (gI okPos fun i j => .int (i % j)) (fV 1) (fProp 1 G_Course_period (fV 7))) (fC (.int 0)))) (fOr (fB (fBin (gI0 fun i j => .bl (decide (j ≤ i))) (fProp 1 G_Course_degree (fV 7)) (fV 2))) (fB (fBin (gOr (gOr (gOr gNeF (gOwnNe 0 G_Ratio_eq)) (gOwnNe 1 G_Course_eq)) (gB true (eqLs eq3))) (fFun (funRp rp2) (fCons (fV 4) fNil)) (fV 6))))) (sRet (fC (.bl false))) sNil)
    (sSeq (sFor (fEnum (fCons (fV 4) fNil)) (gT 2 (gsCons (gN 5) (gsCons (gN 8) gsNil))) (sIf (fB (fBin (gOr (gOr (gOr gNeF (gOwnNe 0 G_Ratio_eq)) (gOwnNe 1 G_Course_eq)) (gB true (eqLs eq3))) (fMeth 1 G_Course_at (gPos []) (fV 7) (fCons (fV 5) fNil) fNil) (fBin (gOr gAdd0 (gOwn2 0 G_Ratio_add)) (fMake 0 G_Ratio_init (gPos [.int 1]) (fCons (fC (.int 0)) fNil) fNil) (fV 8)))) (sRet (fC (.bl false))) sNil))
    (sSeq (sFor (fRg1 (fCons (fC (.int 3)) fNil)) (gN 9) (sSeq (sPar 10 11 (fCons (fCallP 0 G_law_whole fNil) (fCons (fMake 0 G_Ratio_init (gPos [.int 1]) (fCons (fC (.int 0)) fNil) fNil) fNil)))
    (sSeq (sFor (fEnum (fCons (fCall G_law_binomials (gPos []) (fCons (fV 2) fNil) fNil) fNil)) (gT 2 (gsCons (gN 5) (gsCons (gN 12) gsNil))) (sSet 11 (fBin (gOr gAdd0 (gOwn2 0 G_Ratio_add)) (fV 11) (fBin (gOr (gOr (gOr (gI okMul fun i j => .int (i * j)) gRep) (gOwn2 0 G_Ratio_mul)) (gOwnR 0 G_Ratio_rmul)) (fMeth 1 G_Course_at (gPos []) (fV 7) (fCons (fBin (gOr gAdd0 (gOwn2 0 G_Ratio_add)) (fV 10) (fBin (gOr (gOr (gOr (gI okMul fun i j => .int (i * j)) gRep) (gOwn2 0 G_Ratio_mul)) (gOwnR 0 G_Ratio_rmul)) (fV 5) (fV 1))) fNil) fNil) (fIf (fB (fBin (gOr (gOr (gOr gEqF (gOwnE 0 G_Ratio_eq)) (gOwnE 1 G_Course_eq)) (gB false (eqLs eq3))) (fBin (gI okPos fun i j => .int (i % j)) (fV 5) (fC (.int 2))) (fC (.int 0)))) (fV 12) (fBin (gOr (gI0 fun i j => .int (i - j)) (gOwn2 0 G_Ratio_sub)) (fC (.int 0)) (fV 12)))))))
    (sIf (fB (fBin (gOr (gOr (gOr gNeF (gOwnNe 0 G_Ratio_eq)) (gOwnNe 1 G_Course_eq)) (gB true (eqLs eq3))) (fV 11) (fMake 0 G_Ratio_init (gPos [.int 1]) (fCons (fC (.int 0)) fNil) fNil))) (sRet (fC (.bl false))) sNil))))
    (sRet (fBin (gOr (gOr (gOr gEqF (gOwnE 0 G_Ratio_eq)) (gOwnE 1 G_Course_eq)) (gB false (eqLs eq3))) (fCall G_grown (gSel [1, 0]) fNil (fCons (fV 4) (fCons (fV 1) fNil))) (fV 7)))))))))))
def G_law_grown_right : List D → List D → Option (D × List D) := outP 13 g_law_grown_right
theorem ok_law_grown_right (M : Facts K mg) : FnG P w K mg base 11 M.a_law_grown_right M.d_law_grown_right ["_law_pot_here"] (sp1 (TT K M.C_Ratio M.C_Course) 0 G_law_grown_right) :=
  ok1' (g := g_law_grown_right) M.F_law_grown_right sc_law_grown_right rfl rfl (fun cdv A outer s H E hq hr =>
    (sts_cons (st_par3 1 2 3 rfl sc_law_grown_right.nd (pds_cons (pd_op (Dl.OpR.or op_add0 (op_ownB (E := E0) M.o_Ratio_add (ok_Ratio_add M) hq (hr.mono (by decide)) M.b_Ratio_add rfl)) (Dl.OpV.or opv_add0 (opv_own2 (c := 0) rfl)) pd_int (pd_callP (i := 0) (ok_law_draw M) hq (hr.mono (by decide)) M.m_law_draw M.F_law_draw.kp M.b_law_draw rfl (pds_cons pd_int pds_nil))) (pds_cons (pd_callP (i := 0) (ok_law_draw M) hq (hr.mono (by decide)) M.m_law_draw M.F_law_draw.kp M.b_law_draw rfl (pds_cons pd_int pds_nil)) (pds_cons (pd_callP (i := 0) (ok_law_pick M) hq (hr.mono (by decide)) M.m_law_pick M.F_law_pick.kp M.b_law_pick rfl (pds_cons (pd_fr (pf_lst (pds_cons pd_int (pds_cons pd_int (pds_cons pd_int pds_nil))))) pds_nil)) pds_nil))))
    (sts_cons (st_own 4 sc_law_grown_right.nd (pf_lst pds_nil))
    (sts_cons (st_for (ws := [5]) PassesOwn.never rfl (pid_rg1 M.n_range (pds_cons (pd_op (Dl.OpR.or (Dl.OpR.or (Dl.OpR.or op_mulW op_rep) (op_ownB (E := E0) M.o_Ratio_mul (ok_Ratio_mul M) hq (hr.mono (by decide)) M.b_Ratio_mul rfl)) (op_rmul (E := E0) M.r_Ratio_rmul (ok_Ratio_rmul M) hq (hr.mono (by decide)) M.b_Ratio_rmul rfl)) (Dl.OpV.or (Dl.OpV.or (Dl.OpV.or opv_mulW opv_rep) (opv_own2 (c := 0) rfl)) (opv_ownR (c := 0) rfl)) (pd_v 1) (pd_v 2)) pds_nil)) (tg_n 5 sc_law_grown_right.nd) (sts_one (st_app (i := 4) (pd_call (ok_law_number M) hq (hr.mono (by decide)) M.m_law_number M.F_law_number.kp (bnd_of 2 M.b_law_number .nil lits_nil rfl) (pds_cons (pd_op (Dl.OpR.or op_sub (op_ownB (E := E0) M.o_Ratio_sub (ok_Ratio_sub M) hq (hr.mono (by decide)) M.b_Ratio_sub rfl)) (Dl.OpV.or opv_sub (opv_own2 (c := 0) rfl)) (pd_callP (i := 0) (ok_law_draw M) hq (hr.mono (by decide)) M.m_law_draw M.F_law_draw.kp M.b_law_draw rfl (pds_cons pd_int pds_nil)) pd_int) (pds_cons (pd_v 3) pds_nil)) pks_nil) (h := fun ho => pe_bm PySem.F.plainAttrs_list PySem.F.slot_list_append PySem.F.type_list_append mt_append ho (pa_cons (pd_call (ok_law_number M) hq (hr.mono (by decide)) M.m_law_number M.F_law_number.kp (bnd_of 2 M.b_law_number .nil lits_nil rfl) (pds_cons (pd_op (Dl.OpR.or op_sub (op_ownB (E := E0) M.o_Ratio_sub (ok_Ratio_sub M) hq (hr.mono (by decide)) M.b_Ratio_sub rfl)) (Dl.OpV.or opv_sub (opv_own2 (c := 0) rfl)) (pd_callP (i := 0) (ok_law_draw M) hq (hr.mono (by decide)) M.m_law_draw M.F_law_draw.kp M.b_law_draw rfl (pds_cons pd_int pds_nil)) pd_int) (pds_cons (pd_v 3) pds_nil)) pks_nil) pa_nil)))))
    (sts_cons (st_set 6 sc_law_grown_right.nd (pd_blt (call_rp (rpB2 M rfl rfl) hq (hr.mono (by decide))) callv_rp M.n_repr (by decide +kernel) (pds_cons (pd_v 4) pds_nil)))
    (sts_cons (st_set 7 sc_law_grown_right.nd (pd_call (ok_grown M) hq (hr.mono (by decide)) M.m_grown M.F_grown.kp (bnd_of 2 M.b_grown .nil lits_nil rfl) (pds_cons (pd_v 1) (pds_cons (pd_if (pt_cmp' (Dl.OpR.or (Dl.OpR.or (Dl.OpR.or op_eq (op_ownE (T := TT K M.C_Ratio M.C_Course) (E := E0) M.e_Ratio_eq M.ef_Ratio_eq (ok_Ratio_eq M) hq (hr.mono (by decide)) M.b_Ratio_eq rfl)) (op_ownE (T := TT K M.C_Ratio M.C_Course) (E := E0) M.e_Course_eq M.ef_Course_eq (ok_Course_eq M) hq (hr.mono (by decide)) M.b_Course_eq rfl)) (op_eqB (n := 5) (T := TT K M.C_Ratio M.C_Course) (rcB_ls false (eqB3 M rfl rfl)) hq (hr.mono (by decide)))) (Dl.OpV.or (Dl.OpV.or (Dl.OpV.or opv_eqF (opv_ownE (c := 0) rfl M.tp_Ratio)) (opv_ownE (c := 1) rfl M.tp_Course)) (opv_eqB false)) (pd_callP (i := 0) (ok_law_draw M) hq (hr.mono (by decide)) M.m_law_draw M.F_law_draw.kp M.b_law_draw rfl (pds_cons pd_int pds_nil)) pd_int rfl) (pd_bty call_tuple_of callv_tup M.n_tuple (by decide +kernel) (pds_cons (pd_v 4) pds_nil)) (pd_v 4)) pds_nil)) pks_nil))
    (sts_cons (st_if (PW.pt (w_or (pt_cmp' (Dl.OpR.or (Dl.OpR.or (Dl.OpR.or op_ne (op_ownNe (T := TT K M.C_Ratio M.C_Course) (E := E0) M.e_Ratio_eq M.ef_Ratio_eq M.ne_Ratio_eq M.ob_Ratio (ok_Ratio_eq M) hq (hr.mono (by decide)) M.b_Ratio_eq rfl)) (op_ownNe (T := TT K M.C_Ratio M.C_Course) (E := E0) M.e_Course_eq M.ef_Course_eq M.ne_Course_eq M.ob_Course (ok_Course_eq M) hq (hr.mono (by decide)) M.b_Course_eq rfl)) (op_neB (n := 5) (T := TT K M.C_Ratio M.C_Course) (rcB_ls true (eqB3 M rfl rfl)) hq (hr.mono (by decide)))) (Dl.OpV.or (Dl.OpV.or (Dl.OpV.or opv_neF (opv_ownNe (c := 0) rfl M.tp_Ratio)) (opv_ownNe (c := 1) rfl M.tp_Course)) (opv_eqB true)) (pd_op op_mod opv_mod (pd_v 1) (pd_prop (c := 1) (pd_v 7) rfl M.hc_Course M.pr_Course_period (ok_Course_period M) hq (hr.mono (by decide)) M.b_Course_period)) pd_int rfl) (w_or (pt_cmp' op_ge opv_ge (pd_prop (c := 1) (pd_v 7) rfl M.hc_Course M.pr_Course_degree (ok_Course_degree M) hq (hr.mono (by decide)) M.b_Course_degree) (pd_v 2) rfl) (w_or1 (pt_cmp' (Dl.OpR.or (Dl.OpR.or (Dl.OpR.or op_ne (op_ownNe (T := TT K M.C_Ratio M.C_Course) (E := E0) M.e_Ratio_eq M.ef_Ratio_eq M.ne_Ratio_eq M.ob_Ratio (ok_Ratio_eq M) hq (hr.mono (by decide)) M.b_Ratio_eq rfl)) (op_ownNe (T := TT K M.C_Ratio M.C_Course) (E := E0) M.e_Course_eq M.ef_Course_eq M.ne_Course_eq M.ob_Course (ok_Course_eq M) hq (hr.mono (by decide)) M.b_Course_eq rfl)) (op_neB (n := 5) (T := TT K M.C_Ratio M.C_Course) (rcB_ls true (eqB3 M rfl rfl)) hq (hr.mono (by decide)))) (Dl.OpV.or (Dl.OpV.or (Dl.OpV.or opv_neF (opv_ownNe (c := 0) rfl M.tp_Ratio)) (opv_ownNe (c := 1) rfl M.tp_Course)) (opv_eqB true)) (pd_blt (call_rp (rpB2 M rfl rfl) hq (hr.mono (by decide))) callv_rp M.n_repr (by decide +kernel) (pds_cons (pd_v 4) pds_nil)) (pd_v 6) rfl))))) (sts_one (st_ret pd_bl)) sts_nil)
    (sts_cons (st_for (ws := [5, 8]) PassesOwn.never rfl (pid_enum M.n_enumerate (pds_cons (pd_v 4) pds_nil)) (tg_t rfl (tgs_cons (tg_n 5 sc_law_grown_right.nd) (tgs_cons (tg_n 8 sc_law_grown_right.nd) tgs_nil))) (sts_one (st_if (pt_cmp' (Dl.OpR.or (Dl.OpR.or (Dl.OpR.or op_ne (op_ownNe (T := TT K M.C_Ratio M.C_Course) (E := E0) M.e_Ratio_eq M.ef_Ratio_eq M.ne_Ratio_eq M.ob_Ratio (ok_Ratio_eq M) hq (hr.mono (by decide)) M.b_Ratio_eq rfl)) (op_ownNe (T := TT K M.C_Ratio M.C_Course) (E := E0) M.e_Course_eq M.ef_Course_eq M.ne_Course_eq M.ob_Course (ok_Course_eq M) hq (hr.mono (by decide)) M.b_Course_eq rfl)) (op_neB (n := 5) (T := TT K M.C_Ratio M.C_Course) (rcB_ls true (eqB3 M rfl rfl)) hq (hr.mono (by decide)))) (Dl.OpV.or (Dl.OpV.or (Dl.OpV.or opv_neF (opv_ownNe (c := 0) rfl M.tp_Ratio)) (opv_ownNe (c := 1) rfl M.tp_Course)) (opv_eqB true)) (pd_meth (c := 1) (pd_v 7) rfl M.hc_Course M.t_Course_at (ok_Course_at M) hq (hr.mono (by decide)) (bnd_of 2 M.b_Course_at .nil lits_nil rfl) (pds_cons (pd_v 5) pds_nil) pks_nil) (pd_op (Dl.OpR.or op_add0 (op_ownB (E := E0) M.o_Ratio_add (ok_Ratio_add M) hq (hr.mono (by decide)) M.b_Ratio_add rfl)) (Dl.OpV.or opv_add0 (opv_own2 (c := 0) rfl)) (pd_make (c := 0) rfl M.mk_Ratio (ok_Ratio_init M) hq (hr.mono (by decide)) M.m_Ratio M.bi_Ratio_init_1 (pds_cons pd_int pds_nil) pks_nil) (pd_v 8)) rfl) (sts_one (st_ret pd_bl)) sts_nil)))
    (sts_cons (st_for (ws := [9]) PassesOwn.never rfl (pid_rg1 M.n_range (pds_cons pd_int pds_nil)) (tg_n 9 sc_law_grown_right.nd) (sts_cons (st_par 10 11 rfl sc_law_grown_right.nd (pds_cons (pd_callP (i := 0) (ok_law_whole M) hq (hr.mono (by decide)) M.m_law_whole M.F_law_whole.kp M.b_law_whole rfl pds_nil) (pds_cons (pd_make (c := 0) rfl M.mk_Ratio (ok_Ratio_init M) hq (hr.mono (by decide)) M.m_Ratio M.bi_Ratio_init_1 (pds_cons pd_int pds_nil) pks_nil) pds_nil)))
    (sts_cons (st_for (ws := [5, 12]) PassesOwn.never rfl (pid_enum M.n_enumerate (pds_cons (pd_call (ok_law_binomials M) hq (hr.mono (by decide)) M.m_law_binomials M.F_law_binomials.kp (bnd_of 1 M.b_law_binomials .nil lits_nil rfl) (pds_cons (pd_v 2) pds_nil) pks_nil) pds_nil)) (tg_t rfl (tgs_cons (tg_n 5 sc_law_grown_right.nd) (tgs_cons (tg_n 12 sc_law_grown_right.nd) tgs_nil))) (sts_one (st_set 11 sc_law_grown_right.nd (pd_op (Dl.OpR.or op_add0 (op_ownB (E := E0) M.o_Ratio_add (ok_Ratio_add M) hq (hr.mono (by decide)) M.b_Ratio_add rfl)) (Dl.OpV.or opv_add0 (opv_own2 (c := 0) rfl)) (pd_v 11) (pd_op (Dl.OpR.or (Dl.OpR.or (Dl.OpR.or op_mulW op_rep) (op_ownB (E := E0) M.o_Ratio_mul (ok_Ratio_mul M) hq (hr.mono (by decide)) M.b_Ratio_mul rfl)) (op_rmul (E := E0) M.r_Ratio_rmul (ok_Ratio_rmul M) hq (hr.mono (by decide)) M.b_Ratio_rmul rfl)) (Dl.OpV.or (Dl.OpV.or (Dl.OpV.or opv_mulW opv_rep) (opv_own2 (c := 0) rfl)) (opv_ownR (c := 0) rfl)) (pd_meth (c := 1) (pd_v 7) rfl M.hc_Course M.t_Course_at (ok_Course_at M) hq (hr.mono (by decide)) (bnd_of 2 M.b_Course_at .nil lits_nil rfl) (pds_cons (pd_op (Dl.OpR.or op_add0 (op_ownB (E := E0) M.o_Ratio_add (ok_Ratio_add M) hq (hr.mono (by decide)) M.b_Ratio_add rfl)) (Dl.OpV.or opv_add0 (opv_own2 (c := 0) rfl)) (pd_v 10) (pd_op (Dl.OpR.or (Dl.OpR.or (Dl.OpR.or op_mulW op_rep) (op_ownB (E := E0) M.o_Ratio_mul (ok_Ratio_mul M) hq (hr.mono (by decide)) M.b_Ratio_mul rfl)) (op_rmul (E := E0) M.r_Ratio_rmul (ok_Ratio_rmul M) hq (hr.mono (by decide)) M.b_Ratio_rmul rfl)) (Dl.OpV.or (Dl.OpV.or (Dl.OpV.or opv_mulW opv_rep) (opv_own2 (c := 0) rfl)) (opv_ownR (c := 0) rfl)) (pd_v 5) (pd_v 1))) pds_nil) pks_nil) (pd_if (pt_cmp' (Dl.OpR.or (Dl.OpR.or (Dl.OpR.or op_eq (op_ownE (T := TT K M.C_Ratio M.C_Course) (E := E0) M.e_Ratio_eq M.ef_Ratio_eq (ok_Ratio_eq M) hq (hr.mono (by decide)) M.b_Ratio_eq rfl)) (op_ownE (T := TT K M.C_Ratio M.C_Course) (E := E0) M.e_Course_eq M.ef_Course_eq (ok_Course_eq M) hq (hr.mono (by decide)) M.b_Course_eq rfl)) (op_eqB (n := 5) (T := TT K M.C_Ratio M.C_Course) (rcB_ls false (eqB3 M rfl rfl)) hq (hr.mono (by decide)))) (Dl.OpV.or (Dl.OpV.or (Dl.OpV.or opv_eqF (opv_ownE (c := 0) rfl M.tp_Ratio)) (opv_ownE (c := 1) rfl M.tp_Course)) (opv_eqB false)) (pd_op op_mod opv_mod (pd_v 5) pd_int) pd_int rfl) (pd_v 12) (pd_op (Dl.OpR.or op_sub (op_ownB (E := E0) M.o_Ratio_sub (ok_Ratio_sub M) hq (hr.mono (by decide)) M.b_Ratio_sub rfl)) (Dl.OpV.or opv_sub (opv_own2 (c := 0) rfl)) pd_int (pd_v 12))))))))
    (sts_one (st_if (pt_cmp' (Dl.OpR.or (Dl.OpR.or (Dl.OpR.or op_ne (op_ownNe (T := TT K M.C_Ratio M.C_Course) (E := E0) M.e_Ratio_eq M.ef_Ratio_eq M.ne_Ratio_eq M.ob_Ratio (ok_Ratio_eq M) hq (hr.mono (by decide)) M.b_Ratio_eq rfl)) (op_ownNe (T := TT K M.C_Ratio M.C_Course) (E := E0) M.e_Course_eq M.ef_Course_eq M.ne_Course_eq M.ob_Course (ok_Course_eq M) hq (hr.mono (by decide)) M.b_Course_eq rfl)) (op_neB (n := 5) (T := TT K M.C_Ratio M.C_Course) (rcB_ls true (eqB3 M rfl rfl)) hq (hr.mono (by decide)))) (Dl.OpV.or (Dl.OpV.or (Dl.OpV.or opv_neF (opv_ownNe (c := 0) rfl M.tp_Ratio)) (opv_ownNe (c := 1) rfl M.tp_Course)) (opv_eqB true)) (pd_v 11) (pd_make (c := 0) rfl M.mk_Ratio (ok_Ratio_init M) hq (hr.mono (by decide)) M.m_Ratio M.bi_Ratio_init_1 (pds_cons pd_int pds_nil) pks_nil) rfl) (sts_one (st_ret pd_bl)) sts_nil)))))
    (sts_one (st_ret (pd_cmp (Dl.OpR.or (Dl.OpR.or (Dl.OpR.or op_eq (op_ownE (T := TT K M.C_Ratio M.C_Course) (E := E0) M.e_Ratio_eq M.ef_Ratio_eq (ok_Ratio_eq M) hq (hr.mono (by decide)) M.b_Ratio_eq rfl)) (op_ownE (T := TT K M.C_Ratio M.C_Course) (E := E0) M.e_Course_eq M.ef_Course_eq (ok_Course_eq M) hq (hr.mono (by decide)) M.b_Course_eq rfl)) (op_eqB (n := 5) (T := TT K M.C_Ratio M.C_Course) (rcB_ls false (eqB3 M rfl rfl)) hq (hr.mono (by decide)))) (Dl.OpV.or (Dl.OpV.or (Dl.OpV.or opv_eqF (opv_ownE (c := 0) rfl M.tp_Ratio)) (opv_ownE (c := 1) rfl M.tp_Course)) (opv_eqB false)) (pd_call0 (ok_grown M) hq (hr.mono (by decide)) M.m_grown M.F_grown.kp (bnd_kwP 0 ["numbers", "period"] [1, 0] (by decide) M.F_grown (fun _ _ _ _ _ _ us ws h1 h2 => match us, ws, h1, h2 with | [], [_, _], _, _ => rfl)) (pks_cons (pd_v 4) (pks_cons (pd_v 1) pks_nil)) (by intro ds es h1 h2; simp [gSel])) (pd_v 7) rfl))))))))))))

theorem sc_law_right : FnScope ["_law_pot_here", "_law_own", "_law_many", "_law_share", "_law_course_here", "_law_at"] ["_law_pot_here"] (defScope s_law_right) := ⟨rfl, rfl, rfl, by decide +kernel, rfl, by decide +kernel, by decide +kernel⟩
def g_law_right : FS := (sSeq (sIf (fNot (fB (fCallP 0 G_law_grown_right fNil))) (sRet (fC (.bl false))) sNil)
    (sSeq (sSet 1 (fCallP 0 G_law_course (fCons (fC (.int 3)) (fCons (fC (.int 2)) fNil))))
    (sSeq (sPar 2 3 (fCons (fBin (gOr (gOr (gOr (gI okMul fun i j => .int (i * j)) gRep) (gOwn2 0 G_Ratio_mul)) (gOwnR 0 G_Ratio_rmul)) (fFun funLen (fCons (fIxN 1 (fC (.int 1))) fNil)) (fBin (gOr gAdd0 (gOwn2 0 G_Ratio_add)) (fC (.int 1)) (fCallP 0 G_law_draw (fCons (fC (.int 2)) fNil)))) (fCons (fBin (gOr gAdd0 (gOwn2 0 G_Ratio_add)) (fBin (gOr gAdd0 (gOwn2 0 G_Ratio_add)) (fCall G_law_degree (gPos []) (fCons (fV 1) fNil) fNil) (fC (.int 1))) (fCallP 0 G_law_draw (fCons (fC (.int 2)) fNil))) fNil)))
    (sSeq (sSet 4 (fCall G_grown (gPos []) (fCons (fV 2) (fCons (fFr (fLc (fRg1 (fCons (fBin (gOr (gOr (gOr (gI okMul fun i j => .int (i * j)) gRep) (gOwn2 0 G_Ratio_mul)) (gOwnR 0 G_Ratio_rmul)) (fV 2) (fV 3)) fNil)) (gN 5) fYes (fCall G_law_worth (gPos []) (fCons (fV 1) (fCons (fV 5) fNil)) fNil) [5])) fNil)) fNil))
    (sRet (fAndV (fBin (gOr (gOr (gOr gEqF (gOwnE 0 G_Ratio_eq)) (gOwnE 1 G_Course_eq)) (gB false (eqLs eq3))) (fV 4) (fCall G_law_made (gPos []) (fCons (fV 1) fNil) fNil)) (fAndV (fBin (gOr (gOr (gOr gEqF (gOwnE 0 G_Ratio_eq)) (gOwnE 1 G_Course_eq)) (gB false (eqLs eq3))) (fProp 1 G_Course_period (fV 4)) (fFun funLen (fCons (fCall G_law_form (gPos []) (fCons (fV 1) fNil) fNil) fNil))) (fBin (gOr (gOr (gOr gEqF (gOwnE 0 G_Ratio_eq)) (gOwnE 1 G_Course_eq)) (gB false (eqLs eq3))) (fProp 1 G_Course_degree (fV 4)) (fCall G_law_degree (gPos []) (fCons (fV 1) fNil) fNil)))))))))
def G_law_right : List D → List D → Option (D × List D) := outP 6 g_law_right
theorem ok_law_right (M : Facts K mg) : FnG P w K mg base 12 M.a_law_right M.d_law_right ["_law_pot_here"] (sp1 (TT K M.C_Ratio M.C_Course) 0 G_law_right) :=
  ok1' (g := g_law_right) M.F_law_right sc_law_right rfl rfl (fun cdv A outer s H E hq hr =>
    (sts_cons (st_if (pt_n (pt_d (pd_callP (i := 0) (ok_law_grown_right M) hq (hr.mono (by decide)) M.m_law_grown_right M.F_law_grown_right.kp M.b_law_grown_right rfl pds_nil))) (sts_one (st_ret pd_bl)) sts_nil)
    (sts_cons (st_set 1 sc_law_right.nd (pd_callP (i := 0) (ok_law_course M) hq (hr.mono (by decide)) M.m_law_course M.F_law_course.kp M.b_law_course rfl (pds_cons pd_int (pds_cons pd_int pds_nil))))
    (sts_cons (st_par 2 3 rfl sc_law_right.nd (pds_cons (pd_op (Dl.OpR.or (Dl.OpR.or (Dl.OpR.or op_mulW op_rep) (op_ownB (E := E0) M.o_Ratio_mul (ok_Ratio_mul M) hq (hr.mono (by decide)) M.b_Ratio_mul rfl)) (op_rmul (E := E0) M.r_Ratio_rmul (ok_Ratio_rmul M) hq (hr.mono (by decide)) M.b_Ratio_rmul rfl)) (Dl.OpV.or (Dl.OpV.or (Dl.OpV.or opv_mulW opv_rep) (opv_own2 (c := 0) rfl)) (opv_ownR (c := 0) rfl)) (pd_blt call_len_seq callv_len M.n_len (by decide +kernel) (pds_cons (pd_ixN (i := 1) pd_int) pds_nil)) (pd_op (Dl.OpR.or op_add0 (op_ownB (E := E0) M.o_Ratio_add (ok_Ratio_add M) hq (hr.mono (by decide)) M.b_Ratio_add rfl)) (Dl.OpV.or opv_add0 (opv_own2 (c := 0) rfl)) pd_int (pd_callP (i := 0) (ok_law_draw M) hq (hr.mono (by decide)) M.m_law_draw M.F_law_draw.kp M.b_law_draw rfl (pds_cons pd_int pds_nil)))) (pds_cons (pd_op (Dl.OpR.or op_add0 (op_ownB (E := E0) M.o_Ratio_add (ok_Ratio_add M) hq (hr.mono (by decide)) M.b_Ratio_add rfl)) (Dl.OpV.or opv_add0 (opv_own2 (c := 0) rfl)) (pd_op (Dl.OpR.or op_add0 (op_ownB (E := E0) M.o_Ratio_add (ok_Ratio_add M) hq (hr.mono (by decide)) M.b_Ratio_add rfl)) (Dl.OpV.or opv_add0 (opv_own2 (c := 0) rfl)) (pd_call (ok_law_degree M) hq (hr.mono (by decide)) M.m_law_degree M.F_law_degree.kp (bnd_of 1 M.b_law_degree .nil lits_nil rfl) (pds_cons (pd_v 1) pds_nil) pks_nil) pd_int) (pd_callP (i := 0) (ok_law_draw M) hq (hr.mono (by decide)) M.m_law_draw M.F_law_draw.kp M.b_law_draw rfl (pds_cons pd_int pds_nil))) pds_nil)))
    (sts_cons (st_set 4 sc_law_right.nd (pd_call (ok_grown M) hq (hr.mono (by decide)) M.m_grown M.F_grown.kp (bnd_of 2 M.b_grown .nil lits_nil rfl) (pds_cons (pd_v 2) (pds_cons (pd_fr (pf_lc rfl sc_law_right.nd (blkOk_by (own := [("_law_at", 5)]) (by show blkC ["_law_pot_here", "_law_own", "_law_many", "_law_share", "_law_course_here", "_law_at"] (defScope s_law_right) _ _ = true; decide +kernel)) (pid_rg1 M.n_range (pds_cons (pd_op (Dl.OpR.or (Dl.OpR.or (Dl.OpR.or op_mulW op_rep) (op_ownB (E := E0) M.o_Ratio_mul (ok_Ratio_mul M) hq (hr.mono (by decide)) M.b_Ratio_mul rfl)) (op_rmul (E := E0) M.r_Ratio_rmul (ok_Ratio_rmul M) hq (hr.mono (by decide)) M.b_Ratio_rmul rfl)) (Dl.OpV.or (Dl.OpV.or (Dl.OpV.or opv_mulW opv_rep) (opv_own2 (c := 0) rfl)) (opv_ownR (c := 0) rfl)) (pd_v 2) (pd_v 3)) pds_nil)) (fun _ _ _ _ _ => (tg_n 5 sc_law_right.nd)) (fun _ _ _ _ _ => pts_yes) (fun _ _ _ _ _ => (pd_call (ok_law_worth M) hq (hr.mono (by decide)) M.m_law_worth M.F_law_worth.kp (bnd_of 2 M.b_law_worth .nil lits_nil rfl) (pds_cons (pd_v 1) (pds_cons (pd_v 5) pds_nil)) pks_nil)))) pds_nil)) pks_nil))
    (sts_one (st_ret (pd_and (pd_cmp (Dl.OpR.or (Dl.OpR.or (Dl.OpR.or op_eq (op_ownE (T := TT K M.C_Ratio M.C_Course) (E := E0) M.e_Ratio_eq M.ef_Ratio_eq (ok_Ratio_eq M) hq (hr.mono (by decide)) M.b_Ratio_eq rfl)) (op_ownE (T := TT K M.C_Ratio M.C_Course) (E := E0) M.e_Course_eq M.ef_Course_eq (ok_Course_eq M) hq (hr.mono (by decide)) M.b_Course_eq rfl)) (op_eqB (n := 5) (T := TT K M.C_Ratio M.C_Course) (rcB_ls false (eqB3 M rfl rfl)) hq (hr.mono (by decide)))) (Dl.OpV.or (Dl.OpV.or (Dl.OpV.or opv_eqF (opv_ownE (c := 0) rfl M.tp_Ratio)) (opv_ownE (c := 1) rfl M.tp_Course)) (opv_eqB false)) (pd_v 4) (pd_call (ok_law_made M) hq (hr.mono (by decide)) M.m_law_made M.F_law_made.kp (bnd_of 1 M.b_law_made .nil lits_nil rfl) (pds_cons (pd_v 1) pds_nil) pks_nil) rfl) (pd_and (pd_cmp (Dl.OpR.or (Dl.OpR.or (Dl.OpR.or op_eq (op_ownE (T := TT K M.C_Ratio M.C_Course) (E := E0) M.e_Ratio_eq M.ef_Ratio_eq (ok_Ratio_eq M) hq (hr.mono (by decide)) M.b_Ratio_eq rfl)) (op_ownE (T := TT K M.C_Ratio M.C_Course) (E := E0) M.e_Course_eq M.ef_Course_eq (ok_Course_eq M) hq (hr.mono (by decide)) M.b_Course_eq rfl)) (op_eqB (n := 5) (T := TT K M.C_Ratio M.C_Course) (rcB_ls false (eqB3 M rfl rfl)) hq (hr.mono (by decide)))) (Dl.OpV.or (Dl.OpV.or (Dl.OpV.or opv_eqF (opv_ownE (c := 0) rfl M.tp_Ratio)) (opv_ownE (c := 1) rfl M.tp_Course)) (opv_eqB false)) (pd_prop (c := 1) (pd_v 4) rfl M.hc_Course M.pr_Course_period (ok_Course_period M) hq (hr.mono (by decide)) M.b_Course_period) (pd_blt call_len_seq callv_len M.n_len (by decide +kernel) (pds_cons (pd_call (ok_law_form M) hq (hr.mono (by decide)) M.m_law_form M.F_law_form.kp (bnd_of 1 M.b_law_form .nil lits_nil rfl) (pds_cons (pd_v 1) pds_nil) pks_nil) pds_nil)) rfl) (pd_one (pd_cmp (Dl.OpR.or (Dl.OpR.or (Dl.OpR.or op_eq (op_ownE (T := TT K M.C_Ratio M.C_Course) (E := E0) M.e_Ratio_eq M.ef_Ratio_eq (ok_Ratio_eq M) hq (hr.mono (by decide)) M.b_Ratio_eq rfl)) (op_ownE (T := TT K M.C_Ratio M.C_Course) (E := E0) M.e_Course_eq M.ef_Course_eq (ok_Course_eq M) hq (hr.mono (by decide)) M.b_Course_eq rfl)) (op_eqB (n := 5) (T := TT K M.C_Ratio M.C_Course) (rcB_ls false (eqB3 M rfl rfl)) hq (hr.mono (by decide)))) (Dl.OpV.or (Dl.OpV.or (Dl.OpV.or opv_eqF (opv_ownE (c := 0) rfl M.tp_Ratio)) (opv_ownE (c := 1) rfl M.tp_Course)) (opv_eqB false)) (pd_prop (c := 1) (pd_v 4) rfl M.hc_Course M.pr_Course_degree (ok_Course_degree M) hq (hr.mono (by decide)) M.b_Course_degree) (pd_call (ok_law_degree M) hq (hr.mono (by decide)) M.m_law_degree M.F_law_degree.kp (bnd_of 1 M.b_law_degree .nil lits_nil rfl) (pds_cons (pd_v 1) pds_nil) pks_nil) rfl)))))))))))

theorem sc_law : FnScope ["_law_script"] ["_law_script"] (defScope s_law) := ⟨rfl, rfl, rfl, by decide +kernel, rfl, by decide +kernel, by decide +kernel⟩
def g_law : FS := (sRet (fCallPF G_law_right (fCallF G_law_pot (fCons (fV 0) (fCons (fC (.int 0)) fNil)))))
def G_law : List D → Option D := outD 1 g_law
theorem ok_law (M : Facts K mg) : FnG P w K mg base 13 M.a_law M.d_law ["_law_script"] (sp0 (TT K M.C_Ratio M.C_Course) 1 G_law) :=
  ok0' (g := g_law) M.F_law sc_law rfl rfl (fun cdv A outer s H E hq hr =>
    (sts_one (st_ret (pd_callPF (ok_law_right M) hq (hr.mono (by decide)) M.m_law_right M.F_law_right.kp M.b_law_right rfl (pf_call (ok_law_pot M) hq (hr.mono (by decide)) M.m_law_pot M.F_law_pot.kp M.b_law_pot rfl (pds_cons (pd_v 0) (pds_cons pd_int pds_nil)))))))
end
end My
namespace My
open PySem PySem.Spec PyProof.Rows L2 ClX Dl
abbrev R (p q : Int) : D := .obj 0 [.int p, .int q]
abbrev mkR (t b : Int) : D := R (nrm t b).1 (nrm t b).2
/-- within n bits -/
def Bd (x : Int) (n : Nat) : Prop := x.natAbs < 2 ^ n
theorem Bd.mono {x : Int} {n m : Nat} (h : Bd x n) (k : n ≤ m) : Bd x m := Nat.lt_of_lt_of_le h (Nat.pow_le_pow_right (by decide) k)
theorem Bd.mul {x y : Int} {n m : Nat} (h : Bd x n) (k : Bd y m) : Bd (x * y) (n + m) := by
  unfold Bd at *
  rw [Int.natAbs_mul, Nat.pow_add]
  exact Nat.mul_lt_mul'' h k
theorem Bd.add {x y : Int} {n : Nat} (h : Bd x n) (k : Bd y n) : Bd (x + y) (n + 1) := by
  unfold Bd at *
  rw [Nat.pow_succ]
  omega
theorem Bd.sub {x y : Int} {n : Nat} (h : Bd x n) (k : Bd y n) : Bd (x - y) (n + 1) := by
  unfold Bd at *
  rw [Nat.pow_succ]
  omega
theorem Bd.neg {x : Int} {n : Nat} (h : Bd x n) : Bd (-x) n := by unfold Bd at *; omega
theorem Bd.le {x y : Int} {n : Nat} (h : Bd x n) (k : y.natAbs ≤ x.natAbs) : Bd y n := Nat.lt_of_le_of_lt k h
theorem mul_ok {x y : Int} (h : Bd x 4000) (k : Bd y 4000) : okMul x y = true := by
  unfold okMul
  simp only [Bool.and_eq_true, decide_eq_true_eq]
  exact ⟨h, k⟩
theorem num_ok {x : Int} (h : Bd x 1900) : okNum x = true := by
  unfold okNum
  rw [decide_eq_true_eq]
  exact Nat.lt_of_lt_of_le (PySem.Flt.log2_lt_of (by decide) h) (by decide)
theorem bdOne {n : Nat} (h : n ≠ 0) : Bd 1 n := Nat.one_lt_two_pow h
theorem bd1 : Bd 1 4000 := by
  unfold Bd
  exact Nat.one_lt_two_pow (by decide)
theorem p_is_integer (i : Int) : G_is_integer [.int i] = some (.bl true) := rfl
theorem p_is_list (ds : List D) : G_is_list [.lst ds] = some (.bl true) := rfl
theorem p_is_listT (ds : List D) : G_is_list [.tup ds] = some (.bl true) := rfl
theorem p_init {t b : Int} (h : b ≠ 0) (k : Bd b 4000) : G_Ratio_init [.int t, .int b] = some [.int (nrm t b).1, .int (nrm t b).2] := if_pos ⟨h, k⟩
theorem p_as_ratio (p q : Int) : G_as_ratio [R p q] = some (R p q) := rfl
theorem p_as_ratioI (i : Int) : G_as_ratio [.int i] = some (R i 1) := by
  have h := @p_init i 1 (by decide) bd1
  rw [nrm_one] at h
  simp [G_as_ratio, outD, g_as_ratio, sSeq, sIf, fNot, fAnd, fOr, fB, fCall, fCons, fNil, fV, ini, gPos, sNo, sNil, fBin, Dl.gOr, gEqF, gNeF, litV, scal, sSet, fFun, gI0, gI, gRep, fC, endD, endP, fFld, fProp, sRet, fIf, fUn, gNeg, uOr, fAndV, fOrV, fNotV, fIsi, isC, pObj, gAdd0, gCatS, gCatL, fTup, fLst, fFr, Option.bind_some, Option.map_some, Option.bind_none, fMake, h]
theorem p_sign (p q : Int) : G_Ratio_sign [R p q] = some (.int (if p < 0 then -1 else if 0 < p then 1 else 0)) := by
  by_cases h : p < 0
  · simp [G_Ratio_sign, outD, g_Ratio_sign, sSeq, sIf, fNot, fAnd, fOr, fB, fCall, fCons, fNil, fV, ini, gPos, sNo, sNil, fBin, Dl.gOr, gEqF, gNeF, litV, scal, sSet, fFun, gI0, gI, gRep, fC, endD, endP, fFld, fProp, sRet, fIf, fUn, gNeg, uOr, fAndV, fOrV, fNotV, fIsi, isC, pObj, gAdd0, gCatS, gCatL, fTup, fLst, fFr, Option.bind_some, Option.map_some, Option.bind_none, h]
  · by_cases h2 : 0 < p
    · simp [G_Ratio_sign, outD, g_Ratio_sign, sSeq, sIf, fNot, fAnd, fOr, fB, fCall, fCons, fNil, fV, ini, gPos, sNo, sNil, fBin, Dl.gOr, gEqF, gNeF, litV, scal, sSet, fFun, gI0, gI, gRep, fC, endD, endP, fFld, fProp, sRet, fIf, fUn, gNeg, uOr, fAndV, fOrV, fNotV, fIsi, isC, pObj, gAdd0, gCatS, gCatL, fTup, fLst, fFr, Option.bind_some, Option.map_some, Option.bind_none, h, h2]
    · simp [G_Ratio_sign, outD, g_Ratio_sign, sSeq, sIf, fNot, fAnd, fOr, fB, fCall, fCons, fNil, fV, ini, gPos, sNo, sNil, fBin, Dl.gOr, gEqF, gNeF, litV, scal, sSet, fFun, gI0, gI, gRep, fC, endD, endP, fFld, fProp, sRet, fIf, fUn, gNeg, uOr, fAndV, fOrV, fNotV, fIsi, isC, pObj, gAdd0, gCatS, gCatL, fTup, fLst, fFr, Option.bind_some, Option.map_some, Option.bind_none, h, h2]
theorem p_eq (p q r s : Int) : G_Ratio_eq [R p q, R r s] = some (.bl (decide (p = r) && decide (q = s))) := by
  by_cases h : p = r <;> simp [G_Ratio_eq, outD, g_Ratio_eq, sSeq, sIf, fNot, fAnd, fOr, fB, fCall, fCons, fNil, fV, ini, gPos, sNo, sNil, fBin, Dl.gOr, gEqF, gNeF, litV, scal, sSet, fFun, gI0, gI, gRep, fC, endD, endP, fFld, fProp, sRet, fIf, fUn, gNeg, uOr, fAndV, fOrV, fNotV, fIsi, isC, pObj, gAdd0, gCatS, gCatL, fTup, fLst, fFr, Option.bind_some, Option.map_some, Option.bind_none, h]
theorem p_eqI (p q i : Int) : G_Ratio_eq [R p q, .int i] = some (.bl false) := by
  simp [G_Ratio_eq, outD, g_Ratio_eq, sSeq, sIf, fNot, fAnd, fOr, fB, fCall, fCons, fNil, fV, ini, gPos, sNo, sNil, fBin, Dl.gOr, gEqF, gNeF, litV, scal, sSet, fFun, gI0, gI, gRep, fC, endD, endP, fFld, fProp, sRet, fIf, fUn, gNeg, uOr, fAndV, fOrV, fNotV, fIsi, isC, pObj, gAdd0, gCatS, gCatL, fTup, fLst, fFr, Option.bind_some, Option.map_some, Option.bind_none]
section
variable {p q r s : Int} (hq : q ≠ 0) (hs : s ≠ 0) (bp : Bd p 1900) (bq : Bd q 1900) (br : Bd r 1900) (bs : Bd s 1900)
include hq hs bp bq br bs
theorem p_add : G_Ratio_add [R p q, R r s] = some (mkR (p * s + r * q) (q * s)) := by
  have m1 := mul_ok (bp.mono (by decide)) (bs.mono (by decide : 1900 ≤ 4000))
  have m2 := mul_ok (br.mono (by decide)) (bq.mono (by decide : 1900 ≤ 4000))
  have m3 := mul_ok (bq.mono (by decide)) (bs.mono (by decide : 1900 ≤ 4000))
  have h := @p_init (p * s + r * q) (q * s) (Int.mul_ne_zero hq hs) ((bq.mul bs).mono (by decide))
  simp [G_Ratio_add, outD, g_Ratio_add, sSeq, sIf, fNot, fAnd, fOr, fB, fCall, fCons, fNil, fV, ini, gPos, sNo, sNil, fBin, Dl.gOr, gEqF, gNeF, litV, scal, sSet, fFun, gI0, gI, gRep, fC, endD, endP, fFld, fProp, sRet, fIf, fUn, gNeg, uOr, fAndV, fOrV, fNotV, fIsi, isC, pObj, gAdd0, gCatS, gCatL, fTup, fLst, fFr, Option.bind_some, Option.map_some, Option.bind_none, fMake, h, m1, m2, m3, p_as_ratio]
theorem p_mul : G_Ratio_mul [R p q, R r s] = some (mkR (p * r) (q * s)) := by
  have m1 := mul_ok (bp.mono (by decide)) (br.mono (by decide : 1900 ≤ 4000))
  have m3 := mul_ok (bq.mono (by decide)) (bs.mono (by decide : 1900 ≤ 4000))
  have h := @p_init (p * r) (q * s) (Int.mul_ne_zero hq hs) ((bq.mul bs).mono (by decide))
  simp [G_Ratio_mul, outD, g_Ratio_mul, sSeq, sIf, fNot, fAnd, fOr, fB, fCall, fCons, fNil, fV, ini, gPos, sNo, sNil, fBin, Dl.gOr, gEqF, gNeF, litV, scal, sSet, fFun, gI0, gI, gRep, fC, endD, endP, fFld, fProp, sRet, fIf, fUn, gNeg, uOr, fAndV, fOrV, fNotV, fIsi, isC, pObj, gAdd0, gCatS, gCatL, fTup, fLst, fFr, Option.bind_some, Option.map_some, Option.bind_none, fMake, h, m1, m3, p_as_ratio]
end
section
variable {p q r s i : Int} (hq : q ≠ 0) (bp : Bd p 1900) (bq : Bd q 1900) (bi : Bd i 1900)
include hq bp bq bi
theorem p_addI : G_Ratio_add [R p q, .int i] = some (mkR (p + i * q) q) := by
  have m1 := mul_ok (bp.mono (by decide)) bd1
  have m2 := mul_ok (bi.mono (by decide)) (bq.mono (by decide : 1900 ≤ 4000))
  have m3 := mul_ok (bq.mono (by decide)) bd1
  have h := @p_init (p + i * q) q hq (bq.mono (by decide))
  simp [G_Ratio_add, outD, g_Ratio_add, sSeq, sIf, fNot, fAnd, fOr, fB, fCall, fCons, fNil, fV, ini, gPos, sNo, sNil, fBin, Dl.gOr, gEqF, gNeF, litV, scal, sSet, fFun, gI0, gI, gRep, fC, endD, endP, fFld, fProp, sRet, fIf, fUn, gNeg, uOr, fAndV, fOrV, fNotV, fIsi, isC, pObj, gAdd0, gCatS, gCatL, fTup, fLst, fFr, Option.bind_some, Option.map_some, Option.bind_none, fMake, h, m1, m2, m3, p_as_ratioI]
theorem p_mulI : G_Ratio_mul [R p q, .int i] = some (mkR (p * i) q) := by
  have m1 := mul_ok (bp.mono (by decide)) (bi.mono (by decide : 1900 ≤ 4000))
  have m3 := mul_ok (bq.mono (by decide)) bd1
  have h := @p_init (p * i) q hq (bq.mono (by decide))
  simp [G_Ratio_mul, outD, g_Ratio_mul, sSeq, sIf, fNot, fAnd, fOr, fB, fCall, fCons, fNil, fV, ini, gPos, sNo, sNil, fBin, Dl.gOr, gEqF, gNeF, litV, scal, sSet, fFun, gI0, gI, gRep, fC, endD, endP, fFld, fProp, sRet, fIf, fUn, gNeg, uOr, fAndV, fOrV, fNotV, fIsi, isC, pObj, gAdd0, gCatS, gCatL, fTup, fLst, fFr, Option.bind_some, Option.map_some, Option.bind_none, fMake, h, m1, m3, p_as_ratioI]
end
theorem lenT {x : Int} (h : Bd x 1900) : (Str.ofString x.repr).length ≤ 1921 := by
  rw [PySem.ofString_length]
  exact int_text_length_le (by decide) (of_decide_eq_true (num_ok h))
theorem nrm_neg {t b : Int} (h : b ≠ 0) : (nrm t b).1 < 0 ↔ t * b < 0 := by
  have k := nrm_is (t := t) h
  have e := k.eq
  have hb : 0 < b * b := by
    rcases Int.lt_or_gt_of_ne h with h | h
    · exact Int.mul_pos_of_neg_of_neg h h
    · exact Int.mul_pos h h
  have e2 : (nrm t b).1 * (b * b) = t * b * (nrm t b).2 := by rw [← Int.mul_assoc, e, Int.mul_assoc, Int.mul_comm (nrm t b).2, ← Int.mul_assoc]
  constructor
  · intro hp
    have : (nrm t b).1 * (b * b) < 0 := Int.mul_neg_of_neg_of_pos hp hb
    rw [e2] at this
    rcases Int.lt_trichotomy (t * b) 0 with z | z | z
    · exact z
    · rw [z] at this; simp at this
    · have := Int.mul_pos z k.pos; omega
  · intro hp
    have : t * b * (nrm t b).2 < 0 := Int.mul_neg_of_neg_of_pos hp k.pos
    rw [← e2] at this
    rcases Int.lt_trichotomy (nrm t b).1 0 with z | z | z
    · exact z
    · rw [z] at this; simp at this
    · have := Int.mul_pos z hb; omega
theorem nrm_zero {t b : Int} (h : b ≠ 0) : (nrm t b).1 = 0 ↔ t = 0 := by
  have k := nrm_is (t := t) h
  have e := k.eq
  constructor
  · intro z
    rw [z, Int.zero_mul] at e
    rcases Int.mul_eq_zero.mp e.symm with z | z
    · exact z
    · have := k.pos; omega
  · intro z
    have e' : (nrm t b).1 * b = 0 := by rw [e, z, Int.zero_mul]
    rcases Int.mul_eq_zero.mp e' with z | z
    · exact z
    · exact absurd z h
end My
namespace My
open PySem PySem.Spec PyProof.Rows L2 ClX Dl
/-! the draws -/
def Pot (l : List D) : Prop := ∃ x y : Int, l = [.int x, .int y] ∧ 0 ≤ y ∧ Bd y 40
theorem okPos_of {i j : Int} (h : 0 < j) : okPos i j = true := decide_eq_true h
theorem bd_of {x : Int} {n : Nat} (m : Nat) (h0 : 0 ≤ x) (h : x < (m : Int)) (k : m ≤ 2 ^ n) : Bd x n := by unfold Bd; omega
theorem p_draw {l : List D} {n : Int} (P : Pot l) (h : 0 < n) (bn : Bd n 64) : ∃ (d : Int) (l' : List D), G_law_draw l [.int n] = some (.int d, l') ∧ 0 ≤ d ∧ d < n ∧ Pot l' := by
  obtain ⟨x, y, rfl, hy, by'⟩ := P
  have k0 : okPos x n = true := okPos_of h
  by_cases z : 0 < x
  · have dm : okDiv x n = true := by
      unfold okDiv
      simp only [Bool.and_eq_true, decide_eq_true_eq]
      exact ⟨h, Bd.mono bn (by decide)⟩
    refine ⟨x % n, [.int (x / n), .int y], ?_, Int.emod_nonneg x (by omega), Int.emod_lt_of_pos x h, ⟨_, _, rfl, hy, by'⟩⟩
    simp [G_law_draw, outP, g_law_draw, sSeq, sIf, fNot, fAnd, fOr, fB, fCall, fCons, fNil, fV, ini, gPos, sNo, sNil, fBin, Dl.gOr, gEqF, gNeF, litV, scal, sSet, fFun, gI0, gI, gRep, fC, endD, endP, fFld, fProp, sRet, fIf, fUn, gNeg, uOr, fAndV, fOrV, fNotV, fIsi, isC, pObj, gAdd0, gCatS, gCatL, fTup, fLst, fFr, Option.bind_some, Option.map_some, Option.bind_none, fIxN, fIxO, isOwn, isL, isOwnL, atI, ixN, sAsg, gT, gsCons, gsNil, gN, gI1, funDivmod, fLenN, fLenO, fCallP, gIx, z, dm]
  · have m1 := mul_ok (by'.mono (by decide)) ((bd_of (x := 48271) 65536 (by decide) (by decide) (by decide : 65536 ≤ 2 ^ 16)).mono (by decide))
    have y0 : 0 ≤ (y * 48271 + 89) % 2147483587 := Int.emod_nonneg _ (by decide)
    have y1 : (y * 48271 + 89) % 2147483587 < 2147483587 := Int.emod_lt_of_pos _ (by decide)
    generalize hY : (y * 48271 + 89) % 2147483587 = Y at *
    have bY : Bd Y 40 := bd_of 2147483587 y0 y1 (by decide)
    have m2 := mul_ok (bY.mono (by decide)) (bY.mono (by decide : 40 ≤ 4000))
    have k1 : okPos (y * 48271 + 89) 2147483587 = true := okPos_of (by decide)
    have k2 : okPos (Y * Y) 2147483549 = true := okPos_of (by decide)
    have k3 : okDivN (Y * Y % 2147483549) 13 = true := by
      unfold okDivN
      simp only [Bool.and_eq_true, decide_eq_true_eq]
      exact ⟨by decide, Nat.lt_of_lt_of_le (by decide : (13 : Int).natAbs < 2 ^ 10) (Nat.pow_le_pow_right (by decide) (by decide))⟩
    have k4 : okPos ((Y * Y % 2147483549).fdiv 13) n = true := okPos_of h
    refine ⟨(Y * Y % 2147483549).fdiv 13 % n, [.int x, .int Y], ?_, Int.emod_nonneg _ (by omega), Int.emod_lt_of_pos _ h, ⟨_, _, rfl, y0, bY⟩⟩
    simp [G_law_draw, outP, g_law_draw, sSeq, sIf, fNot, fAnd, fOr, fB, fCall, fCons, fNil, fV, ini, gPos, sNo, sNil, fBin, Dl.gOr, gEqF, gNeF, litV, scal, sSet, fFun, gI0, gI, gRep, fC, endD, endP, fFld, fProp, sRet, fIf, fUn, gNeg, uOr, fAndV, fOrV, fNotV, fIsi, isC, pObj, gAdd0, gCatS, gCatL, fTup, fLst, fFr, Option.bind_some, Option.map_some, Option.bind_none, fIxN, fIxO, isOwn, isL, isOwnL, atI, ixN, sAsg, gT, gsCons, gsNil, gN, gI1, funDivmod, fLenN, fLenO, fCallP, gIx, z, m1, m2, k1, k2, k3, k4, funInt, hY]
theorem atI_in {ds : List D} {i : Int} (h0 : 0 ≤ i) (h1 : i < ds.length) : ∃ x, atI ds i = some x ∧ x ∈ ds := by
  have hj : i.toNat < ds.length := by omega
  refine ⟨ds[i.toNat], ?_, List.getElem_mem hj⟩
  unfold atI ixN
  simp [h0, h1, hj]
theorem p_pick {l ds : List D} (P : Pot l) (h : 0 < ds.length) (hn : ds.length < 1000) : ∃ (x : D) (l' : List D), G_law_pick l [.lst ds] = some (x, l') ∧ x ∈ ds ∧ Pot l' := by
  obtain ⟨r, l1, e1, r0, r1, P1⟩ := p_draw (n := ds.length) P (by omega) (bd_of 1000 (by omega) (by omega) (by decide))
  obtain ⟨x, ex, hx⟩ := atI_in r0 r1
  refine ⟨x, l1, ?_, hx, P1⟩
  have gx : gIx (.lst ds) (.int r) = some x := ex
  simp [G_law_pick, outP, g_law_pick, sSeq, sIf, fNot, fAnd, fOr, fB, fCall, fCons, fNil, fV, ini, gPos, sNo, sNil, fBin, Dl.gOr, gEqF, gNeF, litV, scal, sSet, fFun, gI0, gI, gRep, fC, endD, endP, fFld, fProp, sRet, fIf, fUn, gNeg, uOr, fAndV, fOrV, fNotV, fIsi, isC, pObj, gAdd0, gCatS, gCatL, fTup, fLst, fFr, Option.bind_some, Option.map_some, Option.bind_none, fIxN, fIxO, isOwn, isL, fLenN, fLenO, fCallP, funLen, e1, gx]
end My
namespace My
open PySem PySem.Spec PyProof.Rows L2 ClX Dl
/-! comprehensions that map; equality of coded lists -/
/-! equality -/
abbrev mk (q t : Int) : D := mkR t q
theorem mk_inj {q t u : Int} (hq : q ≠ 0) : ((nrm t q).1 = (nrm u q).1 ∧ (nrm t q).2 = (nrm u q).2) ↔ t = u := by
  constructor
  · intro ⟨h1, h2⟩
    have k := nrm_is (t := t) hq
    have k' := nrm_is (t := u) hq
    have e := k.eq
    have e' := k'.eq
    rw [← h1, ← h2] at e'
    have p := k.pos
    have : t * (nrm t q).2 = u * (nrm t q).2 := by rw [← e, ← e']
    exact Int.eq_of_mul_eq_mul_right (Int.ne_of_gt p) this
  · rintro rfl; exact ⟨rfl, rfl⟩
theorem ob_mk {q t u : Int} (hq : q ≠ 0) : eqOb 0 G_Ratio_eq (mk q t) (mk q u) = some (decide (t = u)) := by
  simp only [eqOb, mk, mkR, R, and_self, if_true, p_eq]
  rw [← Bool.decide_and]
  exact congrArg some (decide_eq_decide.mpr (mk_inj hq))
theorem eq0_mk {q t u : Int} (hq : q ≠ 0) : eq0 (mk q t) (mk q u) = some (decide (t = u)) := by
  have := ob_mk (t := t) (u := u) hq
  simp only [eq0, bOr, eqFl, litV, mk, mkR, R] at this ⊢
  exact this
theorem eq0_int (t u : Int) : eq0 (.int t) (.int u) = some (decide (t = u)) := by
  simp [eq0, bOr, eqFl, litV, eqV]
  rfl
theorem bOr_some {g g' : D → D → Option Bool} {x y : D} {b : Bool} (h : g x y = some b) : bOr g g' x y = some b := by simp [bOr, h]
theorem eq3_of0 {x y : D} {b : Bool} (h : eq0 x y = some b) : eq3 x y = some b := bOr_some (bOr_some (bOr_some h))
theorem eqZ_code {α : Type} [DecidableEq α] {g : D → D → Option Bool} {f : α → D} (h : ∀ a b, g (f a) (f b) = some (decide (a = b))) : ∀ (as bs : List α), as.length = bs.length → eqZ g (as.map f) (bs.map f) = some (decide (as = bs))
  | [], [], _ => by simp [eqZ]
  | a :: as, b :: bs, e => by
    simp only [List.length_cons, Nat.add_right_cancel_iff] at e
    simp only [List.map_cons, eqZ, h, Option.bind_some, eqZ_code h as bs e, Option.map_some]
    simp only [List.cons.injEq, Bool.decide_and]
  | [], b :: bs, e => by simp at e
  | a :: as, [], e => by simp at e
theorem eqLs_code {α : Type} [DecidableEq α] {g : D → D → Option Bool} {f : α → D} (h : ∀ a b, g (f a) (f b) = some (decide (a = b))) (as bs : List α) : eqLs g (.lst (as.map f)) (.lst (bs.map f)) = some (decide (as = bs)) := by
  simp only [eqLs, List.length_map]
  by_cases e : as.length = bs.length
  · rw [if_pos e, eqZ_code h as bs e]
  · rw [if_neg e]
    have : as ≠ bs := fun z => e (by rw [z])
    simp [this]
theorem eq0_lst (as bs : List D) : eq0 (.lst as) (.lst bs) = none := by simp [eq0, bOr, eqFl, litV, eqOb]
theorem eq3_lst {as bs : List D} {b : Bool} (h : eqLs eq0 (.lst as) (.lst bs) = some b) : eq3 (.lst as) (.lst bs) = some b := bOr_some (bOr_some (by simp [eq1, bOr, eq0_lst, h]))
/-- rows of fractions, of ints -/
abbrev rowR (q : Int) (ts : List Int) : D := .lst (ts.map (mk q))
abbrev rowI (ts : List Int) : D := .lst (ts.map D.int)
theorem eq3_rowR {q : Int} (hq : q ≠ 0) (ts us : List Int) : eq3 (rowR q ts) (rowR q us) = some (decide (ts = us)) := eq3_lst (eqLs_code (fun _ _ => eq0_mk hq) ts us)
theorem eq3_rowI (ts us : List Int) : eq3 (rowI ts) (rowI us) = some (decide (ts = us)) := eq3_lst (eqLs_code eq0_int ts us)
/-- as operators -/
abbrev gE : D → D → Option D := gOr (gOr gEqF (gOwnE 0 G_Ratio_eq)) (gB false (eqLs eq3))
theorem gE_lst {as bs : List D} {b : Bool} (h : eqLs eq3 (.lst as) (.lst bs) = some b) : gE (.lst as) (.lst bs) = some (.bl b) := by
  simp [gE, Dl.gOr, gEqF, litV, gOwnE, gB, h]
theorem gE_int (i j : Int) : gE (.int i) (.int j) = some (.bl (decide (i = j))) := by
  simp [gE, Dl.gOr, gEqF, litV, scal]
theorem gE_rowR {q : Int} (hq : q ≠ 0) (ts us : List Int) : gE (rowR q ts) (rowR q us) = some (.bl (decide (ts = us))) := gE_lst (eqLs_code (fun _ _ => eq3_of0 (eq0_mk hq)) ts us)
theorem gE_rowI (ts us : List Int) : gE (rowI ts) (rowI us) = some (.bl (decide (ts = us))) := gE_lst (eqLs_code (fun _ _ => eq3_of0 (eq0_int _ _)) ts us)
theorem gE_rowsR {q : Int} (hq : q ≠ 0) (ts us : List (List Int)) : gE (.lst (ts.map (rowR q))) (.lst (us.map (rowR q))) = some (.bl (decide (ts = us))) := gE_lst (eqLs_code (eq3_rowR hq) ts us)
theorem gE_rowsI (ts us : List (List Int)) : gE (.lst (ts.map rowI)) (.lst (us.map rowI)) = some (.bl (decide (ts = us))) := gE_lst (eqLs_code eq3_rowI ts us)
end My
namespace My
open PySem PySem.Spec PyProof.Rows L2 ClX Dl
/-! numbers as they are handed in -/
/-- d is the fraction t over q, or the int t where it is the same -/
def Num (q t : Int) (d : D) : Prop := d = mk q t ∨ (d = .int t ∧ (q = 1 ∨ t = 0))
inductive Nums (q : Int) : List Int → List D → Prop
  | nil : Nums q [] []
  | cons {t : Int} {d : D} {ts : List Int} {ds : List D} (h : Num q t d) (hs : Nums q ts ds) : Nums q (t :: ts) (d :: ds)
theorem Nums.len {q : Int} {ts : List Int} {ds : List D} (h : Nums q ts ds) : ts.length = ds.length := by induction h with | nil => rfl | cons _ _ ih => simp [ih]
theorem Nums.app {q : Int} {ts us : List Int} {ds es : List D} (h : Nums q ts ds) (k : Nums q us es) : Nums q (ts ++ us) (ds ++ es) := by induction h with | nil => exact k | cons a _ ih => exact .cons a ih
theorem nrm0 {q : Int} (hq : 0 < q) : nrm 0 q = (0, 1) := nrm_eq (by omega) ⟨by decide, by simp, by simp⟩
theorem as_num {q t : Int} {d : D} (hq : 0 < q) (h : Num q t d) : G_as_ratio [d] = some (mk q t) := by
  rcases h with rfl | ⟨rfl, h⟩
  · exact p_as_ratio _ _
  · rw [p_as_ratioI]
    rcases h with rfl | rfl
    · simp [mk, mkR, nrm_one]
    · simp [mk, mkR, nrm0 hq]
theorem map_as {q : Int} (hq : 0 < q) {ts : List Int} {ds : List D} (h : Nums q ts ds) : mapO (fun d => G_as_ratio [d]) ds = some (ts.map (mk q)) := by
  induction h with
  | nil => rfl
  | cons a _ ih => simp [mapO, as_num hq a, ih]
theorem is_num {q t : Int} {d : D} (h : Num q t d) : G_is_number [d] = some (.bl true) := by
  rcases h with rfl | ⟨rfl, _⟩
  · rfl
  · rfl
theorem map_is {q : Int} {ts : List Int} {ds : List D} (h : Nums q ts ds) : mapO (fun d => G_is_number [d]) ds = some (List.replicate ds.length (.bl true)) := by
  induction h with
  | nil => rfl
  | cons a _ ih => simp [mapO, is_num a, ih, List.replicate_succ]
theorem all_true : ∀ n : Nat, funAll [.lst (List.replicate n (.bl true))] = some (.bl true) := by
  intro n
  have : blsOf (List.replicate n (.bl true)) = some (List.replicate n true) := by
    induction n with
    | zero => rfl
    | succ n ih => simp [List.replicate_succ, blsOf, ih]
  simp [funAll, this]
/-- a list or a tuple -/
def Sq (d : D) (ds : List D) : Prop := d = .lst ds ∨ d = .tup ds
theorem Sq.items {d : D} {ds : List D} (h : Sq d ds) : itemsD d = some ds := by rcases h with rfl | rfl <;> rfl
theorem fSq_val {d : D} {ds : List D} {i : Nat} {δ : Es} (h : Sq d ds) (hi : δ[i]? = some (.val d)) : fSq (fV i) δ = some (ds, δ) := by
  rcases h with rfl | rfl <;> simp [fSq, fV, hi]
theorem p_is_listS {d : D} {ds : List D} (h : Sq d ds) : G_is_list [d] = some (.bl true) := by rcases h with rfl | rfl <;> rfl
theorem fLenN_val {d : D} {ds : List D} {i : Nat} {δ : Es} (h : Sq d ds) (hi : δ[i]? = some (.val d)) : fLenN i δ = some (.int ds.length, δ) := by
  rcases h with rfl | rfl <;> simp [fLenN, isOwn, hi, fFun, funLen, fCons, fNil, fV]
theorem p_are_numbers {q : Int} {ts : List Int} {ds : List D} {d : D} (hd : Sq d ds) (h : Nums q ts ds) (hl : ds.length ≤ 1000) : G_are_numbers [d, .int ds.length] = some (.bl true) := by
  have e0 := p_is_listS hd
  have e1 : fLc (fSq (fV 0)) (gN 2) fYes (fCall G_is_number (gPos []) (fCons (fV 2) fNil) fNil) [2] [.val d, .val (.int ds.length), .un] = (mapO (fun d => G_is_number [d]) ds).map fun ys => (ys, [.val d, .val (.int ds.length), .un]) :=
    flc (fSq_val hd rfl) rfl (fun x _ => by simp [fCall, fCons, fNil, fV, gPos]) (by unfold big; omega)
  rw [map_is h] at e1
  have e2 := all_true ds.length
  have e3 := fLenN_val (i := 0) (δ := [.val d, .val (.int ds.length), .un]) hd rfl
  have e4 := gE_int ds.length ds.length
  simp only [decide_true] at e4
  simp [G_are_numbers, outD, g_are_numbers, sRet, fAndV, fB, fCall, fCons, fNil, fV, gPos, ini, e0, fBin, e3, e4, fFun, fFr, e1, e2, endD]
/-! the sum of powers -/
def hor (w : Int) (ts : List Int) : Int := ts.foldr (fun t T => T * w + t) 0
theorem hor_app (w : Int) (ts us : List Int) : hor w (ts ++ us) = ts.foldr (fun t T => T * w + t) (hor w us) := by unfold hor; rw [List.foldr_append]
theorem hor_zeros (w : Int) : ∀ n : Nat, hor w (List.replicate n 0) = 0
  | 0 => rfl
  | n + 1 => by
    have := hor_zeros w n
    unfold hor at this ⊢
    rw [List.replicate_succ, List.foldr_cons, this]; simp
theorem hor_pad (w : Int) (ts : List Int) (n : Nat) : hor w (ts ++ List.replicate n 0) = hor w ts := by
  rw [hor_app, hor_zeros]; rfl
abbrev gAd : D → D → Option D := gOr gAdd0 (gOwn2 0 G_Ratio_add)
abbrev gMu : D → D → Option D := gOr (gOr (gI okMul fun i j => .int (i * j)) gRep) (gOwn2 0 G_Ratio_mul)
theorem step_mk {q T w t : Int} (hq : 0 < q) (bq : Bd q 20) (bT : Bd T 1500) (bw : Bd w 100) (bt : Bd t 100) : (gMu (mk q T) (.int w)).bind (fun x => gAd x (mk q t)) = some (mk q (T * w + t)) := by
  have hq0 : q ≠ 0 := by omega
  have n := nrm_is (t := T) hq0
  have b1 : Bd (nrm T q).1 1500 := bT.le (nrm_le T q).1
  have b2 : Bd (nrm T q).2 1500 := (bq.le (nrm_le T q).2).mono (by decide)
  have m1 := p_mulI (p := (nrm T q).1) (q := (nrm T q).2) (i := w) (Int.ne_of_gt n.pos) (b1.mono (by decide)) (b2.mono (by decide)) (bw.mono (by decide))
  have g1 : gMu (mk q T) (.int w) = some (mkR ((nrm T q).1 * w) (nrm T q).2) := by
    simp [gMu, Dl.gOr, gI, gRep, gOwn2, mk, mkR, R, m1]
  have e1 : nrm ((nrm T q).1 * w) (nrm T q).2 = nrm (T * w) q := nrm_same (Int.ne_of_gt n.pos) hq0 (by
    calc (nrm T q).1 * w * q = ((nrm T q).1 * q) * w := by rw [Int.mul_assoc, Int.mul_comm w, ← Int.mul_assoc]
      _ = T * (nrm T q).2 * w := by rw [n.eq]
      _ = T * w * (nrm T q).2 := by rw [Int.mul_assoc, Int.mul_comm (nrm T q).2, ← Int.mul_assoc])
  rw [g1]
  simp only [Option.bind_some]
  rw [show mkR ((nrm T q).1 * w) (nrm T q).2 = mkR (T * w) q by unfold mkR; rw [e1]]
  have bTw : Bd (T * w) 1600 := (bT.mul bw).mono (by decide)
  have n2 := nrm_is (t := T * w) hq0
  have n3 := nrm_is (t := t) hq0
  have a1 := p_add (p := (nrm (T * w) q).1) (q := (nrm (T * w) q).2) (r := (nrm t q).1) (s := (nrm t q).2) (Int.ne_of_gt n2.pos) (Int.ne_of_gt n3.pos) ((bTw.le (nrm_le _ q).1).mono (by decide)) ((bq.le (nrm_le _ q).2).mono (by decide)) ((bt.le (nrm_le _ q).1).mono (by decide)) ((bq.le (nrm_le _ q).2).mono (by decide))
  have g2 : gAd (mkR (T * w) q) (mk q t) = some (mkR ((nrm (T * w) q).1 * (nrm t q).2 + (nrm t q).1 * (nrm (T * w) q).2) ((nrm (T * w) q).2 * (nrm t q).2)) := by
    simp [gAd, Dl.gOr, gAdd0, gI0, gCatS, gCatL, gOwn2, mk, mkR, R, a1]
  rw [g2]
  have e2 : nrm ((nrm (T * w) q).1 * (nrm t q).2 + (nrm t q).1 * (nrm (T * w) q).2) ((nrm (T * w) q).2 * (nrm t q).2) = nrm (T * w + t) q := by
    refine nrm_same (Int.mul_ne_zero (Int.ne_of_gt n2.pos) (Int.ne_of_gt n3.pos)) hq0 ?_
    have h2 := n2.eq
    have h3 := n3.eq
    generalize (nrm (T * w) q).1 = A at *
    generalize (nrm (T * w) q).2 = B at *
    generalize (nrm t q).1 = C at *
    generalize (nrm t q).2 = E at *
    calc (A * E + C * B) * q = (A * q) * E + (C * q) * B := by rw [Int.add_mul, Int.mul_assoc, Int.mul_comm E q, ← Int.mul_assoc, Int.mul_assoc C, Int.mul_comm B q, ← Int.mul_assoc]
      _ = T * w * B * E + t * E * B := by rw [h2, h3]
      _ = (T * w + t) * (B * E) := by rw [Int.add_mul, Int.mul_assoc (T * w), Int.mul_assoc t, Int.mul_comm E B]
  unfold mk mkR
  rw [e2]
def worB : FS := sSet 2 (fBin gAd (fBin gMu (fV 2) (fV 1)) (fV 3))
theorem worth_loop {q w : Int} (hq : 0 < q) (bq : Bd q 20) (bw : Bd w 100) (c : D) : ∀ (ts : List Int) (k : Nat) (T : Int) (s : Sl), (∀ t, t ∈ ts → Bd t 100) → Bd T (110 * k) → k + ts.length ≤ 13 →
    ∃ s', loopF (gN 3) worB (ts.map (mk q)) [.val c, .val (.int w), .val (mk q T), s] = some (.nx [.val c, .val (.int w), .val (mk q (ts.foldl (fun T t => T * w + t) T)), s'])
  | [], k, T, s, _, _, _ => ⟨s, by simp [loopF]⟩
  | t :: ts, k, T, s, ht, bT, hk => by
    simp only [List.length_cons] at hk
    have bt := ht t (List.mem_cons_self ..)
    have bT' : Bd T 1500 := bT.mono (by omega)
    have st := step_mk hq bq bT' bw bt
    obtain ⟨x, e1, e2⟩ := bind_some1 st
    have bn : Bd (T * w + t) (110 * (k + 1)) := by
      have b1 : Bd (T * w) (110 * k + 100) := bT.mul bw
      have b2 : Bd t (110 * k + 100) := bt.mono (by omega)
      exact (b1.add b2).mono (by omega)
    obtain ⟨s', ih⟩ := worth_loop hq bq bw c ts (k + 1) (T * w + t) (.val (mk q t)) (fun u hu => ht u (List.mem_cons_of_mem _ hu)) bn (by omega)
    refine ⟨s', ?_⟩
    simp only [List.map_cons, loopF, gN, worB, sSet, fBin, fV, List.getElem?_cons_succ, List.getElem?_cons_zero, List.set_cons_succ, List.set_cons_zero, Option.bind_some, Option.map_some, e1, e2, List.foldl_cons]
    exact ih
end My
namespace My
open PySem PySem.Spec PyProof.Rows L2 ClX Dl
theorem mk_zero (q : Int) (hq : 0 < q) : fMake 0 G_Ratio_init (gPos [.int 1]) (fCons (fC (.int 0)) fNil) fNil = fun δ => some (mk q 0, δ) := by
  funext δ
  have h := p_init (t := 0) (b := 1) (by decide) bd1
  rw [nrm_one] at h
  simp [fMake, fCons, fNil, fC, gPos, h, mk, mkR, R, nrm0 hq]
theorem p_worth {q w : Int} (hq : 0 < q) (bq : Bd q 20) (bw : Bd w 100) {ts : List Int} (ht : ∀ t, t ∈ ts → Bd t 100) (hl : ts.length ≤ 12) : G_worth [rowR q ts, .int w] = some (mk q (hor w ts)) := by
  obtain ⟨s', h⟩ := worth_loop hq bq bw (rowR q ts) ts.reverse 1 0 .un (fun t h => ht t (by simpa using h)) (by unfold Bd; exact Nat.two_pow_pos _) (by simp; omega)
  have e : ts.reverse.foldl (fun T t => T * w + t) 0 = hor w ts := by rw [List.foldl_reverse]; rfl
  rw [e] at h
  have r : (ts.map (mk q)).reverse = ts.reverse.map (mk q) := by rw [List.map_reverse]
  have z := mk_zero q hq
  have e2 : fSq (fFr (fRev (fV 0))) [.val (rowR q ts), .val (.int w), .val (mk q 0), .un] = some (ts.reverse.map (mk q), [.val (rowR q ts), .val (.int w), .val (mk q 0), .un]) := by
    simp only [fSq, fFr, fRev, fV, List.getElem?_cons_zero, Option.bind_some, Option.map_some, r]
  have e3 : sFor (fSq (fFr (fRev (fV 0)))) (gN 3) worB [.val (rowR q ts), .val (.int w), .val (mk q 0), .un] = some (.nx [.val (rowR q ts), .val (.int w), .val (mk q (hor w ts)), s']) := by
    simp only [sFor, e2, Option.bind_some]
    exact h
  have e4 : sSet 2 (fMake 0 G_Ratio_init (gPos [.int 1]) (fCons (fC (.int 0)) fNil) fNil) [.val (rowR q ts), .val (.int w), .un, .un] = some (.nx [.val (rowR q ts), .val (.int w), .val (mk q 0), .un]) := by
    simp [sSet, z]
  show (g_worth (ini 4 [rowR q ts, .int w])).bind endD = _
  have e0 : ini 4 [rowR q ts, .int w] = [.val (rowR q ts), .val (.int w), .un, .un] := rfl
  rw [e0]
  show (sSeq (sSet 2 _) (sSeq (sFor (fSq (fFr (fRev (fV 0)))) (gN 3) worB) (sRet (fV 2))) _).bind endD = _
  simp [sSeq, e4, e3, sRet, fV, endD]
/-! noughts at the end -/
/-- how far a row goes, looking at its first k numbers -/
def far (ts : List Int) : Nat → Nat
  | 0 => 0
  | k + 1 => if ts[k]?.getD 0 = 0 then far ts k else k + 1
def trim (ts : List Int) : List Int := ts.take (far ts ts.length)
theorem far_le (ts : List Int) : ∀ k, far ts k ≤ k
  | 0 => Nat.le_refl _
  | k + 1 => by
    have := far_le ts k
    unfold far
    split <;> omega
theorem far_zero (ts : List Int) : ∀ k j, far ts k ≤ j → j < k → ts[j]?.getD 0 = 0
  | 0, j, _, h => by omega
  | k + 1, j, h1, h2 => by
    unfold far at h1
    split at h1
    · rename_i hz
      by_cases e : j = k
      · subst e; exact hz
      · exact far_zero ts k j h1 (by omega)
    · omega
theorem trim_get (ts : List Int) (j : Nat) : (trim ts)[j]?.getD 0 = ts[j]?.getD 0 := by
  unfold trim
  by_cases h : j < far ts ts.length
  · rw [List.getElem?_take_of_lt h]
  · rw [List.getElem?_eq_none (by rw [List.length_take]; omega)]
    by_cases h2 : j < ts.length
    · rw [far_zero ts ts.length j (by omega) h2]; rfl
    · rw [List.getElem?_eq_none (by omega)]
theorem pad_trim (ts : List Int) : ts = trim ts ++ List.replicate (ts.length - far ts ts.length) 0 := by
  have hf := far_le ts ts.length
  apply List.ext_getElem?
  intro j
  unfold trim
  by_cases h : j < far ts ts.length
  · rw [List.getElem?_append_left (by rw [List.length_take]; omega), List.getElem?_take_of_lt h]
  · rw [List.getElem?_append_right (by rw [List.length_take]; omega), List.length_take, Nat.min_eq_left hf]
    by_cases h2 : j < ts.length
    · rw [List.getElem?_replicate_of_lt (by omega)]
      have := far_zero ts ts.length j (by omega) h2
      rw [List.getElem?_eq_getElem h2] at this ⊢
      simpa using this
    · rw [List.getElem?_eq_none (by omega), List.getElem?_eq_none (by simp; omega)]
theorem hor_trim (w : Int) (ts : List Int) : hor w (trim ts) = hor w ts := by
  conv => rhs; rw [pad_trim ts]
  rw [hor_pad]
/-- far does not look behind -/
theorem far_app (ts us : List Int) : ∀ k, k ≤ ts.length → far (ts ++ us) k = far ts k
  | 0, _ => rfl
  | k + 1, h => by
    unfold far
    rw [List.getElem?_append_left (by omega), far_app ts us k (by omega)]
theorem far_zeros (ts : List Int) : ∀ n : Nat, far (ts ++ List.replicate n 0) (ts.length + n) = far ts ts.length
  | 0 => by simp
  | n + 1 => by
    rw [← Nat.add_assoc]
    unfold far
    rw [if_pos ?_]
    · have e : ts ++ List.replicate (n + 1) 0 = (ts ++ List.replicate n 0) ++ [0] := by rw [List.replicate_succ', List.append_assoc]
      rw [e, far_app _ _ _ (by simp), far_zeros ts n]
      cases ts.length <;> rfl
    · rw [List.getElem?_append_right (by omega)]
      rw [List.getElem?_replicate_of_lt (by omega)]; rfl
theorem trim_pad (ts : List Int) (n : Nat) : trim (ts ++ List.replicate n 0) = trim ts := by
  unfold trim
  rw [List.length_append, List.length_replicate, far_zeros]
  exact List.take_append_of_le_length (far_le ts _)
theorem trim_snoc {ts : List Int} {t : Int} (h : t ≠ 0) : trim (ts ++ [t]) = ts ++ [t] := by
  unfold trim
  rw [List.length_append, List.length_singleton]
  have : far (ts ++ [t]) (ts.length + 1) = ts.length + 1 := by
    unfold far
    rw [if_neg]
    simp [h]
  rw [this]
  exact List.take_of_length_le (by simp)
theorem trim_len (ts : List Int) : (trim ts).length ≤ ts.length := by
  unfold trim; rw [List.length_take]; omega
theorem trim_mem {ts : List Int} {t : Int} (h : t ∈ trim ts) : t ∈ ts := List.mem_of_mem_take h
end My
namespace My
open PySem PySem.Spec PyProof.Rows L2 ClX Dl
theorem lc_mapG {ft : FG} {fe : FE} {vs : List Nat} {h : D → Option D} {δ : Es} : ∀ (ds acc : List D), (∀ d, d ∈ ds → ∃ δd, ft d δ = some δd ∧ fe δd = (h d).map (fun y => (y, δd)) ∧ wipeE δd vs = δ) → acc.length + ds.length ≤ big → lcF ft fYes fe vs ds acc δ = (mapO h ds).map fun ys => (acc ++ ys, δ)
  | [], acc, _, _ => by simp [lcF, mapO]
  | d :: ds, acc, hf, hl => by
    simp only [List.length_cons] at hl
    have hb : acc.length ≤ big := by omega
    obtain ⟨δd, h1, h2, h3⟩ := hf d (List.mem_cons_self ..)
    have rest := fun y => lc_mapG ds (acc ++ [y]) (fun x hx => hf x (List.mem_cons_of_mem _ hx)) (by simp; omega)
    simp only [lcF, h1, fYes, Option.bind_some, if_true, h2, mapO]
    cases hy : h d with
    | none => simp
    | some y =>
      simp only [Option.map_some, Option.bind_some, hb, if_true, h3, rest]
      cases mapO h ds <;> simp
theorem atI_nat {α : Type} (ds : List α) (i : Nat) (h : i < ds.length) : atI ds (i : Int) = ds[i]? := by
  unfold atI ixN
  simp [h]
theorem sign_zero {q t : Int} (hq : 0 < q) : gE (.int (if (nrm t q).1 < 0 then -1 else if 0 < (nrm t q).1 then 1 else 0)) (.int 0) = some (.bl (decide (t = 0))) := by
  rw [gE_int]
  have z := nrm_zero (t := t) (b := q) (by omega)
  by_cases h : t = 0
  · have := z.mpr h
    rw [this]
    simp [h]
  · have : (nrm t q).1 ≠ 0 := fun e => h (z.mp e)
    by_cases h1 : (nrm t q).1 < 0
    · simp [h1, h]
    · have h2 : 0 < (nrm t q).1 := by omega
      simp [h1, h2, h]
def trC : FT := fAnd (fB (fBin (gI0 fun i j => .bl (decide (j < i))) (fV 1) (fC (.int 0)))) (fB (fBin gE (fProp 0 G_Ratio_sign (fIxN 0 (fBin (gI0 fun i j => .int (i - j)) (fV 1) (fC (.int 1))))) (fC (.int 0))))
def trB : FS := sSet 1 (fBin (gI0 fun i j => .int (i - j)) (fV 1) (fC (.int 1)))
theorem tr_loop {q : Int} (hq : 0 < q) (ts : List Int) : ∀ (n k : Nat), k < n → k ≤ ts.length → whileF trC trB n [.val (rowR q ts), .val (.int k)] = some (.nx [.val (rowR q ts), .val (.int (far ts k))])
  | 0, k, h, _ => by omega
  | n + 1, 0, _, _ => by
    simp [whileF, trC, fAnd, fB, fBin, fV, fC, gI0, far]
  | n + 1, k + 1, h, hk => by
    have ih := tr_loop hq ts n k (by omega) (by omega)
    have hlt : k < ts.length := by omega
    have c1 : ((k + 1 : Nat) : Int) - 1 = (k : Int) := by omega
    have c2 : (0 : Int) < ((k + 1 : Nat) : Int) := by omega
    have gx : gIx (rowR q ts) (.int (((k + 1 : Nat) : Int) - 1)) = some (mk q ts[k]) := by
      rw [c1]
      show atI (ts.map (mk q)) (k : Int) = _
      rw [atI_nat _ _ (by simpa using hlt)]
      simp [hlt]
    have sg := p_sign (nrm ts[k] q).1 (nrm ts[k] q).2
    have cond : trC [.val (rowR q ts), .val (.int ((k + 1 : Nat) : Int))] = some (decide (ts[k] = 0), [.val (rowR q ts), .val (.int ((k + 1 : Nat) : Int))]) := by
      have e1 : fBin (gI0 fun i j => .bl (decide (j < i))) (fV 1) (fC (.int 0)) [.val (rowR q ts), .val (.int ((k + 1 : Nat) : Int))] = some (.bl true, [.val (rowR q ts), .val (.int ((k + 1 : Nat) : Int))]) := by
        simp only [fBin, fV, fC, List.getElem?_cons_succ, List.getElem?_cons_zero, Option.bind_some, gI0, c2, decide_true, Option.map_some]
      have e2 : fIxN 0 (fBin (gI0 fun i j => .int (i - j)) (fV 1) (fC (.int 1))) [.val (rowR q ts), .val (.int ((k + 1 : Nat) : Int))] = some (mk q ts[k], [.val (rowR q ts), .val (.int ((k + 1 : Nat) : Int))]) := by
        simp only [fIxN, isOwn, List.getElem?_cons_zero, Bool.false_eq_true, if_false, fBin, fV, fC, List.getElem?_cons_succ, Option.bind_some, gI0, Option.map_some, gx]
      have e3 : fProp 0 G_Ratio_sign (fIxN 0 (fBin (gI0 fun i j => .int (i - j)) (fV 1) (fC (.int 1)))) [.val (rowR q ts), .val (.int ((k + 1 : Nat) : Int))] = some (.int (if (nrm ts[k] q).1 < 0 then -1 else if 0 < (nrm ts[k] q).1 then 1 else 0), [.val (rowR q ts), .val (.int ((k + 1 : Nat) : Int))]) := by
        simp only [fProp, e2, Option.bind_some, mk, mkR, R, if_true, sg, Option.map_some]
      have e4 : fBin gE (fProp 0 G_Ratio_sign (fIxN 0 (fBin (gI0 fun i j => .int (i - j)) (fV 1) (fC (.int 1))))) (fC (.int 0)) [.val (rowR q ts), .val (.int ((k + 1 : Nat) : Int))] = some (.bl (decide (ts[k] = 0)), [.val (rowR q ts), .val (.int ((k + 1 : Nat) : Int))]) := by
        simp only [fBin, e3, Option.bind_some, fC, sign_zero hq, Option.map_some]
      simp only [trC, fAnd, fB, e1, Option.bind_some, if_true, e4]
    have step : trB [.val (rowR q ts), .val (.int ((k + 1 : Nat) : Int))] = some (.nx [.val (rowR q ts), .val (.int (k : Int))]) := by
      simp only [trB, sSet, fBin, fV, fC, List.getElem?_cons_succ, List.getElem?_cons_zero, Option.bind_some, gI0, c1, Option.map_some, List.set_cons_succ, List.set_cons_zero]
    have gd : ts[k]?.getD 0 = ts[k] := by simp [hlt]
    rw [whileF, cond]
    simp only [Option.bind_some, step]
    by_cases hz : ts[k] = 0
    · simp only [hz, decide_true, if_true]
      rw [ih]
      simp [far, gd, hz]
    · simp only [hz, decide_false, Bool.false_eq_true, if_false]
      simp [far, gd, hz]
theorem cut_take (ds : List D) (k : Nat) (h : k ≤ ds.length) : Dl.cutD ds none (some (k : Int)) = ds.take k := by
  unfold Dl.cutD
  rw [HT.sIx_none, HT.sIx_nat, Nat.min_eq_left h]
  simp
theorem p_trimmed {q : Int} (hq : 0 < q) (ts : List Int) : G_trimmed [rowR q ts] = some (rowR q (trim ts)) := by
  have h := tr_loop hq ts (ts.length + 1) ts.length (by omega) (Nat.le_refl _)
  have e1 : sSet 1 (fLenN 0) [.val (rowR q ts), .un] = some (.nx [.val (rowR q ts), .val (.int ts.length)]) := by
    simp [sSet, fLenN, isOwn, fFun, funLen, fCons, fNil, fV]
  have e2 : sWhile fu_trimmed trC trB [.val (rowR q ts), .val (.int ts.length)] = some (.nx [.val (rowR q ts), .val (.int (far ts ts.length))]) := by
    simp only [sWhile, fu_trimmed, List.getElem?_cons_succ, List.getElem?_cons_zero, Int.natAbs_natCast]
    exact h
  have hf := far_le ts ts.length
  have e3 : sRet (fFr (fSlice (fV 0) fNoPart (fPart (fV 1)))) [.val (rowR q ts), .val (.int (far ts ts.length))] = some (.rt (rowR q (trim ts)) [.val (rowR q ts), .val (.int (far ts ts.length))]) := by
    have c := cut_take (ts.map (mk q)) (far ts ts.length) (by simpa using hf)
    simp only [sRet, fFr, fSlice, fV, fNoPart, fPart, List.getElem?_cons_zero, List.getElem?_cons_succ, Option.bind_some, Option.map_some, c, trim, rowR, List.map_take]
  show (sSeq (sSet 1 (fLenN 0)) (sSeq (sWhile fu_trimmed trC trB) (sRet (fFr (fSlice (fV 0) fNoPart (fPart (fV 1)))))) [.val (rowR q ts), .un]).bind endD = _
  simp only [sSeq, e1, e2, e3, Option.bind_some, endD]
end My
namespace My
open PySem PySem.Spec PyProof.Rows L2 ClX Dl
/-! the least form -/
def per {α : Type} [DecidableEq α] (rows : List α) (p : Nat) : Bool := (List.range rows.length).all fun i => decide (rows[i]? = rows[i % p]?)
def pickN (P : Nat → Bool) : Nat → Nat → Option Nat
  | _, 0 => none
  | lo, k + 1 => if P lo then some lo else pickN P (lo + 1) k
def least {α : Type} [DecidableEq α] (rows : List α) : List α := match pickN (fun p => rows.length % p == 0 && per rows p) 1 (rows.length - 1) with
  | some p => rows.take p
  | none => rows
theorem range_map {α : Type} (xs : List D) (g : Nat → D) : (xs.mapIdx fun i _ => g i) = (List.range xs.length).map g := by
  apply List.ext_getElem?
  intro j
  simp only [List.getElem?_mapIdx, List.getElem?_map]
  by_cases h : j < xs.length
  · rw [List.getElem?_eq_getElem h, List.getElem?_range h]; rfl
  · rw [List.getElem?_eq_none (by omega), List.getElem?_eq_none (by simp; omega)]; rfl
theorem bls_map : ∀ bs : List Bool, blsOf (bs.map .bl) = some bs
  | [] => rfl
  | b :: bs => by simp [blsOf, bls_map bs]
theorem all_map (n : Nat) (b : Nat → Bool) : funAll [.lst ((List.range n).map fun i => .bl (b i))] = some (.bl ((List.range n).all b)) := by
  have e : ((List.range n).map fun i => D.bl (b i)) = ((List.range n).map b).map D.bl := by rw [List.map_map]; rfl
  have e2 : ((List.range n).map b).all id = (List.range n).all b := by rw [List.all_map]; rfl
  rw [e]
  simp only [funAll, bls_map, Option.map_some, e2]
/-- the test of a period -/
def leT (i : Nat) : FE := fBin gE (fV 4) (fIxN 0 (fBin (gI okPos fun i j => .int (i % j)) (fV 3) (fV 2)))
def leC : FT := fAnd (fB (fBin gE (fBin (gI okPos fun i j => .int (i % j)) (fV 1) (fV 2)) (fC (.int 0)))) (fB (fFun funAll (fCons (fFr (fLc (fEnum (fCons (fV 0) fNil)) (gT 2 (gsCons (gN 3) (gsCons (gN 4) gsNil))) fYes (leT 0) [3, 4])) fNil)))
abbrev encR (q : Int) (rows : List (List Int)) : D := .lst (rows.map (rowR q))
theorem le_all {q : Int} (hq : 0 < q) (rows : List (List Int)) (p : Nat) (hp : 0 < p) (hn : rows.length ≤ 1000) (many : D) :
    fFun funAll (fCons (fFr (fLc (fEnum (fCons (fV 0) fNil)) (gT 2 (gsCons (gN 3) (gsCons (gN 4) gsNil))) fYes (leT 0) [3, 4])) fNil) [.val (encR q rows), .val many, .val (.int p), .un, .un] = some (.bl (per rows p), [.val (encR q rows), .val many, .val (.int p), .un, .un]) := by
  have hq0 : q ≠ 0 := by omega
  have e1 : fEnum (fCons (fV 0) fNil) [.val (encR q rows), .val many, .val (.int p), .un, .un] = some (enumD (rows.map (rowR q)), [.val (encR q rows), .val many, .val (.int p), .un, .un]) := by
    simp only [fEnum, fCons, fNil, fV, List.getElem?_cons_zero, Option.bind_some, encR]
  let F : D → D := fun d => match d with
    | .tup [.int i, _] => .bl (decide (rows[i.toNat]? = rows[i.toNat % p]?))
    | _ => .non
  have e2 : lcF (gT 2 (gsCons (gN 3) (gsCons (gN 4) gsNil))) fYes (leT 0) [3, 4] (enumD (rows.map (rowR q))) [] [.val (encR q rows), .val many, .val (.int p), .un, .un] = (mapO (fun d => some (F d)) (enumD (rows.map (rowR q)))).map fun ys => ([] ++ ys, [.val (encR q rows), .val many, .val (.int p), .un, .un]) := by
    refine lc_mapG _ _ (fun d hd => ?_) (by simp [enumD, big]; omega)
    unfold enumD at hd
    rw [List.mem_mapIdx] at hd
    obtain ⟨i, hi, rfl⟩ := hd
    have hi' : i < rows.length := by simpa using hi
    have hm : i % p < rows.length := Nat.lt_of_le_of_lt (Nat.mod_le _ _) hi'
    have gi : (rows.map (rowR q))[i] = rowR q rows[i] := by simp
    refine ⟨[.val (encR q rows), .val many, .val (.int p), .val (.int i), .val (rowR q rows[i])], ?_, ?_, rfl⟩
    · simp [gT, gsCons, gsNil, gN]
    · have k1 : okPos (i : Int) (p : Int) = true := okPos_of (by omega)
      have m1 : (i : Int) % (p : Int) = ((i % p : Nat) : Int) := by omega
      have x1 : fBin (gI okPos fun i j => .int (i % j)) (fV 3) (fV 2) [.val (encR q rows), .val many, .val (.int p), .val (.int i), .val (rowR q rows[i])] = some (.int ((i % p : Nat) : Int), [.val (encR q rows), .val many, .val (.int p), .val (.int i), .val (rowR q rows[i])]) := by
        simp only [fBin, fV, List.getElem?_cons_succ, List.getElem?_cons_zero, Option.bind_some, gI, k1, if_true, Option.map_some, m1]
      have gx : gIx (encR q rows) (.int ((i % p : Nat) : Int)) = some (rowR q rows[i % p]) := by
        show atI (rows.map (rowR q)) ((i % p : Nat) : Int) = _
        rw [atI_nat _ _ (by simpa using hm)]
        simp [hm]
      have x2 : fIxN 0 (fBin (gI okPos fun i j => .int (i % j)) (fV 3) (fV 2)) [.val (encR q rows), .val many, .val (.int p), .val (.int i), .val (rowR q rows[i])] = some (rowR q rows[i % p], [.val (encR q rows), .val many, .val (.int p), .val (.int i), .val (rowR q rows[i])]) := by
        show (if isOwn (some (Sl.val (encR q rows))) = true then _ else fBin gIx (fV 0) (fBin (gI okPos fun i j => .int (i % j)) (fV 3) (fV 2)) _) = _
        rw [if_neg (by simp [isOwn])]
        rw [fBin]
        simp only [fV, List.getElem?_cons_zero, Option.bind_some, x1, gx, Option.map_some]
      have fe : F (D.tup [.int i, rowR q rows[i]]) = .bl (decide (rows[i] = rows[i % p])) := by
        show D.bl (decide (rows[((i : Int)).toNat]? = rows[((i : Int)).toNat % p]?)) = _
        simp [hi', hm]
      rw [gi, fe]
      simp only [leT]
      rw [fBin]
      simp only [fV, List.getElem?_cons_succ, List.getElem?_cons_zero, Option.bind_some, x2, gE_rowR hq0, Option.map_some]
  have e3 : mapO (fun d => some (F d)) (enumD (rows.map (rowR q))) = some ((List.range rows.length).map fun i => .bl (decide (rows[i]? = rows[i % p]?))) := by
    rw [mapO_some (f := F) (fun _ _ => rfl)]
    congr 1
    have : (enumD (rows.map (rowR q))).map F = (rows.map (rowR q)).mapIdx fun i _ => D.bl (decide (rows[i]? = rows[i % p]?)) := by
      unfold enumD
      apply List.ext_getElem?
      intro j
      by_cases hj : j < rows.length
      · simp [hj, F]
      · simp [hj]
    rw [this, range_map (α := D)]
    simp
  have e4 : wipeE [.val (encR q rows), .val many, .val (.int p), .un, .un] [3, 4] = [Sl.val (encR q rows), .val many, .val (.int p), .un, .un] := rfl
  have e5 : fLc (fEnum (fCons (fV 0) fNil)) (gT 2 (gsCons (gN 3) (gsCons (gN 4) gsNil))) fYes (leT 0) [3, 4] [.val (encR q rows), .val many, .val (.int p), .un, .un] = some ((List.range rows.length).map (fun i => D.bl (decide (rows[i]? = rows[i % p]?))), [.val (encR q rows), .val many, .val (.int p), .un, .un]) := by
    rw [fLc, e1]
    simp only [Option.bind_some, e4, e2, e3, Option.map_some, List.nil_append]
  have e6 := all_map rows.length fun i => decide (rows[i]? = rows[i % p]?)
  simp only [fFun, fCons, fFr, e5, Option.map_some, Option.bind_some, fNil, e6, per]
theorem le_cond {q : Int} (hq : 0 < q) (rows : List (List Int)) (p : Nat) (hp : 0 < p) (hn : rows.length ≤ 1000) : leC [.val (encR q rows), .val (.int rows.length), .val (.int p), .un, .un] = some ((rows.length % p == 0 && per rows p), [.val (encR q rows), .val (.int rows.length), .val (.int p), .un, .un]) := by
  have k1 : okPos (rows.length : Int) (p : Int) = true := okPos_of (by omega)
  have m1 : (rows.length : Int) % (p : Int) = ((rows.length % p : Nat) : Int) := by omega
  have x1 : fBin gE (fBin (gI okPos fun i j => .int (i % j)) (fV 1) (fV 2)) (fC (.int 0)) [.val (encR q rows), .val (.int rows.length), .val (.int p), .un, .un] = some (.bl (rows.length % p == 0), [.val (encR q rows), .val (.int rows.length), .val (.int p), .un, .un]) := by
    have y : fBin (gI okPos fun i j => .int (i % j)) (fV 1) (fV 2) [.val (encR q rows), .val (.int rows.length), .val (.int p), .un, .un] = some (.int ((rows.length % p : Nat) : Int), [.val (encR q rows), .val (.int rows.length), .val (.int p), .un, .un]) := by
      simp only [fBin, fV, List.getElem?_cons_succ, List.getElem?_cons_zero, Option.bind_some, gI, k1, if_true, Option.map_some, m1]
    have z : decide (((rows.length % p : Nat) : Int) = 0) = (rows.length % p == 0) := by
      rw [Bool.eq_iff_iff]
      simp only [decide_eq_true_eq, beq_iff_eq]
      omega
    rw [fBin]
    simp only [y, Option.bind_some, fC, gE_int, Option.map_some, z]
  have x2 := le_all hq rows p hp hn (.int rows.length)
  simp only [leC, fAnd, fB, x1, Option.bind_some]
  by_cases h : rows.length % p = 0
  · simp only [h, beq_self_eq_true, if_true, x2, Option.bind_some, Bool.true_and]
  · have : (rows.length % p == 0) = false := by simpa using h
    simp only [this, Bool.false_eq_true, if_false, Bool.false_and]
def leB : FS := sIf leC (sRet (fFr (fSlice (fV 0) fNoPart (fPart (fV 2))))) sNil
theorem le_loop {q : Int} (hq : 0 < q) (rows : List (List Int)) (hn : rows.length ≤ 1000) : ∀ (k lo : Nat) (s : Sl), 0 < lo → lo + k ≤ rows.length → (∃ δ', loopF (gN 2) leB (intsD lo k) [.val (encR q rows), .val (.int rows.length), s, .un, .un] = some (match pickN (fun p => rows.length % p == 0 && per rows p) lo k with
    | some p => .rt (encR q (rows.take p)) δ'
    | none => .nx ([.val (encR q rows), .val (.int rows.length)] ++ δ')))
  | 0, lo, s, _, _ => ⟨[s, .un, .un], rfl⟩
  | k + 1, lo, s, h0, hk => by
    obtain ⟨δ', ih⟩ := le_loop hq rows hn k (lo + 1) (.val (.int lo)) (by omega) (by omega)
    have c := le_cond hq rows lo h0 hn
    have ei : intsD (lo : Int) (k + 1) = .int lo :: intsD ((lo + 1 : Nat) : Int) k := by
      unfold intsD
      rw [List.range_succ_eq_map, List.map_cons, List.map_map]
      have h1 : D.int ((lo : Int) + ((0 : Nat) : Int)) = .int lo := by simp
      rw [h1]
      congr 1
      apply List.map_congr_left
      intro a _
      show D.int ((lo : Int) + ((a + 1 : Nat) : Int)) = D.int (((lo + 1 : Nat) : Int) + (a : Int))
      congr 1
      omega
    have ct := cut_take (rows.map (rowR q)) lo (by simp; omega)
    have tk : (rows.map (rowR q)).take lo = (rows.take lo).map (rowR q) := by rw [List.map_take]
    rw [ei, loopF, pickN]
    simp only [gN, List.set_cons_succ, List.set_cons_zero, Option.bind_some, leB, sIf, c]
    by_cases hc : (rows.length % lo == 0 && per rows lo) = true
    · rw [if_pos hc, if_pos hc]
      refine ⟨[.val (encR q rows), .val (.int rows.length), .val (.int lo), .un, .un], ?_⟩
      simp only [sRet, fFr, fSlice, fV, fNoPart, fPart, List.getElem?_cons_zero, List.getElem?_cons_succ, Option.bind_some, Option.map_some, encR, ct, tk]
    · rw [if_neg hc, if_neg hc]
      simp only [sNil, Option.bind_some]
      exact ⟨δ', ih⟩
theorem if62 {α : Type} (i j : Int) (hi : -4611686018427387904 ≤ i) (hi2 : i < 4611686018427387904) (hj : -4611686018427387904 ≤ j) (hj2 : j < 4611686018427387904) (x y : α) : (if -(2 ^ 62) ≤ i ∧ i < 2 ^ 62 ∧ -(2 ^ 62) ≤ j ∧ j < 2 ^ 62 then x else y) = x := if_pos ⟨by omega, by omega, by omega, by omega⟩
theorem rg2_int (i j : Int) (hi : -4611686018427387904 ≤ i) (hi2 : i < 4611686018427387904) (hj : -4611686018427387904 ≤ j) (hj2 : j < 4611686018427387904) {fa : FA} {δ δ1 : List Sl} (e : fa δ = some ([.int i, .int j], δ1)) : fRg2 fa δ = some (intsD i (j - i).toNat, δ1) := by
  unfold fRg2
  rw [e]
  exact if62 i j hi hi2 hj hj2 _ _
theorem le_e2 {q : Int} (rows : List (List Int)) (hn : rows.length ≤ 1000) : fRg2 (fCons (fC (.int 1)) (fCons (fV 1) fNil)) [.val (encR q rows), .val (.int rows.length), .un, .un, .un] = some (intsD 1 (rows.length - 1), [.val (encR q rows), .val (.int rows.length), .un, .un, .un]) := by
  have z : ((rows.length : Int) - 1).toNat = rows.length - 1 := by omega
  rw [← z]
  exact rg2_int 1 rows.length (by omega) (by omega) (by omega) (by omega) rfl
theorem le_w0 {q : Int} : (sFor (fRg2 (fCons (fC (.int 1)) (fCons (fV 1) fNil))) (gN 2) leB) [.val (encR q []), .val (.int 0), .un, .un, .un] = some (.nx [.val (encR q []), .val (.int 0), .un, .un, .un]) := by
  rw [sFor, show fRg2 (fCons (fC (.int 1)) (fCons (fV 1) fNil)) [.val (encR q []), .val (.int 0), .un, .un, .un] = some ([], [.val (encR q []), .val (.int 0), .un, .un, .un]) from le_e2 (q := q) [] (by decide)]
  rfl
theorem le_e4 {q : Int} (hq : 0 < q) (rows : List (List Int)) (hn : rows.length ≤ 1000) : (sSeq (sFor (fRg2 (fCons (fC (.int 1)) (fCons (fV 1) fNil))) (gN 2) leB) (sRet (fV 0)) [.val (encR q rows), .val (.int rows.length), .un, .un, .un]).bind endD = some (encR q (least rows)) := by
  have e2 := le_e2 (q := q) rows hn
  by_cases h : rows.length = 0
  · have : rows = [] := List.length_eq_zero_iff.mp h
    subst this
    have w1 : (sFor (fRg2 (fCons (fC (.int 1)) (fCons (fV 1) fNil))) (gN 2) leB) [.val (encR q []), .val (.int ([] : List (List Int)).length), .un, .un, .un] = some (.nx [.val (encR q []), .val (.int 0), .un, .un, .un]) := le_w0
    rw [sSeq, w1]
    have : least ([] : List (List Int)) = [] := by decide
    rw [this]
    simp only [sRet, fV, List.getElem?_cons_zero, Option.map_some, Option.bind_some, endD]
  · obtain ⟨δ', lp⟩ := le_loop hq rows hn (rows.length - 1) 1 .un (by omega) (by omega)
    unfold least
    generalize pickN (fun p => rows.length % p == 0 && per rows p) 1 (rows.length - 1) = o at lp ⊢
    have w1 : (sFor (fRg2 (fCons (fC (.int 1)) (fCons (fV 1) fNil))) (gN 2) leB) [.val (encR q rows), .val (.int rows.length), .un, .un, .un] = some (match (generalizing := false) o with
      | some p => .rt (encR q (rows.take p)) δ'
      | none => .nx ([.val (encR q rows), .val (.int rows.length)] ++ δ')) := by
      rw [sFor, e2]
      exact lp
    rw [sSeq, w1]
    cases o with
    | some p => simp [endD]
    | none => simp [sRet, fV, endD]
theorem le_e1 (q : Int) (rows : List (List Int)) : sSet 1 (fLenN 0) [.val (encR q rows), .un, .un, .un, .un] = some (.nx [.val (encR q rows), .val (.int rows.length), .un, .un, .un]) := by
  simp [sSet, fLenN, isOwn, fFun, funLen, fCons, fNil, fV]
theorem seq_nx {g h : FS} {a b : List Sl} (e : g a = some (.nx b)) : sSeq g h a = h b := by
  rw [sSeq, e]
  rfl
theorem p_least {q : Int} (hq : 0 < q) (rows : List (List Int)) (hn : rows.length ≤ 1000) : G_least [encR q rows] = some (encR q (least rows)) := by
  have := le_e4 hq rows hn
  rw [← seq_nx (h := (sSeq (sFor (fRg2 (fCons (fC (.int 1)) (fCons (fV 1) fNil))) (gN 2) leB) (sRet (fV 0)))) (le_e1 q rows)] at this
  exact this
end My
namespace My
open PySem PySem.Spec PyProof.Rows L2 ClX Dl
/-! courses -/

/-- a number that is printed short -/
def Elt (x : D) : Prop := x = x
inductive Given (q : Int) : List (List Int) → List D → Prop
  | nil : Given q [] []
  | cons {ts : List Int} {d : D} {ds : List D} {rows : List (List Int)} {ps : List D} (h : Sq d ds) (hn : Nums q ts ds) (hl : ts.length ≤ 8) (he : ∀ x, x ∈ ds → Elt x) (hs : Given q rows ps) : Given q (ts :: rows) (d :: ps)
theorem Given.len {q : Int} {rows : List (List Int)} {ps : List D} (h : Given q rows ps) : rows.length = ps.length := by induction h with | nil => rfl | cons _ _ _ _ _ ih => simp [ih]
theorem Given.app {q : Int} {r1 r2 : List (List Int)} {p1 p2 : List D} (h : Given q r1 p1) (k : Given q r2 p2) : Given q (r1 ++ r2) (p1 ++ p2) := by induction h with | nil => exact k | cons a b c e _ ih => exact .cons a b c e ih
theorem Given.mem {q : Int} {rows : List (List Int)} {ps : List D} (h : Given q rows ps) : ∀ d, d ∈ ps → ∃ ts ds, Sq d ds ∧ Nums q ts ds ∧ ts.length ≤ 8 ∧ ∀ x, x ∈ ds → Elt x := by
  induction h with
  | nil => intro d hd; cases hd
  | cons a b c e _ ih =>
    intro d hd
    cases hd with
    | head => exact ⟨_, _, a, b, c, e⟩
    | tail _ h => exact ih d h
theorem mapO_const {h : D → Option D} {y : D} : ∀ {ds : List D}, (∀ d, d ∈ ds → h d = some y) → mapO h ds = some (List.replicate ds.length y)
  | [], _ => rfl
  | d :: ds, hh => by simp [mapO, hh d (List.mem_cons_self ..), mapO_const (fun x hx => hh x (List.mem_cons_of_mem _ hx)), List.replicate_succ]
def apE : FE := fAndV (fCall G_is_list (gPos []) (fCons (fV 1) fNil) fNil) (fAndV (fBin (gI0 fun i j => .bl (decide (i ≤ j))) (fLenN 1) (fC (.int 8))) (fCall G_are_numbers (gPos []) (fCons (fV 1) (fCons (fLenN 1) fNil)) fNil))
theorem call2 {F : List D → Option D} {fa fb : FE} {δ : Es} {a b r : D} (ha : fa δ = some (a, δ)) (hb : fb δ = some (b, δ)) (hF : F [a, b] = some r) : fCall F (gPos []) (fCons fa (fCons fb fNil)) fNil δ = some (r, δ) := by
  simp only [fCall, fCons, fNil, ha, hb, Option.bind_some, Option.map_some, gPos, List.append_nil, hF]
theorem call1 {F : List D → Option D} {fa : FE} {δ : Es} {a r : D} (ha : fa δ = some (a, δ)) (hF : F [a] = some r) : fCall F (gPos []) (fCons fa fNil) fNil δ = some (r, δ) := by
  simp only [fCall, fCons, fNil, ha, Option.bind_some, Option.map_some, gPos, List.append_nil, hF]
theorem and_t {f g : FE} {δ : Es} {x : D} (hf : f δ = some (.bl true, δ)) (hg : g δ = some (x, δ)) : fAndV f g δ = some (x, δ) := by
  simp only [fAndV, fB, hf, Option.bind_some, Option.map_some, if_true, hg]
theorem ap_elt {q : Int} {p d : D} {ts : List Int} {ds : List D} (h : Sq d ds) (hn : Nums q ts ds) (hl : ts.length ≤ 8) : apE [.val p, .val d] = some (.bl true, [.val p, .val d]) := by
  have e3 := fLenN_val (i := 1) (δ := [.val p, .val d]) h rfl
  have l1 := hn.len
  have k : decide ((ds.length : Int) ≤ 8) = true := decide_eq_true (by omega)
  refine and_t (call1 (a := d) rfl (p_is_listS h)) (and_t ?_ (call2 (a := d) rfl e3 (p_are_numbers h hn (by omega))))
  simp only [fBin, e3, fC, Option.bind_some, gI0, gI, if_true, Option.map_some, k]
theorem p_are_parts {q : Int} {rows : List (List Int)} {p : D} {ps : List D} (hp : Sq p ps) (h : Given q rows ps) (h1 : 1 ≤ rows.length) (h2 : rows.length ≤ 60) : G_are_parts [p] = some (.bl true) := by
  have hl := h.len
  have e0 := p_is_listS hp
  have e3 := fLenN_val (i := 0) (δ := [.val p, .un]) hp rfl
  have e1 : fLc (fSq (fV 0)) (gN 1) fYes apE [1] [.val p, .un] = (mapO (fun _ => some (.bl true)) ps).map fun ys => (ys, [.val p, .un]) :=
    flc (fSq_val hp rfl) rfl (fun x hx => by
      obtain ⟨ts, ds, a, b, c, _⟩ := h.mem x hx
      exact ap_elt a b c) (by unfold big; omega)
  rw [mapO_const (fun _ _ => rfl)] at e1
  have k1 : decide ((1 : Int) ≤ (ps.length : Int)) = true := decide_eq_true (by omega)
  have k2 : decide ((ps.length : Int) ≤ 60) = true := decide_eq_true (by omega)
  have a1 : (sIf (fOr (fNot (fB (fCall G_is_list (gPos []) (fCons (fV 0) fNil) fNil))) (fNot (fB (fChain (gI0 fun i j => .bl (decide (i ≤ j))) (gI0 fun i j => .bl (decide (i ≤ j))) (fC (.int 1)) (fLenN 0) (fC (.int 60)))))) (sRet (fC (.bl false))) sNil) [.val p, .un] = some (.nx [.val p, .un]) := by
    simp only [sIf, fOr, fNot, fB, call1 (F := G_is_list) (δ := [.val p, .un]) (fa := fV 0) rfl e0, fChain, fC, e3, Option.bind_some, Option.map_some, gI0, gI, if_true, k1, k2, sNil, Bool.not_true, Bool.false_eq_true, if_false]
  have a2 : (sRet (fFun funAll (fCons (fFr (fLc (fSq (fV 0)) (gN 1) fYes apE [1])) fNil))) [.val p, .un] = some (.rt (.bl true) [.val p, .un]) := by
    simp only [sRet, fFun, fCons, fFr, e1, Option.map_some, Option.bind_some, fNil, all_true]
  have a3 : (sSeq (sIf (fOr (fNot (fB (fCall G_is_list (gPos []) (fCons (fV 0) fNil) fNil))) (fNot (fB (fChain (gI0 fun i j => .bl (decide (i ≤ j))) (gI0 fun i j => .bl (decide (i ≤ j))) (fC (.int 1)) (fLenN 0) (fC (.int 60)))))) (sRet (fC (.bl false))) sNil) (sRet (fFun funAll (fCons (fFr (fLc (fSq (fV 0)) (gN 1) fYes apE [1])) fNil))) [.val p, .un]).bind endD = some (.bl true) := by
    rw [seq_nx a1, a2]
    rfl
  exact a3
theorem part_row {q : Int} (hq : 0 < q) {d : D} {ts : List Int} {ds : List D} (h : Sq d ds) (hn : Nums q ts ds) (hl : ts.length ≤ 8) : partF d = some (rowR q (trim ts)) := by
  have l1 := hn.len
  have hz : ds.length ≤ 1000 := by omega
  unfold partF
  rw [h.items, Option.bind_some, if_pos hz, map_as hq hn, Option.bind_some]
  exact p_trimmed hq ts
theorem parts_rows {q : Int} (hq : 0 < q) {rows : List (List Int)} {ps : List D} (h : Given q rows ps) : mapO partF ps = some ((rows.map trim).map (rowR q)) := by
  induction h with
  | nil => rfl
  | cons a b c e _ ih => simp only [mapO, part_row hq a b c, ih, Option.bind_some, Option.map_some, List.map_cons]
/-- the course of rows -/
abbrev crs (q : Int) (rows : List (List Int)) : D := .obj 1 [encR q rows]
theorem p_course {q : Int} (hq : 0 < q) {rows : List (List Int)} {p : D} {ps : List D} (hp : Sq p ps) (h : Given q rows ps) (h1 : 1 ≤ rows.length) (h2 : rows.length ≤ 60) : G_Course_init [p] = some [encR q (least (rows.map trim))] := by
  have hl := h.len
  have hz : ps.length ≤ 1000 := by omega
  have e := p_least hq (rows.map trim) (by simp; omega)
  have k := p_are_parts hp h h1 h2
  rw [G_Course_init, k]
  show ((itemsD p).bind fun ds => if ds.length ≤ 1000 then (mapO partF ds).bind fun ys => (G_least [.lst ys]).map fun q => [q] else none) = _
  rw [hp.items, Option.bind_some, if_pos hz, parts_rows hq h, Option.bind_some, e]
  rfl
theorem p_period (q : Int) (rows : List (List Int)) : G_Course_period [crs q rows] = some (.int rows.length) := by
  simp [G_Course_period, outD, g_Course_period, sRet, fFun, fCons, fFld, fV, ini, fNil, funLen, endD]
theorem intsOf_map (l : List Int) : intsOf (l.map D.int) = some l := by induction l with | nil => rfl | cons a l ih => simp [intsOf, ih]
/-- the length of the longest -/
def degO (rows : List (List Int)) : Option D := (topOf (rows.map fun r => (r.length : Int))).map fun m => .int (m - 1)
theorem lens_lc {α : Type} {f : α → D} {g : α → List D} {fI : FA} {i : Nat} {δ : Es} (hf : ∀ a, f a = .lst (g a)) (rows : List α) (hI : fI δ = some (rows.map f, δ)) (hi : δ[i]? = some .un) (hl : rows.length ≤ 1000) : fLc fI (gN i) fYes (fLenN i) [i] δ = some ((rows.map fun r => D.int (g r).length), δ) := by
  let h : D → D := fun d => match d with
    | .lst xs => .int xs.length
    | _ => .non
  have e := flc (h := fun d => some (h d)) (fe := fLenN i) hI hi (fun d hd => by
    obtain ⟨r, _, rfl⟩ := List.mem_map.mp hd
    rw [hf]
    have hs : (δ.set i (.val (.lst (g r))))[i]? = some (.val (.lst (g r))) := List.getElem?_set_self (List.getElem?_eq_some_iff.mp hi).1
    exact fLenN_val (i := i) (Or.inl rfl) hs) (by unfold big; simp; omega)
  rw [e, mapO_some (f := h) (fun _ _ => rfl)]
  simp [hf, h, Function.comp_def]
theorem max_lens {X : FA} {δ : Es} {α : Type} (rows : List (List α)) (hX : X δ = some ((rows.map fun r => D.int r.length), δ)) : fBin (gI0 fun i j => .int (i - j)) (fFun funMaxL (fCons (fFr X) fNil)) (fC (.int 1)) δ = ((topOf (rows.map fun r => (r.length : Int))).map fun m => D.int (m - 1)).map fun d => (d, δ) := by
  have e2 := intsOf_map (rows.map fun r => (r.length : Int))
  simp only [List.map_map, Function.comp_def] at e2
  simp only [fBin, fFun, fCons, fFr, hX, Option.map_some, Option.bind_some, fNil, funMaxL, e2]
  cases topOf (rows.map fun r => (r.length : Int)) with
  | none => rfl
  | some m => simp [gI0, gI, fC]
theorem out1 {m : Nat} {fe : FE} {ds : List D} {d : Option D} {δ : Es} (h : fe (ini m ds) = d.map fun d => (d, δ)) : outD m (sRet fe) ds = d := by
  simp only [outD, sRet, h]
  cases d <;> rfl
theorem lcN_map {q : Int} {δ : Es} (hi : δ[1]? = some .un) : ∀ (rows : List (List Int)) (acc : List (List D)), acc.length + rows.length ≤ big → lcN (gN 1) fYes (fLof (fCons (fV 1) fNil)) [1] (rows.map (rowR q)) acc δ = some (acc ++ rows.map (fun ts => ts.map (mk q)), δ)
  | [], acc, _ => by simp [lcN]
  | r :: rows, acc, h => by
    simp only [List.length_cons] at h
    have ih := lcN_map (q := q) hi rows (acc ++ [r.map (mk q)]) (by simp; omega)
    have hb : acc.length ≤ big := by omega
    have hs : (δ.set 1 (.val (rowR q r)))[1]? = some (.val (rowR q r)) := List.getElem?_set_self (List.getElem?_eq_some_iff.mp hi).1
    simp only [List.map_cons, lcN, gN, fYes, Option.bind_some, if_true, fLof, fCons, fV, hs, fNil, hb, wipe1 hi, ih, List.append_assoc, List.cons_append, List.nil_append, Option.map_some]
def rowAt (rows : List (List Int)) (w : Int) : List Int := (rows[(w % (rows.length : Int)).toNat]?).getD []
theorem p_check (w : Int) : G_check_whole [.int w] = some .non := rfl
theorem ix_row {α : Type} {f : α → D} (rows : List α) (w : Int) (h : 0 < rows.length) : ∃ r, rows[(w % (rows.length : Int)).toNat]? = some r ∧ r ∈ rows ∧ gIx (.lst (rows.map f)) (.int (w % (rows.length : Int))) = some (f r) := by
  have m0 : 0 ≤ w % (rows.length : Int) := Int.emod_nonneg _ (by omega)
  have m1 : w % (rows.length : Int) < rows.length := Int.emod_lt_of_pos _ (by omega)
  have hj : (w % (rows.length : Int)).toNat < rows.length := by omega
  refine ⟨rows[(w % (rows.length : Int)).toNat], List.getElem?_eq_getElem hj, List.getElem_mem hj, ?_⟩
  show atI (rows.map f) (w % (rows.length : Int)) = _
  have z : w % (rows.length : Int) = ((w % (rows.length : Int)).toNat : Int) := by omega
  have e := atI_nat (rows.map f) (w % (rows.length : Int)).toNat (by simpa using hj)
  rw [← z] at e
  rw [e]
  simp [hj]
theorem p_at {q w : Int} (hq : 0 < q) (bq : Bd q 20) (bw : Bd w 100) {rows : List (List Int)} (h : 0 < rows.length) (ht : ∀ r, r ∈ rows → r.length ≤ 12 ∧ ∀ t, t ∈ r → Bd t 100) : G_Course_at [crs q rows, .int w] = some (mk q (hor w (rowAt rows w))) := by
  obtain ⟨r, e1, hr, e2⟩ := ix_row (f := rowR q) rows w h
  have ew := p_worth hq bq bw (ht r hr).2 (ht r hr).1
  have er : rowAt rows w = r := by unfold rowAt; rw [e1]; rfl
  have k1 : okPos w (rows.length : Int) = true := okPos_of (by omega)
  have x1 : fBin gIx (fFld 1 0 (fV 0)) (fBin (gI okPos fun i j => .int (i % j)) (fV 1) (fFun funLen (fCons (fFld 1 0 (fV 0)) fNil))) [.val (crs q rows), .val (.int w)] = some (rowR q r, [.val (crs q rows), .val (.int w)]) := by
    simp only [fBin, fFld, fV, fFun, fCons, fNil, funLen, List.getElem?_cons_zero, List.getElem?_cons_succ, Option.bind_some, Option.map_some, if_true, gI, List.length_map, k1, e2]
  have x2 : fCall G_worth (gPos []) (fCons (fBin gIx (fFld 1 0 (fV 0)) (fBin (gI okPos fun i j => .int (i % j)) (fV 1) (fFun funLen (fCons (fFld 1 0 (fV 0)) fNil)))) (fCons (fV 1) fNil)) fNil [.val (crs q rows), .val (.int w)] = some (mk q (hor w r), [.val (crs q rows), .val (.int w)]) := call2 x1 rfl ew
  have x3 : sExpr (fCall G_check_whole (gPos []) (fCons (fV 1) fNil) fNil) [.val (crs q rows), .val (.int w)] = some (.nx [.val (crs q rows), .val (.int w)]) := by
    rw [sExpr, call1 (a := .int w) rfl (p_check w)]
    rfl
  show (g_Course_at [.val (crs q rows), .val (.int w)]).bind endD = _
  rw [g_Course_at, seq_nx x3, sRet, x2, er]
  rfl
theorem p_eqC {q : Int} (hq : 0 < q) (rows rows' : List (List Int)) : G_Course_eq [crs q rows, crs q rows'] = some (.bl (decide (rows = rows'))) := by
  have e := gE_rowsR (q := q) (by omega) rows rows'
  have x1 : fBin gE (fFld 1 0 (fV 0)) (fFld 1 0 (fV 1)) [.val (crs q rows), .val (crs q rows')] = some (.bl (decide (rows = rows')), [.val (crs q rows), .val (crs q rows')]) := by
    simp only [fBin, fFld, fV, List.getElem?_cons_zero, List.getElem?_cons_succ, Option.bind_some, Option.map_some, if_true, e]
  have x2 : fIsi (pObj 1) (fV 1) [.val (crs q rows), .val (crs q rows')] = some (.bl true, [.val (crs q rows), .val (crs q rows')]) := rfl
  exact out1 (d := some (.bl (decide (rows = rows')))) (and_t x2 x1)
theorem and_f {f g : FE} {δ : Es} (hf : f δ = some (.bl false, δ)) : fAndV f g δ = some (.bl false, δ) := by
  simp only [fAndV, fB, hf, Option.bind_some, Option.map_some, Bool.false_eq_true, if_false]
theorem p_eqN {x d : D} (h : isC d = false) (h2 : pObj 1 d = false) : G_Course_eq [x, d] = some (.bl false) := by
  have x2 : fIsi (pObj 1) (fV 1) [.val x, .val d] = some (.bl false, [.val x, .val d]) := by
    simp only [fIsi, fV, List.getElem?_cons_zero, List.getElem?_cons_succ, Option.bind_some, h, h2, if_true]
  exact out1 (d := some (.bl false)) (and_f x2)
end My
namespace My
open PySem PySem.Spec PyProof.Rows L2 ClX Dl
/-! the law's own draws -/
theorem pow18 : okPow 10 18 = true := by decide +kernel
theorem pow3 : okPow 67 3 = true := by decide +kernel
theorem pot_tail (cell : Int) : ∃ y : Int, okMul (cell % 2147483549 + 89) 300763 = true ∧ y = (cell % 2147483549 + 89) * 300763 % 2147483477 + 1 ∧ 0 ≤ y ∧ Bd y 40 := by
  have c0 : 0 ≤ cell % 2147483549 := Int.emod_nonneg _ (by decide)
  have c1 : cell % 2147483549 < 2147483549 := Int.emod_lt_of_pos _ (by decide)
  have y0 : 0 ≤ (cell % 2147483549 + 89) * 300763 % 2147483477 := Int.emod_nonneg _ (by decide)
  have y1 : (cell % 2147483549 + 89) * 300763 % 2147483477 < 2147483477 := Int.emod_lt_of_pos _ (by decide)
  exact ⟨_, mul_ok ((bd_of (n := 40) 2147484000 (by omega) (by omega) (by decide)).mono (by decide)) ((bd_of (x := 300763) (n := 20) 300800 (by decide) (by decide) (by decide)).mono (by decide)), rfl, by omega, bd_of 2147483544 (by omega) (by omega) (by decide)⟩
theorem gix0 (x : Int) (r : List Int) : atI (x :: r) 0 = some x := by simp [atI, ixN]
theorem cut1 (x : D) (r : List D) : Dl.cutD (x :: r) none (some 1) = [x] := by
  have := cut_take (x :: r) 1 (by simp)
  simpa using this
theorem cut1n : Dl.cutD ([] : List D) none (some 1) = [] := by decide
theorem p_pot (ns : List Int) : ∃ l, G_law_pot [.scr ns, .int 0] = some l ∧ Pot l := by
  have z1 : okMul 359 0 = true := by decide +kernel
  have z2 : okMul 2 0 = true := by decide +kernel
  have k1 : ∀ i : Int, okPos i 2147483549 = true := fun i => okPos_of (by decide)
  have k2 : ∀ i : Int, okPos i 2147483477 = true := fun i => okPos_of (by decide)
  have k3 : ∀ i : Int, okPos i 1000003 = true := fun i => okPos_of (by decide)
  have g2 : 2 ≤ big := by decide
  cases ns with
  | nil =>
    obtain ⟨y, m, e, y0, yb⟩ := pot_tail 733
    refine ⟨[.int (if 733 - 10 ^ 18 > (0 : Int) then 733 - 10 ^ 18 else 0), .int y], ?_, ⟨_, _, rfl, y0, yb⟩⟩
    simp [G_law_pot, outF, g_law_pot, sSeqF, sSeq, sIf, fNot, fAnd, fOr, fB, fCall, fCons, fNil, fV, ini, gPos, sNo, sNil, fBin, Dl.gOr, gEqF, gNeF, litV, scal, sSet, fFun, gI0, gI, gRep, fC, endD, endP, fFld, fProp, sRet, fIf, fUn, gNeg, uOr, fAndV, fOrV, fNotV, fIsi, isC, pObj, gAdd0, gCatS, gCatL, fTup, fLst, fFr, Option.bind_some, Option.map_some, Option.bind_none, z1, z2, k1, k2, k3, m, e, pow18, pow3, funLenR, gIxS, funMax2, funInt, fun1I, g2, funSum, fSliceS, fNoPart, fPart, cut1n, intsOf] at m ⊢
  | cons x r =>
    obtain ⟨y, m, e, y0, yb⟩ := pot_tail (if x < 0 then -x else x)
    refine ⟨[.int (if (if x < 0 then -x else x) - 10 ^ 18 > (0 : Int) then (if x < 0 then -x else x) - 10 ^ 18 else 0), .int y], ?_, ⟨_, _, rfl, y0, yb⟩⟩
    generalize hc : (if x < 0 then -x else x) = cell at *
    have at0 := gix0 x r
    simp [G_law_pot, outF, g_law_pot, sSeqF, sSeq, sIf, fNot, fAnd, fOr, fB, fCall, fCons, fNil, fV, ini, gPos, sNo, sNil, fBin, Dl.gOr, gEqF, gNeF, litV, scal, sSet, fFun, gI0, gI, gRep, fC, endD, endP, fFld, fProp, sRet, fIf, fUn, gNeg, uOr, fAndV, fOrV, fNotV, fIsi, isC, pObj, gAdd0, gCatS, gCatL, fTup, fLst, fFr, Option.bind_some, Option.map_some, Option.bind_none, z1, z2, k1, k2, k3, m, e, pow18, pow3, funLenR, gIxS, funMax2, funInt, fun1I, g2, at0, hc, funSum, fSliceS, fNoPart, fPart, cut1, intsOf]
theorem callP_eq {F : List D → List D → Option (D × List D)} {fa : FA} {l l' : List D} {r : Es} {ds : List D} {d : D} (hfa : fa (.own .pot l :: r) = some (ds, .own .pot l :: r)) (hF : F l ds = some (d, l')) : fCallP 0 F fa (.own .pot l :: r) = some (d, .own .pot l' :: r) := by
  simp [fCallP, isOwn, hfa, isL, hF]
theorem rg1_int (j : Int) (hj : -4611686018427387904 ≤ j) (hj2 : j < 4611686018427387904) {fa : FA} {δ δ1 : List Sl} (e : fa δ = some ([.int j], δ1)) : fRg1 fa δ = some (intsD 0 j.toNat, δ1) := by
  unfold fRg1
  rw [e]
  exact if_pos ⟨by omega, by omega⟩
theorem intsD_len (i : Int) (n : Nat) : (intsD i n).length = n := by simp [intsD]
abbrev ownD (q : Int) (rows : List (List Int)) : D := .tup [.int q, .lst (rows.map rowI)]
def Small (r : List Int) : Prop := r.length ≤ 3 ∧ ∀ t, t ∈ r → -3 ≤ t ∧ t ≤ 3
def inB : FS := sApp 5 (fBin (gI0 fun i j => .int (i - j)) (fCallP 0 G_law_draw (fCons (fC (.int 7)) fNil)) (fC (.int 3)))
theorem lc_in {a b c d : Sl} : ∀ (ds : List D) (l : List D) (P : Pot l) (ts : List Int) (s6 : Sl), ts.length + ds.length ≤ 1000 → ∃ l' us s6', loopF (gN 6) inB ds [.own .pot l, a, b, c, d, .own .mine (ts.map D.int), s6] = some (.nx [.own .pot l', a, b, c, d, .own .mine ((ts ++ us).map D.int), s6']) ∧ us.length = ds.length ∧ (∀ t, t ∈ us → -3 ≤ t ∧ t ≤ 3) ∧ Pot l'
  | [], l, P, ts, s6, _ => ⟨l, [], s6, by simp [loopF], rfl, fun _ h => by simp at h, P⟩
  | x :: ds, l, P, ts, s6, h => by
    simp only [List.length_cons] at h
    obtain ⟨n, l1, e1, n0, n1, P1⟩ := p_draw (n := 7) P (by decide) (bd_of 8 (by decide) (by decide) (by decide))
    obtain ⟨l2, us, s2, e2, hl, hb, P2⟩ := lc_in ds l1 P1 (ts ++ [n - 3]) (.val x) (by simp; omega)
    have hb1 : ts.length ≤ big := by unfold big; omega
    have c1 : fCallP 0 G_law_draw (fCons (fC (.int 7)) fNil) [.own .pot l, a, b, c, d, .own .mine (ts.map D.int), .val x] = some (.int n, [.own .pot l1, a, b, c, d, .own .mine (ts.map D.int), .val x]) := callP_eq rfl e1
    have b1 : inB [.own .pot l, a, b, c, d, .own .mine (ts.map D.int), .val x] = some (.nx [.own .pot l1, a, b, c, d, .own .mine ((ts ++ [n - 3]).map D.int), .val x]) := by
      simp [inB, sApp, isOwnL, isL, fBin, c1, fC, gI0, gI, hb1]
    refine ⟨l2, (n - 3) :: us, s2, ?_, by simp [hl], ?_, P2⟩
    · rw [loopF]
      simp only [gN, List.set_cons_succ, List.set_cons_zero, Option.bind_some, b1]
      rw [e2]
      simp
    · intro t ht
      rcases List.mem_cons.mp ht with rfl | ht
      · omega
      · exact hb t ht
def outB : FS := sSeq (sOwn 5 (fLst fNil)) (sSeq (sFor (fRg1 (fCons (fCallP 0 G_law_draw (fCons (fBin gAdd0 (fV 2) (fC (.int 2))) fNil)) fNil)) (gN 6) inB) (sApp 3 (fV 5)))
theorem lc_row {a c : Sl} {l : List D} (P : Pot l) (s4 s5 s6 : Sl) : ∃ l' r s6', (sSeq (sOwn 5 (fLst fNil)) (sFor (fRg1 (fCons (fCallP 0 G_law_draw (fCons (fBin gAdd0 (fV 2) (fC (.int 2))) fNil)) fNil)) (gN 6) inB)) [.own .pot l, a, .val (.int 2), c, s4, s5, s6] = some (.nx [.own .pot l', a, .val (.int 2), c, s4, .own .mine (r.map D.int), s6']) ∧ Small r ∧ Pot l' := by
  obtain ⟨n, l1, e1, n0, n1, P1⟩ := p_draw (n := 4) P (by decide) (bd_of 8 (by decide) (by decide) (by decide))
  obtain ⟨l2, r, s2, e2, hl, hb, P2⟩ := lc_in (a := a) (b := .val (.int 2)) (c := c) (d := s4) (intsD 0 n.toNat) l1 P1 [] s6 (by rw [intsD_len]; simp; omega)
  rw [intsD_len] at hl
  have c1 : fCallP 0 G_law_draw (fCons (fBin gAdd0 (fV 2) (fC (.int 2))) fNil) [.own .pot l, a, .val (.int 2), c, s4, .own .mine [], s6] = some (.int n, [.own .pot l1, a, .val (.int 2), c, s4, .own .mine [], s6]) := callP_eq rfl e1
  have c2 : fCons (fCallP 0 G_law_draw (fCons (fBin gAdd0 (fV 2) (fC (.int 2))) fNil)) fNil [.own .pot l, a, .val (.int 2), c, s4, .own .mine [], s6] = some ([.int n], [.own .pot l1, a, .val (.int 2), c, s4, .own .mine [], s6]) := by
    rw [fCons, c1]; rfl
  have c3 := rg1_int n (by omega) (by omega) c2
  have o1 : sOwn 5 (fLst fNil) [.own .pot l, a, .val (.int 2), c, s4, s5, s6] = some (.nx [.own .pot l, a, .val (.int 2), c, s4, .own .mine [], s6]) := by simp [sOwn, fLst, fNil]
  refine ⟨l2, r, s2, ?_, ⟨by omega, hb⟩, P2⟩
  rw [seq_nx o1, sFor, c3]
  exact e2
theorem seq_seq (f g h : FS) (δ : Es) : sSeq f (sSeq g h) δ = sSeq (sSeq f g) h δ := by
  unfold sSeq
  cases f δ with
  | none => rfl
  | some r => cases r <;> rfl
theorem lc_out {a : Sl} : ∀ (ds : List D) (l : List D) (P : Pot l) (rows : List (List Int)) (s4 s5 s6 : Sl), rows.length + ds.length ≤ 1000 → ∃ l' rs s4' s5' s6', loopF (gN 4) outB ds [.own .pot l, a, .val (.int 2), .own .mine (rows.map rowI), s4, s5, s6] = some (.nx [.own .pot l', a, .val (.int 2), .own .mine ((rows ++ rs).map rowI), s4', s5', s6']) ∧ rs.length = ds.length ∧ (∀ r, r ∈ rs → Small r) ∧ Pot l'
  | [], l, P, rows, s4, s5, s6, _ => ⟨l, [], s4, s5, s6, by simp [loopF], rfl, fun _ h => by simp at h, P⟩
  | x :: ds, l, P, rows, s4, s5, s6, h => by
    simp only [List.length_cons] at h
    obtain ⟨l1, r, s1, e1, hr, P1⟩ := lc_row (a := a) (c := .own .mine (rows.map rowI)) P (.val x) s5 s6
    obtain ⟨l2, rs, t4, t5, t6, e2, hl, hb, P2⟩ := lc_out ds l1 P1 (rows ++ [r]) (.val x) (.val (rowI r)) s1 (by simp; omega)
    have hb1 : rows.length ≤ big := by unfold big; omega
    have b1 : outB [.own .pot l, a, .val (.int 2), .own .mine (rows.map rowI), .val x, s5, s6] = some (.nx [.own .pot l1, a, .val (.int 2), .own .mine ((rows ++ [r]).map rowI), .val x, .val (rowI r), s1]) := by
      rw [outB, seq_seq, seq_nx e1]
      simp [sApp, isOwnL, isL, fV, hb1]
    refine ⟨l2, r :: rs, t4, t5, t6, ?_, by simp [hl], ?_, P2⟩
    · rw [loopF]
      simp only [gN, List.set_cons_succ, List.set_cons_zero, Option.bind_some, b1]
      rw [e2]
      simp
    · intro t ht
      rcases List.mem_cons.mp ht with rfl | ht
      · exact hr
      · exact hb t ht
theorem p_lcourse {l : List D} (P : Pot l) {m : Int} (h1 : 1 ≤ m) (h2 : m ≤ 6) : ∃ q rows l', G_law_course l [.int m, .int 2] = some (ownD q rows, l') ∧ (q = 1 ∨ q = 2 ∨ q = 3) ∧ 1 ≤ rows.length ∧ rows.length ≤ 6 ∧ (∀ r, r ∈ rows → Small r) ∧ Pot l' := by
  obtain ⟨n, l1, e1, n0, n1, P1⟩ := p_draw (n := m) P (by omega) (bd_of 8 (by omega) (by omega) (by decide))
  obtain ⟨l2, rows, t4, t5, t6, e2, hl, hb, P2⟩ := lc_out (a := .val (.int m)) (intsD 0 (1 + n).toNat) l1 P1 [] .un .un .un (by rw [intsD_len]; simp; omega)
  rw [intsD_len] at hl
  obtain ⟨x, l3, e3, hx, P3⟩ := p_pick (ds := [.int 1, .int 1, .int 2, .int 3]) P2 (by decide) (by decide)
  obtain ⟨q, rfl, hq⟩ : ∃ q : Int, x = .int q ∧ (q = 1 ∨ q = 2 ∨ q = 3) := by
    simp only [List.mem_cons, List.not_mem_nil, or_false] at hx
    rcases hx with rfl | rfl | rfl | rfl
    · exact ⟨1, rfl, .inl rfl⟩
    · exact ⟨1, rfl, .inl rfl⟩
    · exact ⟨2, rfl, .inr (.inl rfl)⟩
    · exact ⟨3, rfl, .inr (.inr rfl)⟩
  refine ⟨q, rows, l3, ?_, hq, by omega, by omega, hb, P3⟩
  have o1 : sOwn 3 (fLst fNil) [.own .pot l, .val (.int m), .val (.int 2), .un, .un, .un, .un] = some (.nx [.own .pot l, .val (.int m), .val (.int 2), .own .mine [], .un, .un, .un]) := by simp [sOwn, fLst, fNil]
  have c1 : fCallP 0 G_law_draw (fCons (fV 1) fNil) [.own .pot l, .val (.int m), .val (.int 2), .own .mine [], .un, .un, .un] = some (.int n, [.own .pot l1, .val (.int m), .val (.int 2), .own .mine [], .un, .un, .un]) := callP_eq rfl e1
  have c2 : fCons (fBin gAdd0 (fC (.int 1)) (fCallP 0 G_law_draw (fCons (fV 1) fNil))) fNil [.own .pot l, .val (.int m), .val (.int 2), .own .mine [], .un, .un, .un] = some ([.int (1 + n)], [.own .pot l1, .val (.int m), .val (.int 2), .own .mine [], .un, .un, .un]) := by
    rw [fCons, fBin]
    simp only [fC, Option.bind_some, c1]
    rfl
  have c3 := rg1_int (1 + n) (by omega) (by omega) c2
  have f1 : sFor (fRg1 (fCons (fBin gAdd0 (fC (.int 1)) (fCallP 0 G_law_draw (fCons (fV 1) fNil))) fNil)) (gN 4) outB [.own .pot l, .val (.int m), .val (.int 2), .own .mine [], .un, .un, .un] = some (.nx [.own .pot l2, .val (.int m), .val (.int 2), .own .mine (rows.map rowI), t4, t5, t6]) := by
    rw [sFor, c3]
    exact e2
  have c4 : fCallP 0 G_law_pick (fCons (fFr (fLst (fCons (fC (.int 1)) (fCons (fC (.int 1)) (fCons (fC (.int 2)) (fCons (fC (.int 3)) fNil)))))) fNil) [.own .pot l2, .val (.int m), .val (.int 2), .own .mine (rows.map rowI), t4, t5, t6] = some (.int q, [.own .pot l3, .val (.int m), .val (.int 2), .own .mine (rows.map rowI), t4, t5, t6]) := callP_eq rfl e3
  have r1 : (sRet (fTup (fCons (fCallP 0 G_law_pick (fCons (fFr (fLst (fCons (fC (.int 1)) (fCons (fC (.int 1)) (fCons (fC (.int 2)) (fCons (fC (.int 3)) fNil)))))) fNil)) (fCons (fV 3) fNil)))) [.own .pot l2, .val (.int m), .val (.int 2), .own .mine (rows.map rowI), t4, t5, t6] = some (.rt (ownD q rows) [.own .pot l3, .val (.int m), .val (.int 2), .val (.lst (rows.map rowI)), t4, t5, t6]) := by
    simp [sRet, fTup, fCons, c4, fV, fNil, show 2 ≤ big by decide]
  show (g_law_course [.own .pot l, .val (.int m), .val (.int 2), .un, .un, .un, .un]).bind endP = _
  have g1 : g_law_course = sSeq (sOwn 3 (fLst fNil)) (sSeq (sFor (fRg1 (fCons (fBin gAdd0 (fC (.int 1)) (fCallP 0 G_law_draw (fCons (fV 1) fNil))) fNil)) (gN 4) outB) (sRet (fTup (fCons (fCallP 0 G_law_pick (fCons (fFr (fLst (fCons (fC (.int 1)) (fCons (fC (.int 1)) (fCons (fC (.int 2)) (fCons (fC (.int 3)) fNil)))))) fNil)) (fCons (fV 3) fNil))))) := rfl
  rw [g1, seq_nx o1, seq_nx f1, r1]
  simp [endP]
end My
namespace My
open PySem PySem.Spec PyProof.Rows L2 ClX Dl
theorem bin_eq {g : D → D → Option D} {fa fb : FE} {δ δ1 δ2 : Es} {x y d : D} (ha : fa δ = some (x, δ1)) (hb : fb δ1 = some (y, δ2)) (hg : g x y = some d) : fBin g fa fb δ = some (d, δ2) := by
  simp only [fBin, ha, Option.bind_some, hb, hg, Option.map_some]
theorem fun_eq {F : List D → Option D} {fa : FE} {δ δ1 : Es} {x d : D} (ha : fa δ = some (x, δ1)) (hF : F [x] = some d) : fFun F (fCons fa fNil) δ = some (d, δ1) := by
  simp only [fFun, fCons, fNil, ha, Option.bind_some, hF, Option.map_some]
theorem if_t {c : FE} {f g : FE} {δ δ1 : Es} (hc : c δ = some (.bl true, δ1)) : fIf (fB c) f g δ = f δ1 := by
  simp only [fIf, fB, hc, Option.bind_some, if_true]
theorem if_f {c : FE} {f g : FE} {δ δ1 : Es} (hc : c δ = some (.bl false, δ1)) : fIf (fB c) f g δ = g δ1 := by
  simp only [fIf, fB, hc, Option.bind_some, Bool.false_eq_true, if_false]
theorem app_eq {i : Nat} {fe : FE} {δ δ1 : Es} {acc0 acc : List D} {d : D} (h0 : δ[i]? = some (.own .mine acc0)) (he : fe δ = some (d, δ1)) (h1 : δ1[i]? = some (.own .mine acc)) (hb : acc.length ≤ big) : sApp i fe δ = some (.nx (δ1.set i (.own .mine (acc ++ [d])))) := by
  have k : isOwnL δ[i]? = true := by rw [h0]; rfl
  have hb' : True ∧ acc.length ≤ big := ⟨trivial, hb⟩
  rw [sApp, if_pos k, he, Option.bind_some]
  dsimp only
  rw [h1]
  exact if_pos ⟨rfl, hb⟩
theorem lt_eq (i j : Int) : (gI0 fun i j => .bl (decide (j < i))) (.int i) (.int j) = some (.bl (decide (j < i))) := rfl
def nuF (q t : Int) : D := if q = 1 then .int t else mk q t
theorem nuF_num (q t : Int) : Num q t (nuF q t) := by
  unfold nuF
  split
  · rename_i h; exact .inr ⟨rfl, .inl h⟩
  · exact .inl rfl
theorem small_bd {t : Int} (h : -3 ≤ t ∧ t ≤ 3) : Bd t 100 := by unfold Bd; omega
theorem nuF_elt {q t : Int} (bq : Bd q 20) (bt : Bd t 100) : Elt (nuF q t) := rfl
theorem nuF_nums (q : Int) : ∀ ts : List Int, Nums q ts (ts.map (nuF q))
  | [] => .nil
  | t :: ts => .cons (nuF_num q t) (nuF_nums q ts)
theorem zeros_nums (q : Int) : ∀ n : Nat, Nums q (List.replicate n 0) (List.replicate n (.int 0))
  | 0 => .nil
  | n + 1 => .cons (.inr ⟨rfl, .inr rfl⟩) (zeros_nums q n)
theorem p_number {q : Int} (hq : 0 < q) (bq : Bd q 20) (t : Int) : G_law_number [.int t, .int q] = some (nuF q t) := by
  have e := p_init (t := t) (b := q) (by omega) (bq.mono (by decide))
  have m : fMake 0 G_Ratio_init (gPos []) (fCons (fV 0) (fCons (fV 1) fNil)) fNil [.val (.int t), .val (.int q)] = some (mk q t, [.val (.int t), .val (.int q)]) := by
    simp only [fMake, fCons, fV, fNil, List.getElem?_cons_zero, List.getElem?_cons_succ, Option.bind_some, gPos, List.append_nil, e, Option.map_some]
  have c : fB (fBin gEqF (fV 1) (fC (.int 1))) [.val (.int t), .val (.int q)] = some (decide (q = 1), [.val (.int t), .val (.int q)]) := by
    simp [fB, fBin, fV, fC, gEqF, litV, scal]
  refine out1 (d := some (nuF q t)) (δ := [.val (.int t), .val (.int q)]) ?_
  show fIf _ _ _ [.val (.int t), .val (.int q)] = _
  rw [fIf, c]
  unfold nuF
  by_cases h : q = 1
  · simp [h, fV]
  · simp only [h, decide_false, Option.bind_some, Bool.false_eq_true, if_false, m, Option.map_some]
abbrev gM : D → D → Option D := gOr (gI okMul fun i j => .int (i * j)) gRep
theorem rep_if {α : Type} (k : Int) (n : Nat) (h0 : -(9223372036854775808 : Int) ≤ k) (h1 : k < 9223372036854775808) (h2 : n ≤ big) (x y : α) : (if -(2 ^ 63) ≤ k ∧ k < 2 ^ 63 ∧ n ≤ big then x else y) = x := if_pos ⟨by omega, by omega, h2⟩
theorem gOr_r {g g' : D → D → Option D} {x y : D} (h : g x y = none) : Dl.gOr g g' x y = g' x y := by simp [Dl.gOr, h]
theorem gM_rep (ds : List D) (k : Nat) (h : ds.length * k ≤ 1000) (hk : k ≤ 1000) : gM (.lst ds) (.int k) = some (.lst (List.replicate k ds).flatten) := by
  have e : gRep (.lst ds) (.int (k : Int)) = some (.lst (List.replicate (k : Int).toNat ds).flatten) := by
    unfold gRep
    dsimp only
    exact rep_if (k : Int) _ (by omega) (by omega) (by rw [Int.toNat_natCast]; unfold big; omega) _ _
  rw [Int.toNat_natCast] at e
  exact (gOr_r (by rfl)).trans e
theorem gAdd_lst (a b : List D) (h : a.length + b.length ≤ 1000) : gAdd0 (.lst a) (.lst b) = some (.lst (a ++ b)) := by
  have hb : a.length + b.length ≤ big := by unfold big; omega
  simp [gAdd0, Dl.gOr, gI0, gCatS, gCatL, hb]
theorem ix_own0 (q : Int) (rows : List (List Int)) : gIx (ownD q rows) (.int 0) = some (.int q) := rfl
theorem ix_own1 (q : Int) (rows : List (List Int)) : gIx (ownD q rows) (.int 1) = some (.lst (rows.map rowI)) := rfl
theorem ixN_val {i : Nat} {fb : FE} {δ : Es} {d b r : D} (hi : δ[i]? = some (.val d)) (hb : fb δ = some (b, δ)) (h : gIx d b = some r) : fIxN i fb δ = some (r, δ) := by
  have : isOwn δ[i]? = false := by rw [hi]; rfl
  have v : fV i δ = some (d, δ) := by simp only [fV, hi]
  rw [fIxN, if_neg (by rw [this]; decide)]
  exact bin_eq v hb h
theorem cons1 {f : FE} {δ δ1 : Es} {d : D} (h : f δ = some (d, δ1)) : fCons f fNil δ = some ([d], δ1) := by
  simp only [fCons, h, Option.bind_some, fNil]
theorem flat_map {α β : Type} (f : α → β) (k : Nat) (l : List α) : (List.replicate k (l.map f)).flatten = (List.replicate k l).flatten.map f := by
  rw [List.map_flatten, List.map_replicate]
/-- k times one after another -/
abbrev rep {α : Type} (k : Nat) (l : List α) : List α := (List.replicate k l).flatten
theorem rep_len {α : Type} (k : Nat) (l : List α) : (rep k l).length = k * l.length := by simp [rep]
theorem rep_mem {α : Type} {k : Nat} {l : List α} {x : α} (h : x ∈ rep k l) : x ∈ l := by
  simp only [rep, List.mem_flatten, List.mem_replicate] at h
  obtain ⟨m, ⟨_, rfl⟩, h⟩ := h
  exact h
/-! the law's own worth -/
def lwB : FS := sSet 2 (fBin gAdd0 (fBin gM (fV 2) (fV 1)) (fV 3))
theorem lw_loop {w : Int} (bw : Bd w 100) (c : D) : ∀ (ts : List Int) (k : Nat) (T : Int) (s : Sl), (∀ t, t ∈ ts → Bd t 100) → Bd T (110 * k) → k + ts.length ≤ 13 →
    ∃ s', loopF (gN 3) lwB (ts.map D.int) [.val c, .val (.int w), .val (.int T), s] = some (.nx [.val c, .val (.int w), .val (.int (ts.foldl (fun T t => T * w + t) T)), s'])
  | [], k, T, s, _, _, _ => ⟨s, by simp [loopF]⟩
  | t :: ts, k, T, s, ht, bT, hk => by
    simp only [List.length_cons] at hk
    have bt := ht t (List.mem_cons_self ..)
    have bn : Bd (T * w + t) (110 * (k + 1)) := by
      have b1 : Bd (T * w) (110 * k + 100) := bT.mul bw
      have b2 : Bd t (110 * k + 100) := bt.mono (by omega)
      exact (b1.add b2).mono (by omega)
    have ok : okMul T w = true := mul_ok (bT.mono (by omega)) (bw.mono (by decide))
    obtain ⟨s', ih⟩ := lw_loop bw c ts (k + 1) (T * w + t) (.val (.int t)) (fun u hu => ht u (List.mem_cons_of_mem _ hu)) bn (by omega)
    refine ⟨s', ?_⟩
    have gm : gM (.int T) (.int w) = some (.int (T * w)) := by
      simp only [gM, Dl.gOr, gI, ok, if_true]
    have st : lwB [.val c, .val (.int w), .val (.int T), .val (.int t)] = some (.nx [.val c, .val (.int w), .val (.int (T * w + t)), .val (.int t)]) := by
      rw [lwB, sSet, bin_eq (bin_eq rfl rfl gm) rfl rfl]
      rfl
    rw [List.map_cons, loopF]
    simp only [gN, List.set_cons_succ, List.set_cons_zero, Option.bind_some, st, List.foldl_cons]
    exact ih
theorem p_lworth {q w : Int} (hq : 0 < q) (bq : Bd q 20) (bw : Bd w 100) {rows : List (List Int)} (h : 0 < rows.length) (ht : ∀ r, r ∈ rows → r.length ≤ 12 ∧ ∀ t, t ∈ r → Bd t 100) : G_law_worth [ownD q rows, .int w] = some (mk q (hor w (rowAt rows w))) := by
  obtain ⟨r, e1, hr, e2⟩ := ix_row (f := rowI) rows w h
  have er : rowAt rows w = r := by unfold rowAt; rw [e1]; rfl
  obtain ⟨s', lp⟩ := lw_loop bw (ownD q rows) r.reverse 0 0 .un (fun t htt => (ht r hr).2 t (by simpa using htt)) (Nat.two_pow_pos _) (by have := (ht r hr).1; simp; omega)
  have k1 : okPos w (rows.length : Int) = true := okPos_of (by omega)
  have x0 : fFun funLen (fCons (fIxN 0 (fC (.int 1))) fNil) [.val (ownD q rows), .val (.int w), .val (.int 0), .un] = some (.int rows.length, [.val (ownD q rows), .val (.int w), .val (.int 0), .un]) := fun_eq (ixN_val rfl rfl (ix_own1 q rows)) (by simp [funLen])
  have x1 : fBin gIx (fIxN 0 (fC (.int 1))) (fBin (gI okPos fun i j => .int (i % j)) (fV 1) (fFun funLen (fCons (fIxN 0 (fC (.int 1))) fNil))) [.val (ownD q rows), .val (.int w), .val (.int 0), .un] = some (rowI r, [.val (ownD q rows), .val (.int w), .val (.int 0), .un]) :=
    bin_eq (ixN_val rfl rfl (ix_own1 q rows)) (bin_eq (d := .int (w % (rows.length : Int))) rfl x0 (by simp only [gI, k1, if_true])) e2
  have x2 : fSq (fFr (fRev (fBin gIx (fIxN 0 (fC (.int 1))) (fBin (gI okPos fun i j => .int (i % j)) (fV 1) (fFun funLen (fCons (fIxN 0 (fC (.int 1))) fNil)))))) [.val (ownD q rows), .val (.int w), .val (.int 0), .un] = some (r.reverse.map D.int, [.val (ownD q rows), .val (.int w), .val (.int 0), .un]) := by
    rw [fSq, fFr, fRev, x1]
    simp
  have x3 : sFor (fSq (fFr (fRev (fBin gIx (fIxN 0 (fC (.int 1))) (fBin (gI okPos fun i j => .int (i % j)) (fV 1) (fFun funLen (fCons (fIxN 0 (fC (.int 1))) fNil))))))) (gN 3) lwB [.val (ownD q rows), .val (.int w), .val (.int 0), .un] = some (.nx [.val (ownD q rows), .val (.int w), .val (.int (hor w r)), s']) := by
    rw [sFor, x2]
    rw [List.foldl_reverse] at lp
    exact lp
  have ei := p_init (t := hor w r) (b := q) (by omega) (bq.mono (by decide))
  have x4 : fMake 0 G_Ratio_init (gPos []) (fCons (fV 2) (fCons (fIxN 0 (fC (.int 0))) fNil)) fNil [.val (ownD q rows), .val (.int w), .val (.int (hor w r)), s'] = some (mk q (hor w r), [.val (ownD q rows), .val (.int w), .val (.int (hor w r)), s']) := by
    have i0 : fIxN 0 (fC (.int 0)) [.val (ownD q rows), .val (.int w), .val (.int (hor w r)), s'] = some (.int q, [.val (ownD q rows), .val (.int w), .val (.int (hor w r)), s']) := ixN_val rfl rfl (ix_own0 q rows)
    simp only [fMake, fCons, fV, List.getElem?_cons_zero, List.getElem?_cons_succ, Option.bind_some, i0, fNil, gPos, List.append_nil, ei, Option.map_some]
  have s1 : sSet 2 (fC (.int 0)) [.val (ownD q rows), .val (.int w), .un, .un] = some (.nx [.val (ownD q rows), .val (.int w), .val (.int 0), .un]) := rfl
  have g1 : g_law_worth = sSeq (sSet 2 (fC (.int 0))) (sSeq (sFor (fSq (fFr (fRev (fBin gIx (fIxN 0 (fC (.int 1))) (fBin (gI okPos fun i j => .int (i % j)) (fV 1) (fFun funLen (fCons (fIxN 0 (fC (.int 1))) fNil))))))) (gN 3) lwB) (sRet (fMake 0 G_Ratio_init (gPos []) (fCons (fV 2) (fCons (fIxN 0 (fC (.int 0))) fNil)) fNil))) := rfl
  show (g_law_worth [.val (ownD q rows), .val (.int w), .un, .un]).bind endD = _
  rw [g1, seq_nx s1, seq_nx x3, sRet, x4, er]
  rfl
end My
namespace My
open PySem PySem.Spec PyProof.Rows L2 ClX Dl
/-! the least form of rows, and of rows told twice -/
section
variable {α : Type} [DecidableEq α]
theorem pickN_some {P : Nat → Bool} : ∀ (k lo p : Nat), pickN P lo k = some p → lo ≤ p ∧ p < lo + k ∧ P p = true ∧ ∀ j, lo ≤ j → j < p → P j = false
  | 0, lo, p, h => by simp [pickN] at h
  | k + 1, lo, p, h => by
    rw [pickN] at h
    by_cases c : P lo = true
    · rw [if_pos c] at h
      cases h
      exact ⟨Nat.le_refl _, by omega, c, fun j h1 h2 => by omega⟩
    · rw [if_neg c] at h
      obtain ⟨a, b, d, e⟩ := pickN_some k (lo + 1) p h
      refine ⟨by omega, by omega, d, fun j h1 h2 => ?_⟩
      by_cases z : j = lo
      · subst z; simpa using c
      · exact e j (by omega) h2
theorem pickN_none {P : Nat → Bool} : ∀ (k lo : Nat), pickN P lo k = none → ∀ j, lo ≤ j → j < lo + k → P j = false
  | 0, lo, _, j, h1, h2 => by omega
  | k + 1, lo, h, j, h1, h2 => by
    rw [pickN] at h
    by_cases c : P lo = true
    · rw [if_pos c] at h; cases h
    · rw [if_neg c] at h
      by_cases z : j = lo
      · subst z; simpa using c
      · exact pickN_none k (lo + 1) h j (by omega) (by omega)
def okP (R : List α) (p : Nat) : Bool := R.length % p == 0 && per R p
theorem okP_iff (R : List α) (p : Nat) : okP R p = true ↔ R.length % p = 0 ∧ ∀ i, i < R.length → R[i]? = R[i % p]? := by
  simp [okP, per, List.all_eq_true]
theorem okP_all (R : List α) : okP R R.length = true := by
  rw [okP_iff]
  exact ⟨Nat.mod_self _, fun i hi => by rw [Nat.mod_eq_of_lt hi]⟩
/-- p is the least one -/
def Lst (R : List α) (p : Nat) : Prop := 1 ≤ p ∧ p ≤ R.length ∧ okP R p = true ∧ ∀ j, 1 ≤ j → j < p → okP R j = false
theorem Lst.uniq {R : List α} {p p' : Nat} (h : Lst R p) (h' : Lst R p') : p = p' := by
  obtain ⟨a, b, c, d⟩ := h
  obtain ⟨a', b', c', d'⟩ := h'
  by_cases z : p < p'
  · have := d' p a z; rw [c] at this; cases this
  · by_cases z' : p' < p
    · have := d p' a' z'; rw [c'] at this; cases this
    · omega
theorem least_spec {R : List α} (h : 0 < R.length) : ∃ p, Lst R p ∧ least R = R.take p := by
  unfold least
  cases e : pickN (fun p => R.length % p == 0 && per R p) 1 (R.length - 1) with
  | some p =>
    obtain ⟨a, b, c, d⟩ := pickN_some _ _ _ e
    exact ⟨p, ⟨a, by omega, c, d⟩, rfl⟩
  | none =>
    refine ⟨R.length, ⟨h, Nat.le_refl _, okP_all R, fun j h1 h2 => ?_⟩, by simp⟩
    exact pickN_none _ _ e j h1 (by omega)
theorem rep_get {L : List α} {p : Nat} (hL : L.length = p) (hp : 0 < p) : ∀ (k i : Nat), i < k * p → (rep k L)[i]? = L[i % p]?
  | 0, i, h => by omega
  | k + 1, i, h => by
    have e : rep (k + 1) L = L ++ rep k L := by simp [rep, List.replicate_succ]
    rw [e]
    by_cases z : i < p
    · rw [List.getElem?_append_left (by omega), Nat.mod_eq_of_lt z]
    · have h' : (k + 1) * p = k * p + p := Nat.succ_mul k p
      rw [List.getElem?_append_right (by omega), hL, rep_get hL hp k (i - p) (by omega)]
      congr 1
      exact (Nat.mod_eq_sub_mod (by omega)).symm
/-- a period says that the rows are the first ones, told again -/
theorem per_rep {R : List α} {p : Nat} (hp : 0 < p) (hle : p ≤ R.length) (hd : R.length % p = 0) : per R p = true ↔ R = rep (R.length / p) (R.take p) := by
  have hL : (R.take p).length = p := by simp; omega
  have hm : R.length / p * p = R.length := Nat.div_mul_cancel (Nat.dvd_of_mod_eq_zero hd)
  have hr : (rep (R.length / p) (R.take p)).length = R.length := by rw [rep_len, hL, hm]
  have tk : ∀ i, (R.take p)[i % p]? = R[i % p]? := fun i => by
    rw [List.getElem?_take]
    exact if_pos (Nat.mod_lt _ hp)
  constructor
  · intro h
    simp only [per, List.all_eq_true, List.mem_range, decide_eq_true_eq] at h
    apply List.ext_getElem?
    intro i
    by_cases z : i < R.length
    · rw [rep_get hL hp _ i (by omega), tk, h i z]
    · rw [List.getElem?_eq_none (by omega), List.getElem?_eq_none (by omega)]
  · intro h
    simp only [per, List.all_eq_true, List.mem_range, decide_eq_true_eq]
    intro i z
    have e1 : R[i]? = (R.take p)[i % p]? := by
      have := rep_get hL hp (R.length / p) i (by omega)
      rw [← h] at this
      exact this
    rw [e1, tk]
theorem lst_rep {R : List α} {p : Nat} (h : Lst R p) : R = rep (R.length / p) (R.take p) := by
  obtain ⟨a, b, c, _⟩ := h
  have c' := (okP_iff R p).mp c
  have : per R p = true := by
    simp only [okP, Bool.and_eq_true] at c
    exact c.2
  exact (per_rep a b c'.1).mp this
theorem least_inj {R R' : List α} (h : 0 < R.length) (hl : R.length = R'.length) (e : least R = least R') : R = R' := by
  obtain ⟨p, a, b⟩ := least_spec h
  obtain ⟨p', a', b'⟩ := least_spec (R := R') (by omega)
  have e1 : R.take p = R'.take p' := by rw [← b, ← b', e]
  have l1 : p = p' := by
    have := congrArg List.length e1
    simp only [List.length_take] at this
    have := a.2.1; have := a'.2.1
    omega
  subst l1
  rw [lst_rep a, lst_rep a', e1, hl]
/-- all numbers, again and again -/
def fOf (R : List α) (i : Nat) : Option α := R[i % R.length]?
theorem okP_f {R : List α} {p : Nat} (hn : 0 < R.length) (hp : 0 < p) : okP R p = true ↔ p ∣ R.length ∧ ∀ i, fOf R (i + p) = fOf R i := by
  rw [okP_iff]
  constructor
  · rintro ⟨hd, h⟩
    refine ⟨Nat.dvd_of_mod_eq_zero hd, ?_⟩
    have key : ∀ i, fOf R i = R[i % p]? := fun i => by
      unfold fOf
      rw [h _ (Nat.mod_lt _ hn), Nat.mod_mod_of_dvd _ (Nat.dvd_of_mod_eq_zero hd)]
    intro i
    rw [key, key, Nat.add_mod_right]
  · rintro ⟨hd, h⟩
    refine ⟨Nat.mod_eq_zero_of_dvd hd, ?_⟩
    have mul : ∀ k i, fOf R (i + p * k) = fOf R i := by
      intro k
      induction k with
      | zero => intro i; simp
      | succ k ih => intro i; rw [Nat.mul_succ, ← Nat.add_assoc, h, ih]
    intro i hi
    have e1 := mul (i / p) (i % p)
    rw [Nat.mod_add_div] at e1
    have lt : i % p < R.length := Nat.lt_of_le_of_lt (Nat.mod_le _ _) hi
    unfold fOf at e1
    rw [Nat.mod_eq_of_lt hi, Nat.mod_eq_of_lt lt] at e1
    exact e1
theorem per_gcd {f : Nat → Option α} : ∀ (a b : Nat), (∀ i, f (i + a) = f i) → (∀ i, f (i + b) = f i) → ∀ i, f (i + Nat.gcd a b) = f i := by
  intro a b
  induction a, b using Nat.gcd.induction with
  | H0 n => intro _ hb i; rw [Nat.gcd_zero_left]; exact hb i
  | H1 m n hm ih =>
    intro ha hb i
    rw [Nat.gcd_rec]
    refine ih (fun j => ?_) ha i
    have mul : ∀ k i, f (i + m * k) = f i := by
      intro k
      induction k with
      | zero => intro i; simp
      | succ k ih => intro i; rw [Nat.mul_succ, ← Nat.add_assoc, ha, ih]
    have e := mul (n / m) (j + n % m)
    rw [Nat.add_assoc, Nat.mod_add_div, hb] at e
    exact e.symm
theorem f_twice {R : List α} (hn : 0 < R.length) (i : Nat) : fOf (rep 2 R) i = fOf R i := by
  unfold fOf
  have hl : (rep 2 R).length = 2 * R.length := rep_len 2 R
  have hi : i % (rep 2 R).length < 2 * R.length := by rw [hl]; exact Nat.mod_lt _ (by omega)
  rw [rep_get rfl hn 2 _ hi, hl]
  congr 1
  exact Nat.mod_mod_of_dvd _ ⟨2, Nat.mul_comm _ _⟩
theorem least_twice {R : List α} (hn : 0 < R.length) : least (rep 2 R) = least R := by
  have hl : (rep 2 R).length = 2 * R.length := rep_len 2 R
  obtain ⟨p, a, b⟩ := least_spec hn
  obtain ⟨p', a', b'⟩ := least_spec (R := rep 2 R) (by omega)
  have okA := (okP_f hn a.1).mp a.2.2.1
  have okB := (okP_f (by omega) a'.1).mp a'.2.2.1
  have up : ∀ {d : Nat}, 0 < d → d ∣ R.length → (∀ i, fOf R (i + d) = fOf R i) → okP (rep 2 R) d = true := fun hd h1 h2 => by
    rw [okP_f (by omega) hd, hl]
    exact ⟨Nat.dvd_trans h1 ⟨2, Nat.mul_comm _ _⟩, fun i => by rw [f_twice hn, f_twice hn, h2]⟩
  have hself : ∀ i, fOf R (i + R.length) = fOf R i := fun i => by unfold fOf; rw [Nat.add_mod_right]
  have hB : ∀ i, fOf R (i + p') = fOf R i := fun i => by rw [← f_twice hn, ← f_twice hn]; exact okB.2 i
  have hg := per_gcd (f := fOf R) p' R.length hB hself
  have g0 : 0 < Nat.gcd p' R.length := Nat.gcd_pos_of_pos_left _ a'.1
  have gd : Nat.gcd p' R.length ∣ R.length := Nat.gcd_dvd_right _ _
  have gle : Nat.gcd p' R.length ≤ p' := Nat.le_of_dvd a'.1 (Nat.gcd_dvd_left _ _)
  have okg := up g0 gd hg
  have ge : p' ≤ Nat.gcd p' R.length := by
    by_cases z : Nat.gcd p' R.length < p'
    · have := a'.2.2.2 _ g0 z; rw [okg] at this; cases this
    · omega
  have eg : Nat.gcd p' R.length = p' := by omega
  rw [eg] at hg gd
  have okR : okP R p' = true := (okP_f hn a'.1).mpr ⟨gd, hg⟩
  have l1 : p ≤ p' := by
    by_cases z : p' < p
    · have := a.2.2.2 _ a'.1 z; rw [okR] at this; cases this
    · omega
  have okU := up a.1 okA.1 okA.2
  have l2 : p' ≤ p := by
    by_cases z : p < p'
    · have := a'.2.2.2 _ a.1 z; rw [okU] at this; cases this
    · omega
  have : p' = p := by omega
  subst this
  rw [b, b']
  have e2 : rep 2 R = R ++ R := by simp [rep, List.replicate_succ]
  rw [e2, List.take_append_of_le_length a.2.1]
theorem least_rep {R : List α} {k : Nat} (hn : 0 < R.length) (hk : k = 1 ∨ k = 2) : least (rep k R) = least R := by
  rcases hk with rfl | rfl
  · congr 1; simp [rep]
  · exact least_twice hn
theorem least_len {R : List α} (hn : 0 < R.length) : 0 < (least R).length ∧ (least R).length ≤ R.length := by
  obtain ⟨p, a, b⟩ := least_spec hn
  rw [b, List.length_take]
  have := a.1; have := a.2.1
  omega
theorem least_mem {R : List α} (hn : 0 < R.length) {x : α} (h : x ∈ least R) : x ∈ R := by
  obtain ⟨p, a, b⟩ := least_spec hn
  rw [b] at h
  exact List.mem_of_mem_take h
end
theorem least_at {R : List (List Int)} (hn : 0 < R.length) (w : Int) : rowAt (least R) w = rowAt R w := by
  obtain ⟨p, a, b⟩ := least_spec hn
  have c := (okP_iff R p).mp a.2.2.1
  have p0 := a.1
  have pl := a.2.1
  have hd : p ∣ R.length := Nat.dvd_of_mod_eq_zero c.1
  have m0 : 0 ≤ w % (R.length : Int) := Int.emod_nonneg _ (by omega)
  have m1 : w % (R.length : Int) < R.length := Int.emod_lt_of_pos _ (by omega)
  have n0 : 0 ≤ w % (p : Int) := Int.emod_nonneg _ (by omega)
  have n1 : w % (p : Int) < p := Int.emod_lt_of_pos _ (by omega)
  have e : (w % (R.length : Int)).toNat % p = (w % (p : Int)).toNat := by
    have h1 : (w % (R.length : Int)) % (p : Int) = w % (p : Int) := Int.emod_emod_of_dvd _ (Int.natCast_dvd_natCast.mpr hd)
    have h2 : (((w % (R.length : Int)).toNat % p : Nat) : Int) = ((w % (p : Int)).toNat : Int) := by
      rw [Int.natCast_emod, Int.toNat_of_nonneg m0, Int.toNat_of_nonneg n0, h1]
    exact Int.natCast_inj.mp h2
  have hl : (R.take p).length = p := by simp; omega
  unfold rowAt
  rw [b, hl, c.2 _ (by omega), e, List.getElem?_take, if_pos (by omega)]
theorem rowAt_map (rows : List (List Int)) (w : Int) : rowAt (rows.map trim) w = trim (rowAt rows w) := by
  unfold rowAt
  rw [List.length_map, List.getElem?_map]
  cases rows[(w % (rows.length : Int)).toNat]? with
  | none => rfl
  | some r => rfl
theorem hor_least {rows : List (List Int)} (hn : 0 < rows.length) (w : Int) : hor w (rowAt (least (rows.map trim)) w) = hor w (rowAt rows w) := by
  rw [least_at (by simpa using hn), rowAt_map, hor_trim]
end My
namespace My
open PySem PySem.Spec PyProof.Rows L2 ClX Dl
/-! the law's own form -/
abbrev gN3 : D → D → Option D := gOr (gOr gNeF (gOwnNe 0 G_Ratio_eq)) (gB true (eqLs eq3))
theorem gN_nil (us : List Int) : gN3 (rowI us) (.lst []) = some (.bl (!decide (us = []))) := by
  have e := eqLs_code (g := eq3) (f := D.int) (fun a b => eq3_of0 (eq0_int a b)) us []
  have e2 : gB true (eqLs eq3) (rowI us) (.lst []) = some (.bl (!decide (us = []))) := by
    unfold gB
    rw [show eqLs eq3 (rowI us) (.lst []) = some (decide (us = [])) from e]
    simp
  have n1 : gOr gNeF (gOwnNe 0 G_Ratio_eq) (rowI us) (.lst []) = none := by simp [Dl.gOr, gNeF, litV, gOwnNe]
  rw [gN3, gOr_r n1, e2]
theorem at_last (vs : List Int) (t : Int) : atI ((vs ++ [t]).map D.int) (-1) = some (.int t) := by
  have h1 : (1 : Int) ≤ (vs.length : Int) + 1 := by omega
  have h2 : (-1 + ((vs.length : Int) + 1)).toNat = vs.length := by omega
  simp [atI, ixN, h1, h2]
def fmC : FT := fAnd (fB (fCmpO 3 gN3 (fFr (fLst fNil)))) (fB (fBin gE (fIxN 3 (fUn gNeg (fC (.int 1)))) (fC (.int 0))))
theorem fm_loop {o s1 s2 s4 : Sl} : ∀ (n : Nat) (us : List Int), us.length < n → whileF fmC (sPop 3) n [o, s1, s2, .own .mine (us.map D.int), s4] = some (.nx [o, s1, s2, .own .mine ((trim us).map D.int), s4])
  | 0, us, h => by omega
  | n + 1, us, h => by
    have c1 : fB (fCmpO 3 gN3 (fFr (fLst fNil))) [o, s1, s2, .own .mine (us.map D.int), s4] = some (!decide (us = []), [o, s1, s2, .own .mine (us.map D.int), s4]) := by
      have l0 : fFr (fLst fNil) [o, s1, s2, .own .mine (us.map D.int), s4] = some (.lst [], [o, s1, s2, .own .mine (us.map D.int), s4]) := rfl
      have g := gN_nil us
      simp only [fB, fCmpO, List.getElem?_cons_zero, List.getElem?_cons_succ, isOwnL, isL, if_true, l0, Option.bind_some, g]
    rcases List.eq_nil_or_concat us with rfl | ⟨vs, t, rfl⟩
    · have c2 : fmC [o, s1, s2, .own .mine (([] : List Int).map D.int), s4] = some (false, [o, s1, s2, .own .mine (([] : List Int).map D.int), s4]) := by
        simp only [fmC, fAnd, c1, Option.bind_some, decide_true, Bool.not_true, Bool.false_eq_true, if_false]
      rw [whileF, c2]
      rfl
    · rw [List.concat_eq_append] at *
      have ne : vs ++ [t] ≠ [] := by simp
      rw [decide_eq_false ne] at c1
      have x1 : fIxN 3 (fUn gNeg (fC (.int 1))) [o, s1, s2, .own .mine ((vs ++ [t]).map D.int), s4] = some (.int t, [o, s1, s2, .own .mine ((vs ++ [t]).map D.int), s4]) := by
        have al := at_last vs t
        have u : fUn gNeg (fC (.int 1)) [o, s1, s2, .own .mine ((vs ++ [t]).map D.int), s4] = some (.int (-1), [o, s1, s2, .own .mine ((vs ++ [t]).map D.int), s4]) := rfl
        simp only [fIxN, fIxO, List.getElem?_cons_zero, List.getElem?_cons_succ, isOwn, isL, if_true, u, Option.bind_some, al, Option.map_some]
      have x2 : fBin gE (fIxN 3 (fUn gNeg (fC (.int 1)))) (fC (.int 0)) [o, s1, s2, .own .mine ((vs ++ [t]).map D.int), s4] = some (.bl (decide (t = 0)), [o, s1, s2, .own .mine ((vs ++ [t]).map D.int), s4]) := bin_eq x1 rfl (gE_int t 0)
      have c2 : fmC [o, s1, s2, .own .mine ((vs ++ [t]).map D.int), s4] = some (decide (t = 0), [o, s1, s2, .own .mine ((vs ++ [t]).map D.int), s4]) := by
        simp only [fmC, fAnd, c1, Option.bind_some, Bool.not_false, if_true]
        simp only [fB, x2, Option.bind_some]
      rw [whileF, c2]
      by_cases hz : t = 0
      · have ih := fm_loop (o := o) (s1 := s1) (s2 := s2) (s4 := s4) n vs (by simp at h; omega)
        have pp : sPop 3 [o, s1, s2, .own .mine ((vs ++ [t]).map D.int), s4] = some (.nx [o, s1, s2, .own .mine (vs.map D.int), s4]) := by
          simp [sPop, isL]
        have tr : trim (vs ++ [t]) = trim vs := by
          subst hz
          exact trim_pad vs 1
        simp only [Option.bind_some, decide_eq_true hz, if_true, pp, ih, tr]
      · simp only [Option.bind_some, decide_eq_false hz, Bool.false_eq_true, if_false, trim_snoc hz]
def fmW : FS := sWhile fu_law_form (fAnd (fB (fCmpO 3 gN3 (fFr (fLst fNil)))) (fB (fBin gE (fIxN 3 (fUn gNeg (fC (.int 1)))) (fC (.int 0))))) (sPop 3)
def fmB : FS := sSeq (sOwn 3 (fLof (fCons (fV 2) fNil))) (sSeq fmW (sApp 1 (fV 3)))
theorem fm_rows {o s4 : Sl} : ∀ (rows acc : List (List Int)) (s2 s3 : Sl), acc.length + rows.length ≤ 1000 → ∃ s2' s3', loopF (gN 2) fmB (rows.map rowI) [o, .own .mine (acc.map rowI), s2, s3, s4] = some (.nx [o, .own .mine ((acc ++ rows.map trim).map rowI), s2', s3', s4])
  | [], acc, s2, s3, _ => ⟨s2, s3, by simp [loopF]⟩
  | r :: rows, acc, s2, s3, h => by
    simp only [List.length_cons] at h
    have hb : (acc.map rowI).length ≤ big := by unfold big; simp; omega
    obtain ⟨u2, u3, ih⟩ := fm_rows (o := o) (s4 := s4) rows (acc ++ [trim r]) (.val (rowI r)) (.val (rowI (trim r))) (by simp; omega)
    refine ⟨u2, u3, ?_⟩
    have o1 : sOwn 3 (fLof (fCons (fV 2) fNil)) [o, .own .mine (acc.map rowI), .val (rowI r), s3, s4] = some (.nx [o, .own .mine (acc.map rowI), .val (rowI r), .own .mine (r.map D.int), s4]) := rfl
    have w1 : fmW [o, .own .mine (acc.map rowI), .val (rowI r), .own .mine (r.map D.int), s4] = some (.nx [o, .own .mine (acc.map rowI), .val (rowI r), .own .mine ((trim r).map D.int), s4]) := by
      have f1 : fu_law_form [o, .own .mine (acc.map rowI), .val (rowI r), .own .mine (r.map D.int), s4] = r.length + 1 := by simp [fu_law_form]
      rw [fmW, sWhile, f1]
      exact fm_loop (r.length + 1) r (by omega)
    have a1 : sApp 1 (fV 3) [o, .own .mine (acc.map rowI), .val (rowI r), .own .mine ((trim r).map D.int), s4] = some (.nx [o, .own .mine (acc.map rowI ++ [rowI (trim r)]), .val (rowI r), .val (rowI (trim r)), s4]) := by
      have v : fV 3 [o, .own .mine (acc.map rowI), .val (rowI r), .own .mine ((trim r).map D.int), s4] = some (rowI (trim r), [o, .own .mine (acc.map rowI), .val (rowI r), .val (rowI (trim r)), s4]) := rfl
      exact app_eq rfl v rfl hb
    have b1 : fmB [o, .own .mine (acc.map rowI), .val (rowI r), s3, s4] = some (.nx [o, .own .mine ((acc ++ [trim r]).map rowI), .val (rowI r), .val (rowI (trim r)), s4]) := by
      rw [fmB, seq_nx o1, seq_nx w1, a1, List.map_append]
      rfl
    rw [List.map_cons, loopF]
    simp only [gN, List.set_cons_succ, List.set_cons_zero, Option.bind_some, b1]
    rw [ih]
    simp
/-! the period -/
def Is1 (s : Sl) (ds : List D) : Prop := s = .own .mine ds ∨ s = .val (.lst ds)
theorem is1_v {o s s2 s3 s4 : Sl} {ds : List D} (h : Is1 s ds) : fV 1 [o, s, s2, s3, s4] = some (.lst ds, [o, .val (.lst ds), s2, s3, s4]) := by
  rcases h with rfl | rfl <;> rfl
theorem is1_len {o s s2 s3 s4 : Sl} {ds : List D} (h : Is1 s ds) : fLenN 1 [o, s, s2, s3, s4] = some (.int ds.length, [o, s, s2, s3, s4]) := by
  rcases h with rfl | rfl
  · simp [fLenN, isOwn, fLenO, isL]
  · exact fLenN_val (i := 1) (Or.inl rfl) rfl
def fpC : FT := fAnd (fB (fBin gE (fBin (gI okPos fun i j => .int (i % j)) (fLenN 1) (fV 4)) (fC (.int 0)))) (fB (fBin gE (fV 1) (fBin gM (fFr (fSlice (fV 1) fNoPart (fPart (fV 4)))) (fBin (gI okDivN fun i j => .int (i.fdiv j)) (fLenN 1) (fV 4)))))
theorem fp_cond {o s s2 s3 : Sl} {R : List (List Int)} (h : Is1 s (R.map rowI)) (hR : R.length ≤ 100) {p : Nat} (hp : 0 < p) (hle : p ≤ R.length) : ∃ s', Is1 s' (R.map rowI) ∧ fpC [o, s, s2, s3, .val (.int p)] = some (okP R p, [o, s', s2, s3, .val (.int p)]) := by
  have l1 := is1_len (o := o) (s2 := s2) (s3 := s3) (s4 := .val (.int p)) h
  rw [List.length_map] at l1
  have k1 : okPos (R.length : Int) (p : Int) = true := okPos_of (by omega)
  have m1 : (R.length : Int) % (p : Int) = ((R.length % p : Nat) : Int) := by omega
  have x0 : fBin (gI okPos fun i j => .int (i % j)) (fLenN 1) (fV 4) [o, s, s2, s3, .val (.int p)] = some (.int ((R.length % p : Nat) : Int), [o, s, s2, s3, .val (.int p)]) := bin_eq l1 rfl (by simp only [gI, k1, if_true, m1])
  have x1 : fBin gE (fBin (gI okPos fun i j => .int (i % j)) (fLenN 1) (fV 4)) (fC (.int 0)) [o, s, s2, s3, .val (.int p)] = some (.bl (decide (((R.length % p : Nat) : Int) = 0)), [o, s, s2, s3, .val (.int p)]) := bin_eq x0 rfl (gE_int _ 0)
  by_cases hd : R.length % p = 0
  · have d1 : (((R.length % p : Nat) : Int) = 0) := by omega
    rw [decide_eq_true d1] at x1
    have hv : Is1 (.val (.lst (R.map rowI))) (R.map rowI) := .inr rfl
    refine ⟨_, hv, ?_⟩
    have v1 := is1_v (o := o) (s2 := s2) (s3 := s3) (s4 := .val (.int p)) h
    have l2 := is1_len (o := o) (s2 := s2) (s3 := s3) (s4 := .val (.int p)) hv
    rw [List.length_map] at l2
    have ct := cut_take (R.map rowI) p (by simpa using hle)
    have y1 : fFr (fSlice (fV 1) fNoPart (fPart (fV 4))) [o, .val (.lst (R.map rowI)), s2, s3, .val (.int p)] = some (.lst ((R.map rowI).take p), [o, .val (.lst (R.map rowI)), s2, s3, .val (.int p)]) := by
      rw [← ct]; rfl
    have k2 : okDivN (R.length : Int) (p : Int) = true := by
      have b : Bd (p : Int) 4000 := (bd_of (x := (p : Int)) (n := 10) 512 (by omega) (by omega) (by decide)).mono (by decide)
      have nz : (p : Int) ≠ 0 := by omega
      unfold okDivN
      rw [decide_eq_true nz, decide_eq_true (show (p : Int).natAbs < 2 ^ 4000 from b)]
      rfl
    have dv : (R.length : Int).fdiv (p : Int) = ((R.length / p : Nat) : Int) := by
      rw [Int.fdiv_eq_ediv_of_nonneg _ (by omega)]
      rfl
    have y2 : fBin (gI okDivN fun i j => .int (i.fdiv j)) (fLenN 1) (fV 4) [o, .val (.lst (R.map rowI)), s2, s3, .val (.int p)] = some (.int ((R.length / p : Nat) : Int), [o, .val (.lst (R.map rowI)), s2, s3, .val (.int p)]) := bin_eq l2 rfl (by simp only [gI, k2, if_true, dv])
    have le1 : R.length / p ≤ R.length := Nat.div_le_self _ _
    have le2 : R.length / p * p ≤ R.length := Nat.div_mul_le_self _ _
    have tkl : ((R.map rowI).take p).length = p := by simp; omega
    have y3 := gM_rep ((R.map rowI).take p) (R.length / p) (by rw [tkl, Nat.mul_comm]; omega) (by omega)
    rw [← List.map_take, flat_map rowI (R.length / p) (R.take p)] at y3
    rw [← List.map_take] at y1
    have y4 := gE_rowsI R (rep (R.length / p) (R.take p))
    have x2 : fBin gE (fV 1) (fBin gM (fFr (fSlice (fV 1) fNoPart (fPart (fV 4)))) (fBin (gI okDivN fun i j => .int (i.fdiv j)) (fLenN 1) (fV 4))) [o, s, s2, s3, .val (.int p)] = some (.bl (decide (R = rep (R.length / p) (R.take p))), [o, .val (.lst (R.map rowI)), s2, s3, .val (.int p)]) := bin_eq v1 (bin_eq y1 y2 y3) y4
    have ok : okP R p = decide (R = rep (R.length / p) (R.take p)) := by
      have b0 : (R.length % p == 0) = true := by simpa using hd
      unfold okP
      rw [b0, Bool.true_and, Bool.eq_iff_iff, decide_eq_true_eq]
      exact per_rep hp hle hd
    rw [fpC, fAnd]
    simp only [fB, x1, x2, Option.bind_some, if_true, ok]
  · have d1 : ¬ (((R.length % p : Nat) : Int) = 0) := by omega
    rw [decide_eq_false d1] at x1
    refine ⟨s, h, ?_⟩
    have ok : okP R p = false := by
      have b0 : (R.length % p == 0) = false := by simpa using hd
      unfold okP
      rw [b0, Bool.false_and]
    rw [fpC, fAnd]
    simp only [fB, x1, Option.bind_some, Bool.false_eq_true, if_false, ok]
def fpB : FS := sIf fpC (sRet (fFr (fSlice (fV 1) fNoPart (fPart (fV 4))))) sNil
theorem fp_loop {o s2 s3 : Sl} {R : List (List Int)} (hR : R.length ≤ 100) {p : Nat} : ∀ (k lo : Nat) (s s4 : Sl), Is1 s (R.map rowI) → 0 < lo → lo + k ≤ R.length + 1 → pickN (okP R) lo k = some p → ∃ δ', loopF (gN 4) fpB (intsD lo k) [o, s, s2, s3, s4] = some (.rt (.lst ((R.take p).map rowI)) δ')
  | 0, lo, s, s4, _, _, _, h => by simp [pickN] at h
  | k + 1, lo, s, s4, hs, h0, hk, h => by
    obtain ⟨s', hs', c⟩ := fp_cond (o := o) (s2 := s2) (s3 := s3) hs hR h0 (by omega)
    have ei : intsD (lo : Int) (k + 1) = .int lo :: intsD ((lo + 1 : Nat) : Int) k := by
      unfold intsD
      rw [List.range_succ_eq_map, List.map_cons, List.map_map]
      have h1 : D.int ((lo : Int) + ((0 : Nat) : Int)) = .int lo := by simp
      rw [h1]
      congr 1
      apply List.map_congr_left
      intro a _
      show D.int ((lo : Int) + ((a + 1 : Nat) : Int)) = D.int (((lo + 1 : Nat) : Int) + (a : Int))
      congr 1
      omega
    rw [pickN] at h
    rw [ei, loopF]
    simp only [gN, List.set_cons_succ, List.set_cons_zero, Option.bind_some, fpB, sIf, c]
    by_cases hc : okP R lo = true
    · rw [if_pos hc] at h
      cases h
      rw [if_pos hc]
      have v1 := is1_v (o := o) (s2 := s2) (s3 := s3) (s4 := .val (.int (p : Int))) hs'
      have ct := cut_take (R.map rowI) p (by simp; omega)
      have y1 : fFr (fSlice (fV 1) fNoPart (fPart (fV 4))) [o, s', s2, s3, .val (.int p)] = some (.lst ((R.take p).map rowI), [o, .val (.lst (R.map rowI)), s2, s3, .val (.int p)]) := by
        rw [fFr, fSlice, v1, List.map_take, ← ct]
        rfl
      refine ⟨[o, .val (.lst (R.map rowI)), s2, s3, .val (.int p)], ?_⟩
      rw [sRet, y1]
      rfl
    · rw [if_neg hc] at h
      rw [if_neg hc]
      obtain ⟨δ', ih⟩ := fp_loop (o := o) (s2 := s2) (s3 := s3) hR k (lo + 1) s' (.val (.int lo)) hs' (by omega) (by omega) h
      exact ⟨δ', ih⟩
theorem pick_least {R : List (List Int)} (hn : 0 < R.length) : ∃ p, pickN (okP R) 1 R.length = some p ∧ least R = R.take p := by
  obtain ⟨p, a, b⟩ := least_spec hn
  cases e : pickN (okP R) 1 R.length with
  | none =>
    have := pickN_none _ _ e R.length hn (by omega)
    rw [okP_all] at this; cases this
  | some p' =>
    obtain ⟨x, y, z, u⟩ := pickN_some _ _ _ e
    have : p' = p := Lst.uniq (R := R) ⟨x, by omega, z, u⟩ a
    exact ⟨p', rfl, by rw [b, this]⟩
theorem p_form {q : Int} {rows : List (List Int)} (hn : 0 < rows.length) (hR : rows.length ≤ 100) : G_law_form [ownD q rows] = some (.lst ((least (rows.map trim)).map rowI)) := by
  obtain ⟨p, e1, e2⟩ := pick_least (R := rows.map trim) (by simpa using hn)
  rw [List.length_map] at e1
  obtain ⟨t2, t3, e3⟩ := fm_rows (o := .val (ownD q rows)) (s4 := .un) rows [] .un .un (by simp; omega)
  rw [List.nil_append] at e3
  have hs : Is1 (.own .mine ((rows.map trim).map rowI)) ((rows.map trim).map rowI) := .inl rfl
  obtain ⟨δ', e4⟩ := fp_loop (o := .val (ownD q rows)) (s2 := t2) (s3 := t3) (R := rows.map trim) (by simpa using hR) rows.length 1 _ .un hs (by decide) (by simp; omega) e1
  have o1 : sOwn 1 (fLst fNil) [.val (ownD q rows), .un, .un, .un, .un] = some (.nx [.val (ownD q rows), .own .mine [], .un, .un, .un]) := rfl
  have f0 : fSq (fIxN 0 (fC (.int 1))) [.val (ownD q rows), .own .mine [], .un, .un, .un] = some (rows.map rowI, [.val (ownD q rows), .own .mine [], .un, .un, .un]) := by
    rw [fSq, ixN_val rfl rfl (ix_own1 q rows)]
    rfl
  have f1 : sFor (fSq (fIxN 0 (fC (.int 1)))) (gN 2) fmB [.val (ownD q rows), .own .mine [], .un, .un, .un] = some (.nx [.val (ownD q rows), .own .mine ((rows.map trim).map rowI), t2, t3, .un]) := by
    rw [sFor, f0]
    exact e3
  have l1 := is1_len (o := .val (ownD q rows)) (s2 := t2) (s3 := t3) (s4 := .un) hs
  rw [List.length_map, List.length_map] at l1
  have c1 : fCons (fC (.int 1)) (fCons (fBin gAdd0 (fLenN 1) (fC (.int 1))) fNil) [.val (ownD q rows), .own .mine ((rows.map trim).map rowI), t2, t3, .un] = some ([.int 1, .int ((rows.length : Int) + 1)], [.val (ownD q rows), .own .mine ((rows.map trim).map rowI), t2, t3, .un]) := by
    have b := bin_eq (g := gAdd0) (fa := fLenN 1) (fb := fC (.int 1)) (d := .int ((rows.length : Int) + 1)) l1 rfl rfl
    rw [fCons]
    simp only [fC, Option.bind_some]
    rw [cons1 b]
    rfl
  have c2 := rg2_int 1 ((rows.length : Int) + 1) (by omega) (by omega) (by omega) (by omega) c1
  have z : ((rows.length : Int) + 1 - 1).toNat = rows.length := by omega
  rw [z] at c2
  have f2 : sFor (fRg2 (fCons (fC (.int 1)) (fCons (fBin gAdd0 (fLenN 1) (fC (.int 1))) fNil))) (gN 4) fpB [.val (ownD q rows), .own .mine ((rows.map trim).map rowI), t2, t3, .un] = some (.rt (.lst (((rows.map trim).take p).map rowI)) δ') := by
    rw [sFor, c2]
    exact e4
  have g1 : g_law_form = sSeq (sOwn 1 (fLst fNil)) (sSeq (sFor (fSq (fIxN 0 (fC (.int 1)))) (gN 2) fmB) (sSeq (sFor (fRg2 (fCons (fC (.int 1)) (fCons (fBin gAdd0 (fLenN 1) (fC (.int 1))) fNil))) (gN 4) fpB) (sRet (fV 1)))) := rfl
  show (g_law_form [.val (ownD q rows), .un, .un, .un, .un]).bind endD = _
  rw [g1, seq_nx o1, seq_nx f1, sSeq, f2, e2]
  rfl
theorem p_ldegree {q : Int} {rows : List (List Int)} (hn : 0 < rows.length) (hR : rows.length ≤ 100) : G_law_degree [ownD q rows] = degO (least (rows.map trim)) := by
  have e := p_form (q := q) hn hR
  have ll := (least_len (R := rows.map trim) (by simpa using hn)).2
  rw [List.length_map] at ll
  have i1 : fSq (fCall G_law_form (gPos []) (fCons (fV 0) fNil) fNil) [.val (ownD q rows), .un] = some ((least (rows.map trim)).map rowI, [.val (ownD q rows), .un]) := by
    rw [fSq, call1 rfl e]
    rfl
  have e2 : fLc (fSq (fCall G_law_form (gPos []) (fCons (fV 0) fNil) fNil)) (gN 1) fYes (fLenN 1) [1] [.val (ownD q rows), .un] = _ := lens_lc (f := rowI) (g := fun ts => ts.map D.int) (fun _ => rfl) (least (rows.map trim)) i1 rfl (by omega)
  simp only [List.length_map] at e2
  exact out1 (max_lens (least (rows.map trim)) e2)
theorem p_lwhole {l : List D} (P : Pot l) : ∃ w l', G_law_whole l [] = some (.int w, l') ∧ Bd w 97 ∧ Pot l' := by
  obtain ⟨n, l1, e1, n0, n1, P1⟩ := p_draw (n := 41) P (by decide) (bd_of 64 (by decide) (by decide) (by decide))
  have bN : Bd (n - 20) 6 := by unfold Bd; omega
  have b4 : Bd (10 ^ 4) 20 := by unfold Bd; decide
  have b24 : Bd (10 ^ 24) 90 := by unfold Bd; decide
  have m4 : Bd ((n - 20) * 10 ^ 4) 26 := bN.mul b4
  have m24 : Bd ((n - 20) * 10 ^ 24) 96 := bN.mul b24
  have k4 : okMul (n - 20) (10 ^ 4) = true := mul_ok (bN.mono (by decide)) (b4.mono (by decide))
  have k24 : okMul (n - 20) (10 ^ 24) = true := mul_ok (bN.mono (by decide)) (b24.mono (by decide))
  obtain ⟨x, l2, e2, hx, P2⟩ := p_pick (ds := [.int (n - 20), .int (n - 20), .int ((n - 20) * 10 ^ 4 + 7), .int ((n - 20) * 10 ^ 24 - 5)]) P1 (by simp) (by simp)
  have b7 : Bd 7 26 := bd_of 8 (by decide) (by decide) (by decide)
  have b5 : Bd 5 96 := bd_of 8 (by decide) (by decide) (by decide)
  obtain ⟨w, rfl, bw⟩ : ∃ w, x = .int w ∧ Bd w 97 := by
    simp only [List.mem_cons, List.not_mem_nil, or_false] at hx
    rcases hx with rfl | rfl | rfl | rfl
    · exact ⟨_, rfl, bN.mono (by decide)⟩
    · exact ⟨_, rfl, bN.mono (by decide)⟩
    · exact ⟨_, rfl, (m4.add b7).mono (by decide)⟩
    · exact ⟨_, rfl, (m24.sub b5).mono (by decide)⟩
  refine ⟨w, l2, ?_, bw, P2⟩
  have s1 : sSet 1 (fBin (gI0 fun i j => .int (i - j)) (fCallP 0 G_law_draw (fCons (fC (.int 41)) fNil)) (fC (.int 20))) [.own .pot l, .un] = some (.nx [.own .pot l1, .val (.int (n - 20))]) := by
    rw [sSet, bin_eq (callP_eq rfl e1) rfl rfl]
    rfl
  have p4 : okPow 10 4 = true := by decide +kernel
  have p24 : okPow 10 24 = true := by decide +kernel
  have v4 : fBin (gI okPow fun i j => .int (i ^ j.toNat)) (fC (.int 10)) (fC (.int 4)) [.own .pot l1, .val (.int (n - 20))] = some (.int (10 ^ 4), [.own .pot l1, .val (.int (n - 20))]) := bin_eq rfl rfl (by simp only [gI, p4, if_true]; rfl)
  have v24 : fBin (gI okPow fun i j => .int (i ^ j.toNat)) (fC (.int 10)) (fC (.int 24)) [.own .pot l1, .val (.int (n - 20))] = some (.int (10 ^ 24), [.own .pot l1, .val (.int (n - 20))]) := bin_eq rfl rfl (by simp only [gI, p24, if_true]; rfl)
  have u4 : fBin gAdd0 (fBin gM (fV 1) (fBin (gI okPow fun i j => .int (i ^ j.toNat)) (fC (.int 10)) (fC (.int 4)))) (fC (.int 7)) [.own .pot l1, .val (.int (n - 20))] = some (.int ((n - 20) * 10 ^ 4 + 7), [.own .pot l1, .val (.int (n - 20))]) := bin_eq (bin_eq (d := .int ((n - 20) * 10 ^ 4)) rfl v4 (by simp only [gM, Dl.gOr, gI, k4, if_true])) rfl rfl
  have u24 : fBin (gI0 fun i j => .int (i - j)) (fBin gM (fV 1) (fBin (gI okPow fun i j => .int (i ^ j.toNat)) (fC (.int 10)) (fC (.int 24)))) (fC (.int 5)) [.own .pot l1, .val (.int (n - 20))] = some (.int ((n - 20) * 10 ^ 24 - 5), [.own .pot l1, .val (.int (n - 20))]) := bin_eq (bin_eq (d := .int ((n - 20) * 10 ^ 24)) rfl v24 (by simp only [gM, Dl.gOr, gI, k24, if_true])) rfl rfl
  have c1 : fCons (fFr (fLst (fCons (fV 1) (fCons (fV 1) (fCons (fBin gAdd0 (fBin gM (fV 1) (fBin (gI okPow fun i j => .int (i ^ j.toNat)) (fC (.int 10)) (fC (.int 4)))) (fC (.int 7))) (fCons (fBin (gI0 fun i j => .int (i - j)) (fBin gM (fV 1) (fBin (gI okPow fun i j => .int (i ^ j.toNat)) (fC (.int 10)) (fC (.int 24)))) (fC (.int 5))) fNil)))))) fNil [.own .pot l1, .val (.int (n - 20))] = some ([.lst [.int (n - 20), .int (n - 20), .int ((n - 20) * 10 ^ 4 + 7), .int ((n - 20) * 10 ^ 24 - 5)]], [.own .pot l1, .val (.int (n - 20))]) := by
    have hb : (4 : Nat) ≤ big := by decide
    refine cons1 ?_
    simp only [fFr, fLst, fCons, fV, List.getElem?_cons_zero, List.getElem?_cons_succ, Option.bind_some, u4, u24, fNil, List.length_cons, List.length_nil, hb, if_true, Option.map_some, Nat.zero_add, Nat.reduceAdd]
  show (g_law_whole [.own .pot l, .un]).bind endP = _
  rw [g_law_whole, seq_nx s1, sRet, callP_eq c1 e2]
  rfl
end My
namespace My
open PySem PySem.Spec PyProof.Rows L2 ClX Dl
/-! the least form tells the endless rows alone; trimmed rows tell the coefficients alone -/
section
variable {α : Type} [DecidableEq α]
theorem f_self (R : List α) (i : Nat) : fOf R (i + R.length) = fOf R i := by unfold fOf; rw [Nat.add_mod_right]
theorem f_lt {R : List α} {i : Nat} (h : i < R.length) : fOf R i = R[i]? := by unfold fOf; rw [Nat.mod_eq_of_lt h]
theorem lst_le {R S : List α} (hR : 0 < R.length) (hS : 0 < S.length) (h : ∀ i, fOf R i = fOf S i) {p p' : Nat} (a : Lst R p) (a' : Lst S p') : p ≤ p' := by
  have okB := (okP_f hS a'.1).mp a'.2.2.1
  have hB : ∀ i, fOf R (i + p') = fOf R i := fun i => by rw [h, h]; exact okB.2 i
  have hg := per_gcd (f := fOf R) p' R.length hB (f_self R)
  have g0 : 0 < Nat.gcd p' R.length := Nat.gcd_pos_of_pos_left _ a'.1
  have gd : Nat.gcd p' R.length ∣ R.length := Nat.gcd_dvd_right _ _
  have gle : Nat.gcd p' R.length ≤ p' := Nat.le_of_dvd a'.1 (Nat.gcd_dvd_left _ _)
  have okR : okP R (Nat.gcd p' R.length) = true := (okP_f hR g0).mpr ⟨gd, hg⟩
  by_cases z : Nat.gcd p' R.length < p
  · have := a.2.2.2 _ g0 z; rw [okR] at this; cases this
  · omega
theorem least_f {R S : List α} (hR : 0 < R.length) (hS : 0 < S.length) (h : ∀ i, fOf R i = fOf S i) : least R = least S := by
  obtain ⟨p, a, b⟩ := least_spec hR
  obtain ⟨p', a', b'⟩ := least_spec hS
  have e : p = p' := Nat.le_antisymm (lst_le hR hS h a a') (lst_le hS hR (fun i => (h i).symm) a' a)
  subst e
  rw [b, b']
  have l1 := a.2.1
  have l2 := a'.2.1
  apply List.ext_getElem?
  intro i
  rw [List.getElem?_take, List.getElem?_take]
  by_cases z : i < p
  · rw [if_pos z, if_pos z, ← f_lt (by omega), ← f_lt (R := S) (by omega), h]
  · rw [if_neg z, if_neg z]
theorem f_least {R : List α} (hR : 0 < R.length) (i : Nat) : fOf (least R) i = fOf R i := by
  obtain ⟨p, a, b⟩ := least_spec hR
  have c := (okP_iff R p).mp a.2.2.1
  have p0 := a.1
  have pl := a.2.1
  have hl : (R.take p).length = p := by simp; omega
  have hd : p ∣ R.length := Nat.dvd_of_mod_eq_zero c.1
  unfold fOf
  rw [b, hl, List.getElem?_take, if_pos (Nat.mod_lt _ p0), c.2 _ (Nat.mod_lt _ hR), Nat.mod_mod_of_dvd _ hd]
theorem least_idem {R : List α} (hR : 0 < R.length) : least (least R) = least R := least_f (least_len hR).1 hR (f_least hR)
theorem least_iff {R S : List α} (hR : 0 < R.length) (hS : 0 < S.length) : least R = least S ↔ ∀ i, fOf R i = fOf S i := by
  constructor
  · intro h i
    rw [← f_least hR, ← f_least hS, h]
  · exact least_f hR hS
/-- no shorter period is left -/
theorem least_none {R : List α} (hR : 0 < R.length) {j : Nat} (h1 : 1 ≤ j) (h2 : j < (least R).length) : okP (least R) j = false := by
  have hl := (least_len hR).1
  obtain ⟨p, a, b⟩ := least_spec hl
  have e := congrArg List.length b
  rw [least_idem hR, List.length_take] at e
  have := a.2.1
  exact a.2.2.2 j h1 (by omega)
theorem f_map {β : Type} (f : α → β) (R : List α) (i : Nat) : fOf (R.map f) i = (fOf R i).map f := by
  unfold fOf
  rw [List.length_map, List.getElem?_map]
end
/-- coefficients -/
def cf (ts : List Int) (j : Nat) : Int := ts[j]?.getD 0
theorem cf_nil (j : Nat) : cf [] j = 0 := by simp [cf]
theorem cf_ge {ts : List Int} {j : Nat} (h : ts.length ≤ j) : cf ts j = 0 := by unfold cf; rw [List.getElem?_eq_none h]; rfl
theorem cf_trim (ts : List Int) (j : Nat) : cf (trim ts) j = cf ts j := trim_get ts j
theorem pad_ext {a b : List Int} (h : ∀ j, cf a j = cf b j) (hl : a.length ≤ b.length) : a ++ List.replicate (b.length - a.length) 0 = b := by
  apply List.ext_getElem?
  intro j
  have hj := h j
  unfold cf at hj
  by_cases z : j < a.length
  · have zb : j < b.length := by omega
    rw [List.getElem?_append_left z, List.getElem?_eq_getElem z, List.getElem?_eq_getElem zb]
    rw [List.getElem?_eq_getElem z, List.getElem?_eq_getElem zb] at hj
    simpa using hj
  · rw [List.getElem?_append_right (by omega)]
    by_cases zb : j < b.length
    · rw [List.getElem?_replicate, if_pos (by omega), List.getElem?_eq_getElem zb]
      rw [List.getElem?_eq_none (by omega), List.getElem?_eq_getElem zb] at hj
      simp at hj
      simp [hj]
    · rw [List.getElem?_replicate, if_neg (by omega), List.getElem?_eq_none (by omega)]
theorem trim_ext {a b : List Int} (h : ∀ j, cf a j = cf b j) : trim a = trim b := by
  by_cases z : a.length ≤ b.length
  · rw [← pad_ext h z, trim_pad]
  · have := pad_ext (fun j => (h j).symm) (show b.length ≤ a.length by omega)
    rw [← this, trim_pad]
theorem trim_iff {a b : List Int} : trim a = trim b ↔ ∀ j, cf a j = cf b j := by
  constructor
  · intro h j
    rw [← cf_trim a, ← cf_trim b, h]
  · exact trim_ext
theorem trim_trim (a : List Int) : trim (trim a) = trim a := trim_ext (cf_trim a)
/-- the last of a trimmed row is not nought -/
theorem trim_last {ts : List Int} {t : Int} {r : List Int} (h : trim ts = r ++ [t]) : t ≠ 0 := by
  intro z
  subst z
  have e := trim_trim ts
  rw [h] at e
  have e2 := trim_pad r 1
  rw [show r ++ List.replicate 1 0 = r ++ [0] from rfl, e] at e2
  have := congrArg List.length e2
  have l := trim_len r
  simp at this
  omega
/-- hor in coefficients: rows of three -/
theorem hor3 (w : Int) {ts : List Int} (h : ts.length ≤ 3) : hor w ts = cf ts 0 + cf ts 1 * w + cf ts 2 * (w * w) := by
  match ts, h with
  | [], _ => simp [hor, cf]
  | [a], _ => simp [hor, cf]
  | [a, b], _ => simp [hor, cf]; grind
  | [a, b, c], _ => simp [hor, cf]; grind
/-- the coefficients of a row of three, its letter led to by * x + s -/
def put3 (ts : List Int) (by' s : Int) : Nat → Int
  | 0 => cf ts 0 + cf ts 1 * s + cf ts 2 * (s * s)
  | 1 => by' * (cf ts 1 + 2 * cf ts 2 * s)
  | 2 => by' * by' * cf ts 2
  | _ => 0
theorem put3_put (ts us : List Int) (a s b t : Int) (h : ∀ j, cf us j = put3 ts a s j) (j : Nat) : put3 us b t j = put3 ts (a * b) (a * t + s) j := by
  have h0 := h 0
  have h1 := h 1
  have h2 := h 2
  match j with
  | 0 => simp only [put3, h0, h1, h2] at *; grind
  | 1 => simp only [put3, h0, h1, h2] at *; grind
  | 2 => simp only [put3, h0, h1, h2] at *; grind
  | _ + 3 => rfl
theorem put3_hor (ts us : List Int) (hl : ts.length ≤ 3) (hu : us.length ≤ 3) (a s w : Int) (h : ∀ j, cf us j = put3 ts a s j) : hor w us = hor (a * w + s) ts := by
  rw [hor3 w hu, hor3 _ hl, h 0, h 1, h 2]
  simp only [put3]
  grind
end My
namespace My
open PySem PySem.Spec PyProof.Rows L2 ClX Dl
theorem gOr_l {g g' : D → D → Option D} {x y d : D} (h : g x y = some d) : Dl.gOr g g' x y = some d := by simp [Dl.gOr, h]
theorem callP_eq2 {F : List D → List D → Option (D × List D)} {fa : FA} {l l1 l' : List D} {r r1 : Es} {ds : List D} {d : D} (hfa : fa (.own .pot l :: r) = some (ds, .own .pot l1 :: r1)) (hF : F l1 ds = some (d, l')) : fCallP 0 F fa (.own .pot l :: r) = some (d, .own .pot l' :: r1) := by
  simp [fCallP, isOwn, hfa, isL, hF]
theorem cons2 {f g : FE} {δ δ1 δ2 : Es} {d e : D} (h1 : f δ = some (d, δ1)) (h2 : g δ1 = some (e, δ2)) : fCons f (fCons g fNil) δ = some ([d, e], δ2) := by
  simp only [fCons, h1, h2, Option.bind_some, fNil]
theorem par_eq {i j : Nat} {fa : FA} {δ δ1 : Es} {a b : D} (h : fa δ = some ([a, b], δ1)) : sPar i j fa δ = some (.nx ((δ1.set i (.val a)).set j (.val b))) := by
  simp only [sPar, h, Option.bind_some]
theorem set_eq {i : Nat} {fe : FE} {δ δ1 : Es} {a : D} (h : fe δ = some (a, δ1)) : sSet i fe δ = some (.nx (δ1.set i (.val a))) := by
  simp only [sSet, h, Option.map_some]
theorem make1 {c : Nat} {F : List D → Option (List D)} {fe : FE} {δ δ1 : Es} {x : D} {fs : List D} (h : fe δ = some (x, δ1)) (hF : F [x] = some fs) : fMake c F (gPos []) (fCons fe fNil) fNil δ = some (.obj c fs, δ1) := by
  simp only [fMake, fCons, fNil, h, Option.bind_some, gPos, List.append_nil, hF, Option.map_some]
theorem makeK {c : Nat} {F : List D → Option (List D)} {fe : FE} {δ δ1 : Es} {x : D} {fs : List D} (h : fe δ = some (x, δ1)) (hF : F [x] = some fs) : fMake c F (gPos []) fNil (fCons fe fNil) δ = some (.obj c fs, δ1) := by
  simp only [fMake, fCons, fNil, h, Option.bind_some, gPos, List.append_nil, List.nil_append, hF, Option.map_some]
theorem meth0 {c : Nat} {F : List D → Option D} {fo : FE} {δ δ1 : Es} {fs : List D} {d : D} (h : fo δ = some (.obj c fs, δ1)) (hF : F [.obj c fs] = some d) : fMeth c F (gPos []) fo fNil fNil δ = some (d, δ1) := by
  simp only [fMeth, fNil, h, Option.bind_some, gPos, List.append_nil, hF, Option.map_some, if_true]
theorem meth1 {c : Nat} {F : List D → Option D} {fo fe : FE} {δ δ1 δ2 : Es} {fs : List D} {x d : D} (h : fo δ = some (.obj c fs, δ1)) (hx : fe δ1 = some (x, δ2)) (hF : F [.obj c fs, x] = some d) : fMeth c F (gPos []) fo (fCons fe fNil) fNil δ = some (d, δ2) := by
  simp only [fMeth, fCons, fNil, h, hx, Option.bind_some, gPos, List.append_nil, hF, Option.map_some, if_true]
theorem methK {c : Nat} {F : List D → Option D} {fo fe : FE} {δ δ1 δ2 : Es} {fs : List D} {x d : D} (h : fo δ = some (.obj c fs, δ1)) (hx : fe δ1 = some (x, δ2)) (hF : F [.obj c fs, x] = some d) : fMeth c F (gPos []) fo fNil (fCons fe fNil) δ = some (d, δ2) := by
  simp only [fMeth, fCons, fNil, h, hx, Option.bind_some, gPos, List.append_nil, List.cons_append, List.nil_append, hF, Option.map_some, if_true]
theorem prop_eq {c : Nat} {F : List D → Option D} {fo : FE} {δ δ1 : Es} {fs : List D} {d : D} (h : fo δ = some (.obj c fs, δ1)) (hF : F [.obj c fs] = some d) : fProp c F fo δ = some (d, δ1) := by
  simp only [fProp, h, Option.bind_some, hF, Option.map_some, if_true]
theorem or_f {f g : FT} {δ δ1 : Es} (h : f δ = some (false, δ1)) : fOr f g δ = g δ1 := by
  simp only [fOr, h, Option.bind_some, Bool.false_eq_true, if_false]
theorem or_t {f g : FT} {δ δ1 : Es} (h : f δ = some (true, δ1)) : fOr f g δ = some (true, δ1) := by
  simp only [fOr, h, Option.bind_some, if_true]
theorem fB_eq {fe : FE} {δ δ1 : Es} {b : Bool} (h : fe δ = some (.bl b, δ1)) : fB fe δ = some (b, δ1) := by
  simp only [fB, h, Option.bind_some]
theorem sIf_f {c : FT} {a : FS} {δ δ1 : Es} (h : c δ = some (false, δ1)) : sIf c a sNil δ = some (.nx δ1) := by
  simp only [sIf, h, Option.bind_some, Bool.false_eq_true, if_false, sNil]
theorem fr_eq {fa : FA} {δ δ1 : Es} {ds : List D} (h : fa δ = some (ds, δ1)) : fFr fa δ = some (.lst ds, δ1) := by
  simp only [fFr, h, Option.map_some]
theorem sq_eq {fe : FE} {δ δ1 : Es} {ds : List D} (h : fe δ = some (.lst ds, δ1)) : fSq fe δ = some (ds, δ1) := by
  simp only [fSq, h, Option.bind_some]
theorem tup_eq {fa : FA} {δ δ1 : Es} {ds : List D} (h : fa δ = some (ds, δ1)) (hb : ds.length ≤ big) : fTup fa δ = some (.tup ds, δ1) := by
  simp only [fTup, h, Option.bind_some, hb, if_true]
/-! numbers and rows with a common bottom, added and multiplied -/
theorem mk_bd {q t : Int} {n : Nat} (bt : Bd t n) : Bd (nrm t q).1 n := bt.le (nrm_le t q).1
theorem mk_bd2 {q t : Int} {n : Nat} (bq : Bd q n) : Bd (nrm t q).2 n := bq.le (nrm_le t q).2
theorem add_mk {q s t : Int} (hq : 0 < q) (bq : Bd q 60) (bs : Bd s 1800) (bt : Bd t 1800) : gAd (mk q s) (mk q t) = some (mk q (s + t)) := by
  have hq0 : q ≠ 0 := by omega
  have n2 := nrm_is (t := s) hq0
  have n3 := nrm_is (t := t) hq0
  have a1 := p_add (p := (nrm s q).1) (q := (nrm s q).2) (r := (nrm t q).1) (s := (nrm t q).2) (Int.ne_of_gt n2.pos) (Int.ne_of_gt n3.pos) ((mk_bd bs).mono (by decide)) ((mk_bd2 bq).mono (by decide)) ((mk_bd bt).mono (by decide)) ((mk_bd2 bq).mono (by decide))
  have g2 : gAd (mk q s) (mk q t) = some (mkR ((nrm s q).1 * (nrm t q).2 + (nrm t q).1 * (nrm s q).2) ((nrm s q).2 * (nrm t q).2)) := by
    simp [gAd, Dl.gOr, gAdd0, gI0, gCatS, gCatL, gOwn2, mk, mkR, R, a1]
  rw [g2]
  have e2 : nrm ((nrm s q).1 * (nrm t q).2 + (nrm t q).1 * (nrm s q).2) ((nrm s q).2 * (nrm t q).2) = nrm (s + t) q := by
    refine nrm_same (Int.mul_ne_zero (Int.ne_of_gt n2.pos) (Int.ne_of_gt n3.pos)) hq0 ?_
    have h2 := n2.eq
    have h3 := n3.eq
    generalize (nrm s q).1 = A at *
    generalize (nrm s q).2 = B at *
    generalize (nrm t q).1 = C at *
    generalize (nrm t q).2 = E at *
    grind
  unfold mk mkR
  rw [e2]
abbrev gM4 : D → D → Option D := gOr (gOr (gOr (gI okMul fun i j => .int (i * j)) gRep) (gOwn2 0 G_Ratio_mul)) (gOwnR 0 G_Ratio_rmul)
theorem mul_mk {b q k t : Int} (hb : 0 < b) (hq : 0 < q) (bb : Bd b 60) (bq : Bd q 60) (bk : Bd k 1500) (bt : Bd t 1500) : gMu (mk b k) (mk q t) = some (mk (b * q) (k * t)) := by
  have hb0 : b ≠ 0 := by omega
  have hq0 : q ≠ 0 := by omega
  have n2 := nrm_is (t := k) hb0
  have n3 := nrm_is (t := t) hq0
  have a1 := p_mul (p := (nrm k b).1) (q := (nrm k b).2) (r := (nrm t q).1) (s := (nrm t q).2) (Int.ne_of_gt n2.pos) (Int.ne_of_gt n3.pos) ((mk_bd bk).mono (by decide)) ((mk_bd2 bb).mono (by decide)) ((mk_bd bt).mono (by decide)) ((mk_bd2 bq).mono (by decide))
  have g2 : gMu (mk b k) (mk q t) = some (mkR ((nrm k b).1 * (nrm t q).1) ((nrm k b).2 * (nrm t q).2)) := by
    simp [gMu, Dl.gOr, gI, gRep, gOwn2, mk, mkR, R, a1]
  rw [g2]
  have e2 : nrm ((nrm k b).1 * (nrm t q).1) ((nrm k b).2 * (nrm t q).2) = nrm (k * t) (b * q) := by
    refine nrm_same (Int.mul_ne_zero (Int.ne_of_gt n2.pos) (Int.ne_of_gt n3.pos)) (Int.mul_ne_zero hb0 hq0) ?_
    have h2 := n2.eq
    have h3 := n3.eq
    generalize (nrm k b).1 = A at *
    generalize (nrm k b).2 = B at *
    generalize (nrm t q).1 = C at *
    generalize (nrm t q).2 = E at *
    have : (A * b) * (C * q) = (k * B) * (t * E) := by rw [h2, h3]
    grind
  unfold mk mkR
  rw [e2]
theorem mk_one (i : Int) : mk 1 i = R i 1 := by simp [mk, mkR, nrm_one]
theorem rmul_mk {q n t : Int} (hq : 0 < q) (bq : Bd q 60) (bn : Bd n 1500) (bt : Bd t 1500) : gM4 (.int n) (mk q t) = some (mk q (n * t)) := by
  have m := mul_mk (b := 1) (q := q) (k := n) (t := t) (by decide) hq (bdOne (by decide)) bq bn bt
  rw [Int.one_mul, mk_one] at m
  have r : G_Ratio_rmul [mk q t, .int n] = some (mk q (n * t)) := by
    refine out1 (d := some (mk q (n * t))) (δ := [.val (mk q t), .val (.int n)]) ?_
    have c : fCall G_as_ratio (gPos []) (fCons (fV 1) fNil) fNil [.val (mk q t), .val (.int n)] = some (R n 1, [.val (mk q t), .val (.int n)]) := call1 rfl (p_as_ratioI n)
    exact bin_eq c rfl m
  have n1 : gOr (gOr (gI okMul fun i j => .int (i * j)) gRep) (gOwn2 0 G_Ratio_mul) (.int n) (mk q t) = none := by simp [Dl.gOr, gI, gRep, gOwn2]
  have n2 : gOwnR 0 G_Ratio_rmul (.int n) (mk q t) = some (mk q (n * t)) := by
    show (if (0 : Nat) = 0 then G_Ratio_rmul [mk q t, .int n] else none) = _
    rw [if_pos rfl, r]
  exact (gOr_r n1).trans n2
theorem mul4_mk {b q k t : Int} (hb : 0 < b) (hq : 0 < q) (bb : Bd b 60) (bq : Bd q 60) (bk : Bd k 1500) (bt : Bd t 1500) : gM4 (mk b k) (mk q t) = some (mk (b * q) (k * t)) := by
  have m := mul_mk hb hq bb bq bk bt
  unfold gM4
  simp only [Dl.gOr] at m ⊢
  rw [m]
/-- another bottom -/
theorem mk_scale {q t c : Int} (hq : 0 < q) (hc : 0 < c) : mk q t = mk (c * q) (c * t) := by
  unfold mk mkR
  have := nrm_same (t := t) (b := q) (t' := c * t) (b' := c * q) (by omega) (Int.mul_ne_zero (by omega) (by omega)) (by grind)
  rw [this]
theorem row_scale {q c : Int} (hq : 0 < q) (hc : 0 < c) (ts : List Int) : rowR q ts = rowR (c * q) (ts.map fun t => c * t) := by
  unfold rowR
  rw [List.map_map]
  congr 1
  apply List.map_congr_left
  intro t _
  exact mk_scale hq hc
/-- multiplied -/
theorem p_multiplied {q n : Int} (hq : 0 < q) (bq : Bd q 60) (bn : Bd n 1500) (ts : List Int) (ht : ∀ t, t ∈ ts → Bd t 1500) (hl : ts.length ≤ 1000) : G_multiplied [rowR q ts, .int n] = some (rowR q (ts.map fun t => n * t)) := by
  have e := flc (i := 2) (fI := fSq (fV 0)) (fe := fBin gM4 (fV 1) (fV 2)) (h := fun d => gM4 (.int n) d) (δ := [.val (rowR q ts), .val (.int n), .un]) (δ1 := [.val (rowR q ts), .val (.int n), .un]) (ds := ts.map (mk q)) rfl rfl (fun d hd => by
    obtain ⟨t, h, rfl⟩ := List.mem_map.mp hd
    rw [rmul_mk hq bq bn (ht t h)]
    exact bin_eq rfl rfl (rmul_mk hq bq bn (ht t h))) (by unfold big; simp; omega)
  have m : mapO (fun d => gM4 (.int n) d) (ts.map (mk q)) = some ((ts.map fun t => n * t).map (mk q)) := by
    clear e hl
    induction ts with
    | nil => rfl
    | cons t ts ih => simp only [List.map_cons, mapO, rmul_mk hq bq bn (ht t (List.mem_cons_self ..)), ih fun u hu => ht u (List.mem_cons_of_mem _ hu), Option.bind_some, Option.map_some]
  rw [m, Option.map_some] at e
  exact out1 (d := some (rowR q (ts.map fun t => n * t))) (δ := [.val (rowR q ts), .val (.int n), .un]) (fr_eq e)
/-- padded to a length -/
abbrev padL (n : Nat) (ts : List Int) : List Int := ts ++ List.replicate (n - ts.length) 0
theorem cf_pad (n : Nat) (ts : List Int) (j : Nat) : cf (padL n ts) j = cf ts j := by
  unfold cf padL
  by_cases h : j < ts.length
  · rw [List.getElem?_append_left h]
  · rw [List.getElem?_append_right (by omega), List.getElem?_eq_none (show ts.length ≤ j by omega), List.getElem?_replicate]
    split <;> rfl
theorem padL_len {n : Nat} {ts : List Int} (h : ts.length ≤ n) : (padL n ts).length = n := by simp; omega
abbrev sumL (a b : List Int) : List Int := List.zipWith (fun x y => x + y) (padL (max a.length b.length) a) (padL (max a.length b.length) b)
theorem sumL_len (a b : List Int) : (sumL a b).length = max a.length b.length := by
  rw [List.length_zipWith, padL_len (Nat.le_max_left _ _), padL_len (Nat.le_max_right _ _), Nat.min_self]
theorem cf_sumL (a b : List Int) (j : Nat) : cf (sumL a b) j = cf a j + cf b j := by
  rw [← cf_pad (max a.length b.length) a, ← cf_pad (max a.length b.length) b]
  have l1 := padL_len (ts := a) (Nat.le_max_left a.length b.length)
  have l2 := padL_len (ts := b) (Nat.le_max_right a.length b.length)
  unfold cf
  by_cases h : j < max a.length b.length
  · rw [List.getElem?_zipWith, List.getElem?_eq_getElem (by rw [l1]; exact h), List.getElem?_eq_getElem (by rw [l2]; exact h)]
    rfl
  · rw [List.getElem?_eq_none (by rw [sumL_len]; omega), List.getElem?_eq_none (by rw [l1]; omega), List.getElem?_eq_none (by rw [l2]; omega)]
    rfl
theorem ratio0 {q : Int} (hq : 0 < q) : fMake 0 G_Ratio_init (gPos [.int 1]) (fCons (fC (.int 0)) fNil) fNil = fun δ => some (mk q 0, δ) := mk_zero q hq
theorem lst1 {f : FE} {δ δ1 : Es} {d : D} (h : f δ = some (d, δ1)) : fFr (fLst (fCons f fNil)) δ = some (.lst [d], δ1) := by
  have b : [d].length ≤ big := by show 1 ≤ big; decide
  exact fr_eq (by rw [fLst]; simp only [fCons, h, Option.bind_some, fNil]; exact if_pos b)
theorem pad_elt {q : Int} (hq : 0 < q) {x y : D} {ts : List Int} {n : Nat} (hn : n ≤ 500) (hl : ts.length ≤ n) {s3 s5 s6 : Sl} :
    fBin (gOr gAdd0 (gOwn2 0 G_Ratio_add)) (fV 4) (fBin (gOr (gOr (gI okMul fun i j => .int (i * j)) gRep) (gOwn2 0 G_Ratio_mul)) (fFr (fLst (fCons (fMake 0 G_Ratio_init (gPos [.int 1]) (fCons (fC (.int 0)) fNil) fNil) fNil))) (fBin (gI0 fun i j => .int (i - j)) (fV 2) (fLenN 4))) [.val x, .val y, .val (.int n), s3, .val (rowR q ts), s5, s6] = some (rowR q (padL n ts), [.val x, .val y, .val (.int n), s3, .val (rowR q ts), s5, s6]) := by
  have l0 := fLenN_val (i := 4) (δ := [.val x, .val y, .val (.int n), s3, .val (rowR q ts), s5, s6]) (d := rowR q ts) (.inl rfl) rfl
  rw [List.length_map] at l0
  have k : (n : Int) - (ts.length : Int) = ((n - ts.length : Nat) : Int) := by omega
  have c1 : fBin (gI0 fun i j => .int (i - j)) (fV 2) (fLenN 4) [.val x, .val y, .val (.int n), s3, .val (rowR q ts), s5, s6] = some (.int ((n - ts.length : Nat) : Int), [.val x, .val y, .val (.int n), s3, .val (rowR q ts), s5, s6]) := bin_eq rfl l0 (by show some (D.int ((n : Int) - (ts.length : Int))) = _; rw [k])
  have c2 : fFr (fLst (fCons (fMake 0 G_Ratio_init (gPos [.int 1]) (fCons (fC (.int 0)) fNil) fNil) fNil)) [.val x, .val y, .val (.int n), s3, .val (rowR q ts), s5, s6] = some (.lst [mk q 0], [.val x, .val y, .val (.int n), s3, .val (rowR q ts), s5, s6]) := lst1 (by rw [ratio0 hq])
  have g1 := gM_rep [mk q 0] (n - ts.length) (by simp; omega) (by omega)
  have fl : rep (n - ts.length) [mk q 0] = (List.replicate (n - ts.length) (0 : Int)).map (mk q) := by
    generalize n - ts.length = m
    induction m with
    | zero => rfl
    | succ m ih => rw [rep, List.replicate_succ, List.flatten_cons, List.replicate_succ, List.map_cons, ← ih]; rfl
  rw [show (List.replicate (n - ts.length) [mk q 0]).flatten = _ from fl] at g1
  have g2 := gAdd_lst (ts.map (mk q)) ((List.replicate (n - ts.length) (0 : Int)).map (mk q)) (by simp; omega)
  rw [← List.map_append] at g2
  exact bin_eq rfl (bin_eq c2 c1 (gOr_l g1)) (gOr_l g2)
end My
namespace My
open PySem PySem.Spec PyProof.Rows L2 ClX Dl
/-! rows added, led -/
def addE : FE := fBin (gOr gAdd0 (gOwn2 0 G_Ratio_add)) (fV 5) (fV 6)
theorem add_loop {q : Int} (hq : 0 < q) (bq : Bd q 60) {w x y z u : Sl} : ∀ (a b : List Int) (acc : List D), (∀ t, t ∈ a → Bd t 1800) → (∀ t, t ∈ b → Bd t 1800) → a.length = b.length → acc.length + a.length ≤ 1000 →
    lcF (gT 2 (gsCons (gN 5) (gsCons (gN 6) gsNil))) fYes addE [5, 6] (pairsD (a.map (mk q)) (b.map (mk q))) acc [w, x, y, z, u, .un, .un] = some (acc ++ (List.zipWith (fun x y => x + y) a b).map (mk q), [w, x, y, z, u, .un, .un])
  | [], [], acc, _, _, _, _ => by simp [pairsD, lcF]
  | [], _ :: _, _, _, _, h, _ => by simp at h
  | _ :: _, [], _, _, _, h, _ => by simp at h
  | s :: a, t :: b, acc, ha, hb, hl, hz => by
    simp only [List.length_cons] at hl hz
    have ih := add_loop hq bq (w := w) (x := x) (y := y) (z := z) (u := u) a b (acc ++ [mk q (s + t)]) (fun r hr => ha r (List.mem_cons_of_mem _ hr)) (fun r hr => hb r (List.mem_cons_of_mem _ hr)) (by omega) (by simp; omega)
    have g := add_mk hq bq (ha s (List.mem_cons_self ..)) (hb t (List.mem_cons_self ..))
    have hbig : acc.length ≤ big := by unfold big; omega
    have e : addE [w, x, y, z, u, .val (mk q s), .val (mk q t)] = some (mk q (s + t), [w, x, y, z, u, .val (mk q s), .val (mk q t)]) := bin_eq rfl rfl g
    have tg : gT 2 (gsCons (gN 5) (gsCons (gN 6) gsNil)) (.tup [mk q s, mk q t]) [w, x, y, z, u, .un, .un] = some [w, x, y, z, u, .val (mk q s), .val (mk q t)] := rfl
    have pd : pairsD ((s :: a).map (mk q)) ((t :: b).map (mk q)) = .tup [mk q s, mk q t] :: pairsD (a.map (mk q)) (b.map (mk q)) := rfl
    have wp : wipeE [w, x, y, z, u, .val (mk q s), .val (mk q t)] [5, 6] = [w, x, y, z, u, .un, .un] := rfl
    rw [pd, lcF, tg]
    simp only [fYes, Option.bind_some, if_true, e, hbig, wp]
    rw [ih]
    simp
theorem mem_pad {n : Nat} {ts : List Int} {t : Int} {m : Nat} (h : ∀ x, x ∈ ts → Bd x m) (ht : t ∈ padL n ts) : Bd t m := by
  rcases List.mem_append.mp ht with h1 | h1
  · exact h t h1
  · rw [List.eq_of_mem_replicate h1]; exact Nat.two_pow_pos _
def padD (q : Int) (n : Nat) : D → D
  | .lst xs => .lst (xs ++ List.replicate (n - xs.length) (mk q 0))
  | _ => .non
theorem pad_row (q : Int) (n : Nat) (ts : List Int) : padD q n (rowR q ts) = rowR q (padL n ts) := by simp [padD]
theorem p_summed {q : Int} (hq : 0 < q) (bq : Bd q 60) {a b : List Int} (ha : ∀ t, t ∈ a → Bd t 1800) (hb : ∀ t, t ∈ b → Bd t 1800) (la : a.length ≤ 400) (lb : b.length ≤ 400) : G_summed [rowR q a, rowR q b] = some (rowR q (sumL a b)) := by
  have l0 := fLenN_val (i := 0) (δ := [.val (rowR q a), .val (rowR q b), .un, .un, .un, .un, .un]) (d := rowR q a) (.inl rfl) rfl
  have l1 := fLenN_val (i := 1) (δ := [.val (rowR q a), .val (rowR q b), .un, .un, .un, .un, .un]) (d := rowR q b) (.inl rfl) rfl
  rw [List.length_map] at l0 l1
  have mx : (if (b.length : Int) > (a.length : Int) then (b.length : Int) else (a.length : Int)) = ((max a.length b.length : Nat) : Int) := by split <;> omega
  have f0 : fFun funMax2 (fCons (fLenN 0) (fCons (fLenN 1) fNil)) [.val (rowR q a), .val (rowR q b), .un, .un, .un, .un, .un] = some (.int ((max a.length b.length : Nat) : Int), [.val (rowR q a), .val (rowR q b), .un, .un, .un, .un, .un]) := by
    rw [fFun, cons2 l0 l1, Option.bind_some]
    show (some (D.int (if (b.length : Int) > (a.length : Int) then (b.length : Int) else (a.length : Int)))).map _ = _
    rw [mx]
    rfl
  have s0 := set_eq (i := 2) f0
  have n1 : max a.length b.length ≤ 500 := by omega
  have e := flc (i := 4) (fI := fSq (fFr (fLst (fCons (fV 0) (fCons (fV 1) fNil))))) (fe := fBin (gOr gAdd0 (gOwn2 0 G_Ratio_add)) (fV 4) (fBin (gOr (gOr (gI okMul fun i j => .int (i * j)) gRep) (gOwn2 0 G_Ratio_mul)) (fFr (fLst (fCons (fMake 0 G_Ratio_init (gPos [.int 1]) (fCons (fC (.int 0)) fNil) fNil) fNil))) (fBin (gI0 fun i j => .int (i - j)) (fV 2) (fLenN 4)))) (h := fun d => some (padD q (max a.length b.length) d)) (δ := [.val (rowR q a), .val (rowR q b), .val (.int ((max a.length b.length : Nat) : Int)), .un, .un, .un, .un]) (δ1 := [.val (rowR q a), .val (rowR q b), .val (.int ((max a.length b.length : Nat) : Int)), .un, .un, .un, .un]) (ds := [rowR q a, rowR q b]) rfl rfl (fun d hd => by
    rcases List.mem_cons.mp hd with h | h
    · rw [h, pad_row]
      exact pad_elt hq n1 (Nat.le_max_left _ _)
    · rw [List.mem_singleton.mp h, pad_row]
      exact pad_elt hq n1 (Nat.le_max_right _ _)) (by show 2 ≤ big; decide)
  have m : mapO (fun d => some (padD q (max a.length b.length) d)) [rowR q a, rowR q b] = some [rowR q (padL (max a.length b.length) a), rowR q (padL (max a.length b.length) b)] := by
    simp only [mapO, pad_row, Option.bind_some, Option.map_some]
  rw [m, Option.map_some] at e
  have s1 : sOwn 3 (fLc (fSq (fFr (fLst (fCons (fV 0) (fCons (fV 1) fNil))))) (gN 4) fYes (fBin (gOr gAdd0 (gOwn2 0 G_Ratio_add)) (fV 4) (fBin (gOr (gOr (gI okMul fun i j => .int (i * j)) gRep) (gOwn2 0 G_Ratio_mul)) (fFr (fLst (fCons (fMake 0 G_Ratio_init (gPos [.int 1]) (fCons (fC (.int 0)) fNil) fNil) fNil))) (fBin (gI0 fun i j => .int (i - j)) (fV 2) (fLenN 4)))) [4]) [.val (rowR q a), .val (rowR q b), .val (.int ((max a.length b.length : Nat) : Int)), .un, .un, .un, .un] = some (.nx [.val (rowR q a), .val (rowR q b), .val (.int ((max a.length b.length : Nat) : Int)), .own .mine [rowR q (padL (max a.length b.length) a), rowR q (padL (max a.length b.length) b)], .un, .un, .un]) := by
    rw [sOwn, e]
    rfl
  have z1 : fZipS (fV 3) [.val (rowR q a), .val (rowR q b), .val (.int ((max a.length b.length : Nat) : Int)), .own .mine [rowR q (padL (max a.length b.length) a), rowR q (padL (max a.length b.length) b)], .un, .un, .un] = some (pairsD ((padL (max a.length b.length) a).map (mk q)) ((padL (max a.length b.length) b).map (mk q)), [.val (rowR q a), .val (rowR q b), .val (.int ((max a.length b.length : Nat) : Int)), .val (.lst [rowR q (padL (max a.length b.length) a), rowR q (padL (max a.length b.length) b)]), .un, .un, .un]) := rfl
  have lp := add_loop hq bq (w := .val (rowR q a)) (x := .val (rowR q b)) (y := .val (.int ((max a.length b.length : Nat) : Int))) (z := .val (.lst [rowR q (padL (max a.length b.length) a), rowR q (padL (max a.length b.length) b)])) (u := .un) (padL (max a.length b.length) a) (padL (max a.length b.length) b) [] (fun t ht => mem_pad ha ht) (fun t ht => mem_pad hb ht) (by rw [padL_len (Nat.le_max_left _ _), padL_len (Nat.le_max_right _ _)]) (by rw [padL_len (Nat.le_max_left _ _)]; simp; omega)
  have z2 : fLc (fZipS (fV 3)) (gT 2 (gsCons (gN 5) (gsCons (gN 6) gsNil))) fYes addE [5, 6] [.val (rowR q a), .val (rowR q b), .val (.int ((max a.length b.length : Nat) : Int)), .own .mine [rowR q (padL (max a.length b.length) a), rowR q (padL (max a.length b.length) b)], .un, .un, .un] = some ((sumL a b).map (mk q), [.val (rowR q a), .val (rowR q b), .val (.int ((max a.length b.length : Nat) : Int)), .val (.lst [rowR q (padL (max a.length b.length) a), rowR q (padL (max a.length b.length) b)]), .un, .un, .un]) := by
    rw [fLc, z1]
    exact lp
  have s2 : (sRet (fFr (fLc (fZipS (fV 3)) (gT 2 (gsCons (gN 5) (gsCons (gN 6) gsNil))) fYes addE [5, 6]))) [.val (rowR q a), .val (rowR q b), .val (.int ((max a.length b.length : Nat) : Int)), .own .mine [rowR q (padL (max a.length b.length) a), rowR q (padL (max a.length b.length) b)], .un, .un, .un] = some (.rt (rowR q (sumL a b)) [.val (rowR q a), .val (rowR q b), .val (.int ((max a.length b.length : Nat) : Int)), .val (.lst [rowR q (padL (max a.length b.length) a), rowR q (padL (max a.length b.length) b)]), .un, .un, .un]) := by
    rw [sRet, fr_eq z2]
    rfl
  have g1 : g_summed = sSeq (sSet 2 (fFun funMax2 (fCons (fLenN 0) (fCons (fLenN 1) fNil)))) (sSeq (sOwn 3 (fLc (fSq (fFr (fLst (fCons (fV 0) (fCons (fV 1) fNil))))) (gN 4) fYes (fBin (gOr gAdd0 (gOwn2 0 G_Ratio_add)) (fV 4) (fBin (gOr (gOr (gI okMul fun i j => .int (i * j)) gRep) (gOwn2 0 G_Ratio_mul)) (fFr (fLst (fCons (fMake 0 G_Ratio_init (gPos [.int 1]) (fCons (fC (.int 0)) fNil) fNil) fNil))) (fBin (gI0 fun i j => .int (i - j)) (fV 2) (fLenN 4)))) [4])) (sRet (fFr (fLc (fZipS (fV 3)) (gT 2 (gsCons (gN 5) (gsCons (gN 6) gsNil))) fYes addE [5, 6])))) := rfl
  show (g_summed [.val (rowR q a), .val (rowR q b), .un, .un, .un, .un, .un]).bind endD = _
  rw [g1, seq_nx s0]
  show (sSeq _ _ [.val (rowR q a), .val (rowR q b), .val (.int ((max a.length b.length : Nat) : Int)), .un, .un, .un, .un]).bind endD = _
  rw [seq_nx s1, s2]
  rfl
end My
namespace My
open PySem PySem.Spec PyProof.Rows L2 ClX Dl
/-! a sum led to another letter -/
def BdR (ts : List Int) (n : Nat) : Prop := ∀ t, t ∈ ts → Bd t n
theorem BdR.mono {ts : List Int} {n m : Nat} (h : BdR ts n) (k : n ≤ m) : BdR ts m := fun t ht => (h t ht).mono k
theorem bd0 {n : Nat} : Bd 0 n := Nat.two_pow_pos _
theorem cf_mem {ts : List Int} {t : Int} (h : t ∈ ts) : ∃ j, t = cf ts j := by
  obtain ⟨j, hj, rfl⟩ := List.mem_iff_getElem.mp h
  exact ⟨j, by unfold cf; rw [List.getElem?_eq_getElem hj]; rfl⟩
theorem BdR.cf {ts : List Int} {n : Nat} (h : BdR ts n) (j : Nat) : Bd (cf ts j) n := by
  unfold My.cf
  by_cases z : j < ts.length
  · rw [List.getElem?_eq_getElem z]
    exact h _ (List.getElem_mem z)
  · rw [List.getElem?_eq_none (by omega)]
    exact bd0
theorem BdR.of {ts : List Int} {n : Nat} (h : ∀ j, Bd (My.cf ts j) n) : BdR ts n := fun t ht => by
  obtain ⟨j, rfl⟩ := cf_mem ht
  exact h j
theorem cf_map (n : Int) (ts : List Int) (j : Nat) : cf (ts.map fun t => n * t) j = n * cf ts j := by
  unfold cf
  rw [List.getElem?_map]
  cases ts[j]? <;> simp
theorem cf_cons0 (x : Int) (l : List Int) : cf (x :: l) 0 = x := rfl
theorem cf_consS (x : Int) (l : List Int) (j : Nat) : cf (x :: l) (j + 1) = cf l j := rfl
abbrev tsL (s b : Int) (ts : List Int) : List Int := sumL (ts.map fun t => s * t) (0 :: ts.map fun t => b * t)
abbrev stL (s b : Int) (F : List Int) (t : Int) : List Int := sumL (tsL s b F) [t]
theorem cf_tsL0 (s b : Int) (F : List Int) : cf (tsL s b F) 0 = s * cf F 0 := by
  rw [cf_sumL, cf_map, cf_cons0]; omega
theorem cf_tsLS (s b : Int) (F : List Int) (j : Nat) : cf (tsL s b F) (j + 1) = s * cf F (j + 1) + b * cf F j := by
  rw [cf_sumL, cf_map, cf_consS, cf_map]
theorem cf_st0 (s b : Int) (F : List Int) (t : Int) : cf (stL s b F t) 0 = s * cf F 0 + t := by
  rw [cf_sumL, cf_tsL0, cf_cons0]
theorem cf_stS (s b : Int) (F : List Int) (t : Int) (j : Nat) : cf (stL s b F t) (j + 1) = s * cf F (j + 1) + b * cf F j := by
  rw [cf_sumL, cf_tsLS, cf_consS, cf_nil]; omega
theorem tsL_len (s b : Int) (F : List Int) : (tsL s b F).length = F.length + 1 := by
  rw [sumL_len]; simp
theorem stL_len (s b : Int) (F : List Int) (t : Int) : (stL s b F t).length = F.length + 1 := by
  rw [sumL_len, tsL_len]; simp
theorem tsL_bd {s b : Int} {F : List Int} {n m : Nat} (hF : BdR F n) (hs : Bd s m) (hb : Bd b m) : BdR (tsL s b F) (n + m + 1) := BdR.of fun j => by
  cases j with
  | zero =>
    rw [cf_tsL0]
    exact (hs.mul (hF.cf 0)).mono (by omega)
  | succ j =>
    rw [cf_tsLS]
    exact (((hs.mul (hF.cf (j + 1))).mono (show m + n ≤ n + m by omega)).add ((hb.mul (hF.cf j)).mono (show m + n ≤ n + m by omega)))
theorem stL_bd {s b t : Int} {F : List Int} {n m : Nat} (hF : BdR F n) (hs : Bd s m) (hb : Bd b m) (ht : Bd t (n + m + 1)) : BdR (stL s b F t) (n + m + 2) := BdR.of fun j => by
  rw [cf_sumL]
  refine ((tsL_bd hF hs hb).cf j).add ?_
  cases j with
  | zero => exact ht
  | succ j => rw [cf_consS, cf_nil]; exact bd0
theorem map_bd {n : Int} {ts : List Int} {a m : Nat} (h : BdR ts a) (hn : Bd n m) : BdR (ts.map fun t => n * t) (m + a) := fun t ht => by
  obtain ⟨u, hu, rfl⟩ := List.mem_map.mp ht
  exact hn.mul (h u hu)
theorem cons_bd {ts : List Int} {a : Nat} (h : BdR ts a) : BdR (0 :: ts) a := fun t ht => by
  rcases List.mem_cons.mp ht with rfl | ht
  · exact bd0
  · exact h t ht
theorem row0 (q : Int) (ts : List Int) : rowR q (0 :: ts) = .lst ([mk q 0] ++ ts.map (mk q)) := rfl
theorem p_times_sum {q s b : Int} (hq : 0 < q) (bq : Bd q 60) {ts : List Int} {n m : Nat} (ht : BdR ts n) (bs : Bd s m) (bb : Bd b m) (hn : n + m ≤ 1400) (hl : ts.length ≤ 100) : G_times_sum [rowR q ts, .int s, .int b] = some (rowR q (tsL s b ts)) := by
  have m1 := p_multiplied hq bq (n := s) (bs.mono (by omega)) ts (fun t h => (ht t h).mono (by omega)) (by omega)
  have m2 := p_multiplied hq bq (n := b) (bb.mono (by omega)) ts (fun t h => (ht t h).mono (by omega)) (by omega)
  have c1 : fCall G_multiplied (gPos []) (fCons (fV 0) (fCons (fV 1) fNil)) fNil [.val (rowR q ts), .val (.int s), .val (.int b)] = some (rowR q (ts.map fun t => s * t), [.val (rowR q ts), .val (.int s), .val (.int b)]) := call2 rfl rfl m1
  have c2 : fCall G_multiplied (gPos []) (fCons (fV 0) (fCons (fV 2) fNil)) fNil [.val (rowR q ts), .val (.int s), .val (.int b)] = some (rowR q (ts.map fun t => b * t), [.val (rowR q ts), .val (.int s), .val (.int b)]) := call2 rfl rfl m2
  have c3 : fFr (fLst (fCons (fMake 0 G_Ratio_init (gPos [.int 1]) (fCons (fC (.int 0)) fNil) fNil) fNil)) [.val (rowR q ts), .val (.int s), .val (.int b)] = some (.lst [mk q 0], [.val (rowR q ts), .val (.int s), .val (.int b)]) := lst1 (by rw [ratio0 hq])
  have g := gAdd_lst [mk q 0] ((ts.map fun t => b * t).map (mk q)) (by simp; omega)
  have c4 := bin_eq (g := gOr gAdd0 (gOwn2 0 G_Ratio_add)) c3 c2 (gOr_l g)
  have sm := p_summed hq bq (a := ts.map fun t => s * t) (b := 0 :: ts.map fun t => b * t) (fun t h => (map_bd ht bs t h).mono (by omega)) (fun t h => (cons_bd (map_bd ht bb) t h).mono (by omega)) (by simp; omega) (by simp; omega)
  have c5 := call2 (F := G_summed) c1 c4 sm
  refine out1 (d := some (rowR q (tsL s b ts))) (δ := [.val (rowR q ts), .val (.int s), .val (.int b)]) ?_
  exact c5
/-- the loop of put_sum -/
theorem call3 {F : List D → Option D} {fa fb fc : FE} {δ : Es} {a b c r : D} (ha : fa δ = some (a, δ)) (hb : fb δ = some (b, δ)) (hc : fc δ = some (c, δ)) (hF : F [a, b, c] = some r) : fCall F (gPos []) (fCons fa (fCons fb (fCons fc fNil))) fNil δ = some (r, δ) := by
  simp only [fCall, fCons, fNil, ha, hb, hc, Option.bind_some, Option.map_some, gPos, List.append_nil, hF]
abbrev putL (ts : List Int) (b s : Int) : List Int := ts.reverse.foldl (stL s b) []
theorem put_len (b s : Int) : ∀ (us F : List Int), (us.foldl (stL s b) F).length = F.length + us.length
  | [], F => by simp
  | t :: us, F => by rw [List.foldl_cons, put_len b s us, stL_len, List.length_cons]; omega
theorem putL_len (ts : List Int) (b s : Int) : (putL ts b s).length = ts.length := by rw [putL, put_len]; simp
theorem cf_putL {ts : List Int} (h : ts.length ≤ 3) (b s : Int) (j : Nat) : cf (putL ts b s) j = put3 ts b s j := by
  by_cases z : 3 ≤ j
  · rw [cf_ge (by rw [putL_len]; omega)]
    match j, z with
    | _ + 3, _ => rfl
  · match ts, h, j, z with
    | [], _, 0, _ => simp [putL, put3, cf_nil]
    | [], _, 1, _ => simp [putL, put3, cf_nil]
    | [], _, 2, _ => simp [putL, put3, cf_nil]
    | [a], _, 0, _ => simp only [putL, List.reverse_cons, List.reverse_nil, List.nil_append, List.foldl_cons, List.foldl_nil, cf_st0, cf_stS, cf_nil, put3, cf_cons0, cf_consS]; grind
    | [a], _, 1, _ => simp only [putL, List.reverse_cons, List.reverse_nil, List.nil_append, List.foldl_cons, List.foldl_nil, cf_st0, cf_stS, cf_nil, put3, cf_cons0, cf_consS]; grind
    | [a], _, 2, _ => simp only [putL, List.reverse_cons, List.reverse_nil, List.nil_append, List.foldl_cons, List.foldl_nil, cf_st0, cf_stS, cf_nil, put3, cf_cons0, cf_consS]; grind
    | [a, c], _, 0, _ => simp only [putL, List.reverse_cons, List.reverse_nil, List.nil_append, List.cons_append, List.foldl_cons, List.foldl_nil, cf_st0, cf_stS, cf_nil, put3, cf_cons0, cf_consS]; grind
    | [a, c], _, 1, _ => simp only [putL, List.reverse_cons, List.reverse_nil, List.nil_append, List.cons_append, List.foldl_cons, List.foldl_nil, cf_st0, cf_stS, cf_nil, put3, cf_cons0, cf_consS]; grind
    | [a, c], _, 2, _ => simp only [putL, List.reverse_cons, List.reverse_nil, List.nil_append, List.cons_append, List.foldl_cons, List.foldl_nil, cf_st0, cf_stS, cf_nil, put3, cf_cons0, cf_consS]; grind
    | [a, c, d], _, 0, _ => simp only [putL, List.reverse_cons, List.reverse_nil, List.nil_append, List.cons_append, List.foldl_cons, List.foldl_nil, cf_st0, cf_stS, cf_nil, put3, cf_cons0, cf_consS]; grind
    | [a, c, d], _, 1, _ => simp only [putL, List.reverse_cons, List.reverse_nil, List.nil_append, List.cons_append, List.foldl_cons, List.foldl_nil, cf_st0, cf_stS, cf_nil, put3, cf_cons0, cf_consS]; grind
    | [a, c, d], _, 2, _ => simp only [putL, List.reverse_cons, List.reverse_nil, List.nil_append, List.cons_append, List.foldl_cons, List.foldl_nil, cf_st0, cf_stS, cf_nil, put3, cf_cons0, cf_consS]; grind
    | _, _, _ + 3, z => exact absurd (by omega) z
end My
namespace My
open PySem PySem.Spec PyProof.Rows L2 ClX Dl
/-! courses added, multiplied, led -/
theorem row_nums (q : Int) : ∀ ts : List Int, Nums q ts (ts.map (mk q))
  | [] => .nil
  | t :: ts => .cons (.inl rfl) (row_nums q ts)
theorem rows_given (q : Int) : ∀ rows : List (List Int), (∀ r, r ∈ rows → r.length ≤ 8) → Given q rows (rows.map (rowR q))
  | [], _ => .nil
  | r :: rows, h => .cons (.inl rfl) (row_nums q r) (h r (List.mem_cons_self ..)) (fun _ _ => rfl) (rows_given q rows fun s hs => h s (List.mem_cons_of_mem _ hs))
abbrev FF (rows : List (List Int)) : List (List Int) := least (rows.map trim)
theorem p_crs {q : Int} (hq : 0 < q) {rows : List (List Int)} (h1 : 1 ≤ rows.length) (h2 : rows.length ≤ 60) (hr : ∀ r, r ∈ rows → r.length ≤ 8) : G_Course_init [encR q rows] = some [encR q (FF rows)] :=
  p_course hq (.inl rfl) (rows_given q rows hr) h1 h2
theorem expr_eq {fe : FE} {δ δ1 : Es} {d : D} (h : fe δ = some (d, δ1)) : sExpr fe δ = some (.nx δ1) := by
  rw [sExpr, h]; rfl
/-- a list over range(c) -/
theorem range_lc {q : Int} {f : Nat → List Int} {i c : Nat} {fI : FA} {fe : FE} {δ0 δ : Es} (hI : fI δ0 = some (intsD 0 c, δ)) (hi : δ[i]? = some .un) (hc : c ≤ 1000) (hf : ∀ k, k < c → fe (δ.set i (.val (.int (k : Int)))) = some (rowR q (f k), δ.set i (.val (.int (k : Int))))) :
    fLc fI (gN i) fYes fe [i] δ0 = some (((List.range c).map f).map (rowR q), δ) := by
  let h : D → D := fun d => match d with
    | .int k => rowR q (f k.toNat)
    | _ => .non
  have ei : intsD 0 c = (List.range c).map fun k : Nat => D.int (k : Int) := by
    unfold intsD
    apply List.map_congr_left
    intro a _
    simp
  have e := flc (h := fun d => some (h d)) (fe := fe) hI hi (fun d hd => by
    rw [ei] at hd
    obtain ⟨k, hk, rfl⟩ := List.mem_map.mp hd
    exact hf k (List.mem_range.mp hk)) (by rw [intsD_len]; unfold big; omega)
  rw [e, mapO_some (f := h) (fun _ _ => rfl), ei]
  simp [h, Function.comp_def]
theorem ix_mod {q : Int} {rows : List (List Int)} (hn : 0 < rows.length) (k : Nat) : gIx (encR q rows) (.int ((k % rows.length : Nat) : Int)) = some (rowR q (rows[k % rows.length]?.getD [])) := by
  have h : k % rows.length < rows.length := Nat.mod_lt _ hn
  show atI (rows.map (rowR q)) ((k % rows.length : Nat) : Int) = _
  rw [atI_nat _ _ (by simpa using h)]
  simp [h]
/-- the rows of a sum -/
abbrev plusL (A B : List (List Int)) : List (List Int) := (List.range (Nat.lcm A.length B.length)).map fun k => sumL (A[k % A.length]?.getD []) (B[k % B.length]?.getD [])
/-- rows of at most three numbers -/
structure Ok3 (A : List (List Int)) (n : Nat) : Prop where
  pos : 0 < A.length
  le : A.length ≤ 60
  len : ∀ r, r ∈ A → r.length ≤ 3
  bd : ∀ r, r ∈ A → BdR r n
theorem getD_mem {A : List (List Int)} (h : 0 < A.length) (k : Nat) : A[k % A.length]?.getD [] ∈ A := by
  have h' : k % A.length < A.length := Nat.mod_lt _ h
  rw [List.getElem?_eq_getElem h']
  exact List.getElem_mem h'
end My
namespace My
open PySem PySem.Spec PyProof.Rows L2 ClX Dl
theorem mapO_map {α : Type} {f g : α → D} {h : D → Option D} : ∀ {l : List α}, (∀ a, a ∈ l → h (f a) = some (g a)) → mapO h (l.map f) = some (l.map g)
  | [], _ => rfl
  | a :: l, hh => by simp only [List.map_cons, mapO, hh a (List.mem_cons_self ..), mapO_map (fun b hb => hh b (List.mem_cons_of_mem _ hb)), Option.bind_some, Option.map_some]
abbrev timesL (n : Int) (A : List (List Int)) : List (List Int) := A.map fun r => r.map fun t => n * t
abbrev ledL (b s : Int) (A : List (List Int)) : List (List Int) := (List.range A.length).map fun k : Nat => putL (rowAt A (b * (k : Int) + s)) b s
end My
namespace My
open PySem PySem.Spec PyProof.Rows L2 ClX Dl
/-! courses as coefficients at whole numbers -/
def co (A : List (List Int)) (w : Int) (j : Nat) : Int := cf (rowAt A w) j
theorem rowAt_nat {A : List (List Int)} (i : Nat) : rowAt A (i : Int) = (fOf A i).getD [] := by
  unfold rowAt fOf
  have : ((i : Int) % (A.length : Int)).toNat = i % A.length := by
    rw [← Int.natCast_emod]; rfl
  rw [this]
theorem f_some {A : List (List Int)} (h : 0 < A.length) (i : Nat) : fOf A i = some ((fOf A i).getD []) := by
  unfold fOf
  rw [List.getElem?_eq_getElem (Nat.mod_lt _ h)]
  rfl
theorem rowAt_least {A : List (List Int)} (h : 0 < A.length) (w : Int) : rowAt (FF A) w = trim (rowAt A w) := by
  rw [least_at (by simpa using h), rowAt_map]
theorem co_ff {A : List (List Int)} (h : 0 < A.length) (w : Int) (j : Nat) : co (FF A) w j = co A w j := by
  unfold co
  rw [rowAt_least h, cf_trim]
theorem ff_iff {A B : List (List Int)} (ha : 0 < A.length) (hb : 0 < B.length) : FF A = FF B ↔ ∀ w j, co A w j = co B w j := by
  constructor
  · intro h w j
    rw [← co_ff ha, ← co_ff hb, h]
  · intro h
    refine least_f (by simpa using ha) (by simpa using hb) fun i => ?_
    rw [f_map, f_map, f_some ha, f_some hb, Option.map_some, Option.map_some]
    congr 1
    refine trim_ext fun j => ?_
    have := h (i : Int) j
    unfold co at this
    rw [rowAt_nat, rowAt_nat] at this
    exact this
theorem rowAt_mem {A : List (List Int)} (h : 0 < A.length) (w : Int) : rowAt A w ∈ A := by
  obtain ⟨r, e1, hr, _⟩ := ix_row (f := rowI) A w h
  have : rowAt A w = r := by unfold rowAt; rw [e1]; rfl
  rw [this]; exact hr
theorem rowAt_mod {A : List (List Int)} {w v : Int} (h : w % (A.length : Int) = v % (A.length : Int)) : rowAt A w = rowAt A v := by
  unfold rowAt
  rw [h]
/-- a list over range(c), read at a whole number -/
theorem rowAt_range {c : Nat} (hc : 0 < c) (f : Nat → List Int) (w : Int) : rowAt ((List.range c).map f) w = f (w % (c : Int)).toNat := by
  have m0 : 0 ≤ w % (c : Int) := Int.emod_nonneg _ (by omega)
  have m1 : w % (c : Int) < c := Int.emod_lt_of_pos _ (by omega)
  have hj : (w % (c : Int)).toNat < c := by omega
  unfold rowAt
  rw [List.length_map, List.length_range, List.getElem?_map, List.getElem?_range hj]
  rfl
theorem co_times (v : Int) {A : List (List Int)} (w : Int) (j : Nat) : co (timesL v A) w j = v * co A w j := by
  unfold co rowAt
  rw [List.length_map, List.getElem?_map]
  cases A[(w % (A.length : Int)).toNat]? with
  | none => simp [cf_nil]
  | some r => exact cf_map v r j
theorem toNat_mod {w : Int} {c a : Nat} (hc : 0 < c) (ha : 0 < a) (hd : a ∣ c) : (w % (c : Int)).toNat % a = (w % (a : Int)).toNat := by
  have m0 : 0 ≤ w % (c : Int) := Int.emod_nonneg _ (by omega)
  have n0 : 0 ≤ w % (a : Int) := Int.emod_nonneg _ (by omega)
  have h1 : (w % (c : Int)) % (a : Int) = w % (a : Int) := Int.emod_emod_of_dvd _ (Int.natCast_dvd_natCast.mpr hd)
  have h2 : (((w % (c : Int)).toNat % a : Nat) : Int) = ((w % (a : Int)).toNat : Int) := by
    rw [Int.natCast_emod, Int.toNat_of_nonneg m0, Int.toNat_of_nonneg n0, h1]
  exact Int.natCast_inj.mp h2
theorem co_plus {A B : List (List Int)} (ha : 0 < A.length) (hb : 0 < B.length) (w : Int) (j : Nat) : co (plusL A B) w j = co A w j + co B w j := by
  have hc : 0 < Nat.lcm A.length B.length := Nat.lcm_pos ha hb
  unfold co plusL
  rw [rowAt_range hc, cf_sumL, toNat_mod hc ha (Nat.dvd_lcm_left _ _), toNat_mod hc hb (Nat.dvd_lcm_right _ _)]
  rfl
theorem co_led {A : List (List Int)} (ha : 0 < A.length) (hl : ∀ r, r ∈ A → r.length ≤ 3) (b s w : Int) (j : Nat) : co (ledL b s A) w j = put3 (rowAt A (b * w + s)) b s j := by
  have m0 : 0 ≤ w % (A.length : Int) := Int.emod_nonneg _ (by omega)
  have e : rowAt A (b * (((w % (A.length : Int)).toNat : Nat) : Int) + s) = rowAt A (b * w + s) := by
    refine rowAt_mod ?_
    rw [Int.toNat_of_nonneg m0]
    rw [Int.add_emod, Int.mul_emod, Int.emod_emod, ← Int.mul_emod, ← Int.add_emod]
  unfold co ledL
  rw [rowAt_range ha, e]
  exact cf_putL (hl _ (rowAt_mem ha _)) b s j
/-- led twice -/
theorem led_led {A : List (List Int)} (ha : 0 < A.length) (hl : ∀ r, r ∈ A → r.length ≤ 3) (a s b t : Int) {B : List (List Int)} (hb : 0 < B.length) (hlb : ∀ r, r ∈ B → r.length ≤ 3) (hB : ∀ w j, co B w j = co (ledL a s A) w j) (w : Int) (j : Nat) : co (ledL b t B) w j = co (ledL (a * b) (a * t + s) A) w j := by
  rw [co_led hb hlb, co_led ha hl]
  have e : a * (b * w + t) + s = a * b * w + (a * t + s) := by grind
  have h : ∀ j, cf (rowAt B (b * w + t)) j = put3 (rowAt A (a * b * w + (a * t + s))) a s j := fun j => by
    have h1 := hB (b * w + t) j
    rw [co_led ha hl, e] at h1
    exact h1
  exact put3_put (rowAt A (a * b * w + (a * t + s))) (rowAt B (b * w + t)) a s b t h j
end My
namespace My
open PySem PySem.Spec PyProof.Rows L2 ClX Dl
/-! what stays small; the law's own course -/
theorem Ok3.ff {A : List (List Int)} {n : Nat} (h : Ok3 A n) : Ok3 (FF A) n := by
  have p : 0 < (A.map trim).length := by simpa using h.pos
  have l := least_len p
  have e : (A.map trim).length = A.length := List.length_map ..
  have hle := h.le
  refine ⟨l.1, Nat.le_trans l.2 (by omega), fun r hr => ?_, fun r hr => ?_⟩
  · obtain ⟨s, hs, rfl⟩ := List.mem_map.mp (least_mem p hr)
    exact Nat.le_trans (trim_len s) (h.len s hs)
  · obtain ⟨s, hs, rfl⟩ := List.mem_map.mp (least_mem p hr)
    exact fun t ht => h.bd s hs t (trim_mem ht)
theorem Ok3.mono {A : List (List Int)} {n m : Nat} (h : Ok3 A n) (k : n ≤ m) : Ok3 A m := ⟨h.pos, h.le, h.len, fun r hr => (h.bd r hr).mono k⟩
theorem Ok3.times {A : List (List Int)} {n m : Nat} {v : Int} (h : Ok3 A n) (bv : Bd v m) : Ok3 (timesL v A) (m + n) := by
  refine ⟨by simpa using h.pos, by simpa using h.le, fun r hr => ?_, fun r hr => ?_⟩
  · obtain ⟨s, hs, rfl⟩ := List.mem_map.mp hr
    simpa using h.len s hs
  · obtain ⟨s, hs, rfl⟩ := List.mem_map.mp hr
    exact map_bd (h.bd s hs) bv
theorem sum_bd {a b : List Int} {n : Nat} (ha : BdR a n) (hb : BdR b n) : BdR (sumL a b) (n + 1) := BdR.of fun j => by
  rw [cf_sumL]
  exact (ha.cf j).add (hb.cf j)
theorem Ok3.plus {A B : List (List Int)} {n : Nat} (ha : Ok3 A n) (hb : Ok3 B n) (hl : Nat.lcm A.length B.length ≤ 60) : Ok3 (plusL A B) (n + 1) := by
  have hc : 0 < Nat.lcm A.length B.length := Nat.lcm_pos ha.pos hb.pos
  refine ⟨by simpa using hc, by simpa using hl, fun r hr => ?_, fun r hr => ?_⟩
  · obtain ⟨k, _, rfl⟩ := List.mem_map.mp hr
    have x := ha.len _ (getD_mem ha.pos k)
    have y := hb.len _ (getD_mem hb.pos k)
    rw [sumL_len]; omega
  · obtain ⟨k, _, rfl⟩ := List.mem_map.mp hr
    exact sum_bd (ha.bd _ (getD_mem ha.pos k)) (hb.bd _ (getD_mem hb.pos k))
theorem fold_bd {s b : Int} {m : Nat} (bs : Bd s m) (bb : Bd b m) : ∀ (us F : List Int) (n : Nat), BdR F n → BdR us n → BdR (us.foldl (stL s b) F) (n + us.length * (m + 2))
  | [], F, n, hF, _ => by simpa using hF
  | t :: us, F, n, hF, hu => by
    have e : (us.length + 1) * (m + 2) = us.length * (m + 2) + (m + 2) := Nat.succ_mul _ _
    have h1 : BdR (stL s b F t) (n + m + 2) := stL_bd hF bs bb ((hu t (List.mem_cons_self ..)).mono (by omega))
    have ih := fold_bd bs bb us (stL s b F t) (n + m + 2) h1 (fun r hr => (hu r (List.mem_cons_of_mem _ hr)).mono (by omega))
    rw [List.foldl_cons, List.length_cons]
    exact ih.mono (by omega)
theorem Ok3.led {A : List (List Int)} {n m : Nat} {b s : Int} (h : Ok3 A n) (bb : Bd b m) (bs : Bd s m) : Ok3 (ledL b s A) (n + 3 * (m + 2)) := by
  refine ⟨by simpa using h.pos, by simpa using h.le, fun r hr => ?_, fun r hr => ?_⟩
  · obtain ⟨k, _, rfl⟩ := List.mem_map.mp hr
    rw [putL_len]
    exact h.len _ (rowAt_mem h.pos _)
  · obtain ⟨k, _, rfl⟩ := List.mem_map.mp hr
    have hm := rowAt_mem h.pos (b * (k : Int) + s)
    have x := h.len _ hm
    have y := fold_bd bs bb (rowAt A (b * (k : Int) + s)).reverse [] n (fun t ht => by cases ht) (fun t ht => h.bd _ hm t (by simpa using ht))
    have z : (rowAt A (b * (k : Int) + s)).reverse.length * (m + 2) ≤ 3 * (m + 2) := Nat.mul_le_mul_right _ (by simpa using x)
    exact y.mono (by omega)
theorem nestG {O : D} {o i k : Nat} (oi : o ≠ i) (ok' : o ≠ k) (ik : i ≠ k) {f : Int → D} {fe : FE} {fI : FA} {δ0 δ : Es} {rows : List (List Int)} (h1 : δ[o]? = some (.val O)) (h14 : δ[i]? = some .un) (h15 : δ[k]? = some .un) (hI : fI δ0 = some (rows.map rowI, δ))
    (hfe : ∀ δ' t, δ'[o]? = some (.val O) → δ'[k]? = some (.val (.int t)) → fe δ' = some (f t, δ')) (hl : rows.length ≤ 1000) (hr : ∀ r, r ∈ rows → r.length ≤ 1000) :
    fLc fI (gN i) fYes (fFr (fLc (fSq (fV i)) (gN k) fYes fe [k])) [i] δ0 = some (rows.map (fun r => .lst (r.map f)), δ) := by
  let g : D → D := fun d => match d with
    | .int t => f t
    | _ => .non
  let h : D → D := fun d => match d with
    | .lst ds => .lst (ds.map g)
    | _ => .non
  have e := flc (i := i) (h := fun d => some (h d)) (fe := fFr (fLc (fSq (fV i)) (gN k) fYes fe [k])) hI h14 (fun d hd => by
    obtain ⟨r, hrm, rfl⟩ := List.mem_map.mp hd
    have s14 : (δ.set i (.val (rowI r)))[i]? = some (.val (rowI r)) := List.getElem?_set_self (List.getElem?_eq_some_iff.mp h14).1
    have s15 : (δ.set i (.val (rowI r)))[k]? = some .un := by rw [List.getElem?_set_ne ik]; exact h15
    have s1 : (δ.set i (.val (rowI r)))[o]? = some (.val O) := by rw [List.getElem?_set_ne (Ne.symm oi)]; exact h1
    have v : fSq (fV i) (δ.set i (.val (rowI r))) = some (r.map D.int, δ.set i (.val (rowI r))) := fSq_val (.inl rfl) s14
    have e2 := flc (i := k) (h := fun d => some (g d)) (fe := fe) v s15 (fun x hx => by
      obtain ⟨t, _, rfl⟩ := List.mem_map.mp hx
      have u15 : ((δ.set i (.val (rowI r))).set k (.val (.int t)))[k]? = some (.val (.int t)) := List.getElem?_set_self (List.getElem?_eq_some_iff.mp s15).1
      have u1 : ((δ.set i (.val (rowI r))).set k (.val (.int t)))[o]? = some (.val O) := by rw [List.getElem?_set_ne (Ne.symm ok')]; exact s1
      exact hfe _ t u1 u15) (by have := hr r hrm; unfold big; simp; omega)
    rw [mapO_some (f := g) (fun _ _ => rfl)] at e2
    exact fr_eq e2) (by unfold big; simp; omega)
  rw [e, mapO_some (f := h) (fun _ _ => rfl)]
  simp [h, g, Function.comp_def]
theorem given_nu (q : Int) : ∀ (rows : List (List Int)), (∀ r, r ∈ rows → r.length ≤ 8) → Given q rows (rows.map fun r => .lst (r.map (nuF q)))
  | [], _ => .nil
  | r :: rows, h => .cons (.inl rfl) (nuF_nums q r) (h r (List.mem_cons_self ..)) (fun _ _ => rfl) (given_nu q rows fun s hs => h s (List.mem_cons_of_mem _ hs))
theorem p_made {q : Int} (hq : 0 < q) (bq : Bd q 20) {rows : List (List Int)} (h1 : 1 ≤ rows.length) (h2 : rows.length ≤ 60) (hr : ∀ r, r ∈ rows → r.length ≤ 8) : G_law_made [ownD q rows] = some (crs q (FF rows)) := by
  have n := nestG (O := ownD q rows) (o := 0) (i := 1) (k := 2) (by decide) (by decide) (by decide) (f := nuF q) (fe := fCall G_law_number (gPos []) (fCons (fV 2) (fCons (fIxN 0 (fC (.int 0))) fNil)) fNil) (fI := fSq (fIxN 0 (fC (.int 1)))) (δ0 := [.val (ownD q rows), .un, .un]) (δ := [.val (ownD q rows), .un, .un]) (rows := rows) rfl rfl rfl (sq_eq (ixN_val rfl rfl (ix_own1 q rows))) (fun δ' t h0 h2 => by
    have v : fV 2 δ' = some (.int t, δ') := by simp only [fV, h2]
    exact call2 v (ixN_val h0 rfl (ix_own0 q rows)) (p_number hq bq t)) (by omega) (fun r hrm => by have := hr r hrm; omega)
  have cc := p_course hq (p := .lst (rows.map fun r => .lst (r.map (nuF q)))) (.inl rfl) (given_nu q rows hr) h1 h2
  exact out1 (d := some (crs q (FF rows))) (make1 (c := 1) (F := G_Course_init) (fr_eq n) cc)
end My
namespace My
open PySem PySem.Spec PyProof.Rows L2 ClX Dl
/-! a course is in its least form -/
abbrev gE4 : D → D → Option D := gOr (gOr (gOr gEqF (gOwnE 0 G_Ratio_eq)) (gOwnE 1 G_Course_eq)) (gB false (eqLs eq3))
abbrev gN4 : D → D → Option D := gOr (gOr (gOr gNeF (gOwnNe 0 G_Ratio_eq)) (gOwnNe 1 G_Course_eq)) (gB true (eqLs eq3))
theorem gE4_lst {as bs : List D} {b : Bool} (h : eqLs eq3 (.lst as) (.lst bs) = some b) : gE4 (.lst as) (.lst bs) = some (.bl b) := by
  have n1 : gEqF (.lst as) (.lst bs) = none := rfl
  have n2 : gOwnE 0 G_Ratio_eq (.lst as) (.lst bs) = none := rfl
  have n3 : gOwnE 1 G_Course_eq (.lst as) (.lst bs) = none := rfl
  have e : gB false (eqLs eq3) (.lst as) (.lst bs) = some (.bl b) := by unfold gB; rw [h]; simp
  have n12 : gOr gEqF (gOwnE 0 G_Ratio_eq) (.lst as) (.lst bs) = none := (gOr_r n1).trans n2
  exact (gOr_r ((gOr_r n12).trans n3)).trans e
theorem gN4_lst {as bs : List D} {b : Bool} (h : eqLs eq3 (.lst as) (.lst bs) = some b) : gN4 (.lst as) (.lst bs) = some (.bl (!b)) := by
  have n1 : gNeF (.lst as) (.lst bs) = none := rfl
  have n2 : gOwnNe 0 G_Ratio_eq (.lst as) (.lst bs) = none := rfl
  have n3 : gOwnNe 1 G_Course_eq (.lst as) (.lst bs) = none := rfl
  have e : gB true (eqLs eq3) (.lst as) (.lst bs) = some (.bl (!b)) := by unfold gB; rw [h]; simp
  have n12 : gOr gNeF (gOwnNe 0 G_Ratio_eq) (.lst as) (.lst bs) = none := (gOr_r n1).trans n2
  exact (gOr_r ((gOr_r n12).trans n3)).trans e
theorem eqLs_nil : eqLs eq3 (.lst []) (.lst []) = some true := eqLs_code (g := eq3) (f := D.int) (fun a b => eq3_of0 (eq0_int a b)) [] []
theorem eqLs_row {q : Int} (hq : q ≠ 0) (r s : List Int) : eqLs eq3 (rowR q r) (rowR q s) = some (decide (r = s)) := eqLs_code (fun _ _ => eq3_of0 (eq0_mk hq)) r s
theorem eqLs_rows {q : Int} (hq : q ≠ 0) (A B : List (List Int)) : eqLs eq3 (encR q A) (encR q B) = some (decide (A = B)) := eqLs_code (eq3_rowR hq) A B
theorem gE4_int (i j : Int) : gE4 (.int i) (.int j) = some (.bl (decide (i = j))) := gOr_l (gOr_l (gOr_l (by simp [gEqF, litV, scal])))
theorem gN4_int (t : Int) : gN4 (.int t) (.int t) = some (.bl false) := gOr_l (gOr_l (gOr_l (by simp [gNeF, litV, scal])))
theorem gE4_mk {q : Int} (hq : q ≠ 0) (s t : Int) : gE4 (mk q s) (mk q t) = some (.bl (decide (s = t))) := by
  have e := p_eq (nrm s q).1 (nrm s q).2 (nrm t q).1 (nrm t q).2
  have d : (decide ((nrm s q).1 = (nrm t q).1) && decide ((nrm s q).2 = (nrm t q).2)) = decide (s = t) := by
    rw [Bool.eq_iff_iff, Bool.and_eq_true, decide_eq_true_eq, decide_eq_true_eq, decide_eq_true_eq]
    exact mk_inj hq
  rw [d] at e
  have n : gEqF (mk q s) (mk q t) = none := rfl
  have o : gOwnE 0 G_Ratio_eq (mk q s) (mk q t) = some (.bl (decide (s = t))) := by
    have c : isC (mk q t) = false := by simp [isC]
    show (if (0 : Nat) = 0 ∧ isC (mk q t) = false then G_Ratio_eq [mk q s, mk q t] else none) = _
    rw [if_pos ⟨rfl, c⟩]
    exact e
  exact gOr_l (gOr_l ((gOr_r n).trans o))
/-- a comprehension whose test is never met -/
theorem lc_none {i : Nat} {fc : FT} {fe : FE} {δ : Es} (hi : δ[i]? = some .un) : ∀ (ds acc : List D), (∀ d, d ∈ ds → fc (δ.set i (.val d)) = some (false, δ.set i (.val d))) → lcF (gN i) fc fe [i] ds acc δ = some (acc, δ)
  | [], acc, _ => by simp [lcF]
  | d :: ds, acc, h => by
    have ih := lc_none (fc := fc) (fe := fe) hi ds acc fun x hx => h x (List.mem_cons_of_mem _ hx)
    simp only [lcF, gN, Option.bind_some, h d (List.mem_cons_self ..), Bool.false_eq_true, if_false, wipe1 hi, ih]
theorem flc_none {i : Nat} {fI : FA} {fc : FT} {fe : FE} {δ0 δ : Es} {ds : List D} (hI : fI δ0 = some (ds, δ)) (hi : δ[i]? = some .un) (h : ∀ d, d ∈ ds → fc (δ.set i (.val d)) = some (false, δ.set i (.val d))) : fLc fI (gN i) fc fe [i] δ0 = some ([], δ) := by
  simp only [fLc, hI, Option.bind_some, wipe0 hi]
  exact lc_none hi ds [] h
theorem and_ff {f g : FT} {δ δ1 : Es} (h : f δ = some (false, δ1)) : fAnd f g δ = some (false, δ1) := by
  simp only [fAnd, h, Option.bind_some, Bool.false_eq_true, if_false]
theorem and_tt {f g : FT} {δ δ1 : Es} (h : f δ = some (true, δ1)) : fAnd f g δ = g δ1 := by
  simp only [fAnd, h, Option.bind_some, if_true]
theorem at_lastR (q : Int) (vs : List Int) (t : Int) : atI ((vs ++ [t]).map (mk q)) (-1) = some (mk q t) := by
  have h1 : (1 : Int) ≤ (vs.length : Int) + 1 := by omega
  have h2 : (-1 + ((vs.length : Int) + 1)).toNat = vs.length := by omega
  simp [atI, ixN, h1, h2]
end My
namespace My
open PySem PySem.Spec PyProof.Rows L2 ClX Dl
/-! differences lower the degree -/
theorem least_dvd {α : Type} [DecidableEq α] {R : List α} (h : 0 < R.length) : (least R).length ∣ R.length := by
  obtain ⟨p, a, b⟩ := least_spec h
  have l := a.2.1
  rw [b, List.length_take, Nat.min_eq_left l]
  exact Nat.dvd_of_mod_eq_zero ((okP_iff R p).mp a.2.2.1).1
theorem ff_dvd {A : List (List Int)} (h : 0 < A.length) : (FF A).length ∣ A.length := by
  have := least_dvd (R := A.map trim) (by simpa using h)
  rwa [List.length_map] at this
theorem co_ge {A : List (List Int)} (h : 0 < A.length) (hl : ∀ r, r ∈ A → r.length ≤ 3) (w : Int) (j : Nat) (hj : 3 ≤ j) : co A w j = 0 := cf_ge (Nat.le_trans (hl _ (rowAt_mem h w)) hj)
theorem rowAt_add {A : List (List Int)} {P : Nat} (hd : A.length ∣ P) (w : Int) : rowAt A (w + (P : Int)) = rowAt A w := by
  refine rowAt_mod ?_
  have : (A.length : Int) ∣ (P : Int) := Int.natCast_dvd_natCast.mpr hd
  rw [Int.add_emod, Int.emod_eq_zero_of_dvd this, Int.add_zero, Int.emod_emod]
abbrev ZZ : List (List Int) := [[]]
theorem co_zz (w : Int) (j : Nat) : co ZZ w j = 0 := by
  have h : rowAt ZZ w = [] := by
    have := rowAt_mem (A := ZZ) (by decide) w
    exact List.mem_singleton.mp this
  unfold co
  rw [h, cf_nil]
theorem zz_iff {Y : List (List Int)} (h : 0 < Y.length) (hl : ∀ r, r ∈ Y → r.length ≤ 3) : FF Y = FF ZZ ↔ ∀ w, co Y w 0 = 0 ∧ co Y w 1 = 0 ∧ co Y w 2 = 0 := by
  rw [ff_iff h (by decide)]
  constructor
  · intro z w
    exact ⟨by rw [z, co_zz], by rw [z, co_zz], by rw [z, co_zz]⟩
  · intro z w j
    rw [co_zz]
    match j with
    | 0 => exact (z w).1
    | 1 => exact (z w).2.1
    | 2 => exact (z w).2.2
    | j + 3 => exact co_ge h hl w _ (by omega)
theorem topOf_some : ∀ (is : List Int), is ≠ [] → ∃ m, topOf is = some m ∧ m ∈ is ∧ ∀ i, i ∈ is → i ≤ m
  | [], h => absurd rfl h
  | [i], _ => ⟨i, rfl, by simp, by simp⟩
  | i :: j :: is, _ => by
    obtain ⟨m, e, hm, hb⟩ := topOf_some (j :: is) (by simp)
    refine ⟨if m > i then m else i, by simp [topOf, e], ?_, fun x hx => ?_⟩
    · split
      · exact List.mem_cons_of_mem _ hm
      · exact List.mem_cons_self ..
    · rcases List.mem_cons.mp hx with rfl | hx
      · split <;> omega
      · have := hb x hx
        split <;> omega
/-- the degree: all rows are so short, one is so long -/
theorem deg_spec {A : List (List Int)} (h : 0 < A.length) : ∃ d : Nat, degO A = some (.int ((d : Int) - 1)) ∧ (∀ r, r ∈ A → r.length ≤ d) ∧ ∃ r, r ∈ A ∧ r.length = d := by
  obtain ⟨m, e, hm, hb⟩ := topOf_some (A.map fun r => (r.length : Int)) (by intro z; have := congrArg List.length z; simp at this; subst this; simp at h)
  obtain ⟨r, hr, rfl⟩ := List.mem_map.mp hm
  refine ⟨r.length, by rw [degO, e]; rfl, fun s hs => ?_, r, hr, rfl⟩
  have := hb (s.length : Int) (List.mem_map.mpr ⟨s, hs, rfl⟩)
  omega
theorem mem_rowAt {A : List (List Int)} {r : List Int} (h : r ∈ A) : ∃ w : Int, rowAt A w = r := by
  obtain ⟨i, hi, rfl⟩ := List.mem_iff_getElem.mp h
  refine ⟨(i : Int), ?_⟩
  have : ((i : Int) % (A.length : Int)).toNat = i := by
    rw [Int.emod_eq_of_lt (by omega) (by omega)]; rfl
  unfold rowAt
  rw [this, List.getElem?_eq_getElem hi]
  rfl
/-- the last number of a trimmed row -/
theorem last_ne {s : List Int} {d : Nat} (h : (trim s).length = d + 1) : cf (trim s) d ≠ 0 := by
  rcases List.eq_nil_or_concat (trim s) with e | ⟨r, t, e⟩
  · rw [e] at h; simp at h
  · rw [List.concat_eq_append] at e
    have tz := trim_last e
    rw [e] at h ⊢
    have hr : r.length = d := by simpa using h
    unfold cf
    rw [List.getElem?_append_right (by omega), hr]
    simpa using tz
end My
namespace My
open PySem PySem.Spec PyProof.Rows L2 ClX Dl
theorem gE4_of {fs : List D} {y : D} {b : Bool} (h : G_Course_eq [.obj 1 fs, y] = some (.bl b)) (hy : isC y = false) : gE4 (.obj 1 fs) y = some (.bl b) := by
  have n : gOr gEqF (gOwnE 0 G_Ratio_eq) (.obj 1 fs) y = none := by
    have a : gEqF (.obj 1 fs) y = none := rfl
    rw [gOr_r a]
    show (if (1 : Nat) = 0 ∧ isC y = false then G_Ratio_eq [.obj 1 fs, y] else none) = none
    rw [if_neg (fun z => absurd z.1 (by decide))]
  have o : gOwnE 1 G_Course_eq (.obj 1 fs) y = some (.bl b) := by
    show (if (1 : Nat) = 1 ∧ isC y = false then G_Course_eq [.obj 1 fs, y] else none) = _
    rw [if_pos ⟨rfl, hy⟩, h]
  exact gOr_l ((gOr_r n).trans o)
theorem gE4_crs {q : Int} (hq : 0 < q) (A B : List (List Int)) : gE4 (crs q A) (crs q B) = some (.bl (decide (A = B))) := gE4_of (p_eqC hq A B) rfl
def fZZ : FE := fMake 1 G_Course_init (gPos []) (fCons (fFr (fLst (fCons (fFr (fLst fNil)) fNil))) fNil) fNil
theorem zz_eq {q : Int} (hq : 0 < q) (δ : Es) : fZZ δ = some (crs q (FF ZZ), δ) := by
  have c : fFr (fLst (fCons (fFr (fLst fNil)) fNil)) δ = some (encR q ZZ, δ) := lst1 rfl
  exact make1 (c := 1) (F := G_Course_init) c (p_crs hq (rows := ZZ) (by decide) (by decide) (fun r hr => by rw [List.mem_singleton.mp hr]; decide))
theorem ff_ff {A : List (List Int)} (h : 0 < A.length) : FF (FF A) = FF A := by
  have p : 0 < (FF A).length := (least_len (R := A.map trim) (by simpa using h)).1
  exact (ff_iff p h).mpr fun w j => co_ff h w j
end My
namespace My
open PySem PySem.Spec PyProof.Rows L2 ClX Dl
/-! another bottom for a whole course; times by a fraction; subtraction -/
abbrev scR (c : Int) (A : List (List Int)) : List (List Int) := A.map fun r => r.map fun t => c * t
theorem trim_self {r : List Int} {t : Int} (h : t ≠ 0) : trim (r ++ [t]) = r ++ [t] := trim_snoc h
theorem trim_sc {c : Int} (hc : c ≠ 0) (ts : List Int) : trim (ts.map fun t => c * t) = (trim ts).map fun t => c * t := by
  have e : trim (ts.map fun t => c * t) = trim ((trim ts).map fun t => c * t) := trim_ext fun j => by rw [cf_map, cf_map, cf_trim]
  rw [e]
  rcases List.eq_nil_or_concat (trim ts) with h | ⟨r, t, h⟩
  · rw [h]; rfl
  · rw [List.concat_eq_append] at h
    have tz := trim_last h
    rw [h, List.map_append]
    exact trim_snoc (t := c * t) (Int.mul_ne_zero hc tz)
theorem okP_map {α β : Type} [DecidableEq α] [DecidableEq β] {f : α → β} (hf : ∀ a b, f a = f b → a = b) (R : List α) (p : Nat) : okP (R.map f) p = okP R p := by
  rw [Bool.eq_iff_iff, okP_iff, okP_iff, List.length_map]
  constructor
  · rintro ⟨h1, h2⟩
    refine ⟨h1, fun i hi => ?_⟩
    have h := h2 i hi
    have hm : i % p < R.length := Nat.lt_of_le_of_lt (Nat.mod_le _ _) hi
    rw [List.getElem?_map, List.getElem?_map, List.getElem?_eq_getElem hi, List.getElem?_eq_getElem hm] at h
    rw [List.getElem?_eq_getElem hi, List.getElem?_eq_getElem hm]
    simp only [Option.map_some, Option.some.injEq] at h ⊢
    exact hf _ _ h
  · rintro ⟨h1, h2⟩
    refine ⟨h1, fun i hi => ?_⟩
    rw [List.getElem?_map, List.getElem?_map, h2 i hi]
theorem least_map {α β : Type} [DecidableEq α] [DecidableEq β] {f : α → β} (hf : ∀ a b, f a = f b → a = b) {R : List α} (h : 0 < R.length) : least (R.map f) = (least R).map f := by
  obtain ⟨p, a, b⟩ := least_spec h
  obtain ⟨p', a', b'⟩ := least_spec (R := R.map f) (by simpa using h)
  have a2 : Lst (R.map f) p := ⟨a.1, by simpa using a.2.1, by rw [okP_map hf]; exact a.2.2.1, fun j h1 h2 => by rw [okP_map hf]; exact a.2.2.2 j h1 h2⟩
  rw [b, b', a'.uniq a2, List.map_take]
theorem sc_inj {c : Int} (hc : c ≠ 0) : ∀ r s : List Int, (r.map fun t => c * t) = (s.map fun t => c * t) → r = s := fun r s h =>
  (List.map_inj_right (fun x y h => Int.eq_of_mul_eq_mul_left hc h)).mp h
theorem ff_sc {c : Int} (hc : c ≠ 0) {A : List (List Int)} (h : 0 < A.length) : FF (scR c A) = scR c (FF A) := by
  have e : (scR c A).map trim = (A.map trim).map fun r => r.map fun t => c * t := by
    rw [List.map_map, List.map_map]
    apply List.map_congr_left
    intro r _
    exact trim_sc hc r
  show least ((scR c A).map trim) = _
  rw [e]
  exact least_map (sc_inj hc) (by simpa using h)
theorem enc_sc {q c : Int} (hq : 0 < q) (hc : 0 < c) (A : List (List Int)) : encR q A = encR (c * q) (scR c A) := by
  unfold encR
  rw [List.map_map]
  congr 1
  apply List.map_congr_left
  intro r _
  exact row_scale hq hc r
/-- the course of rows, with another bottom -/
theorem crs_sc {q c : Int} (hq : 0 < q) (hc : 0 < c) {A : List (List Int)} (h : 0 < A.length) : crs q (FF A) = crs (c * q) (FF (scR c A)) := by
  rw [ff_sc (by omega) h]
  unfold crs
  rw [enc_sc hq hc]
theorem co_sc (c : Int) {A : List (List Int)} (w : Int) (j : Nat) : co (scR c A) w j = c * co A w j := co_times c w j
theorem Ok3.sc {A : List (List Int)} {n m : Nat} {c : Int} (h : Ok3 A n) (bc : Bd c m) : Ok3 (scR c A) (m + n) := h.times bc
/-- multiplied by a fraction -/
theorem p_multipliedR {b q k : Int} (hb : 0 < b) (hq : 0 < q) (bb : Bd b 60) (bq : Bd q 60) (bk : Bd k 1500) (ts : List Int) (ht : ∀ t, t ∈ ts → Bd t 1500) (hl : ts.length ≤ 1000) : G_multiplied [rowR q ts, mk b k] = some (rowR (b * q) (ts.map fun t => k * t)) := by
  have mm : ∀ t, t ∈ ts → gM4 (mk b k) (mk q t) = some (mk (b * q) (k * t)) := fun t h => mul4_mk hb hq bb bq bk (ht t h)
  have e := flc (i := 2) (fI := fSq (fV 0)) (fe := fBin gM4 (fV 1) (fV 2)) (h := fun d => gM4 (mk b k) d) (δ := [.val (rowR q ts), .val (mk b k), .un]) (δ1 := [.val (rowR q ts), .val (mk b k), .un]) (ds := ts.map (mk q)) rfl rfl (fun d hd => by
    obtain ⟨t, h, rfl⟩ := List.mem_map.mp hd
    rw [mm t h]
    exact bin_eq rfl rfl (mm t h)) (by unfold big; simp; omega)
  rw [mapO_map mm, Option.map_some] at e
  have em : ts.map (fun t => mk (b * q) (k * t)) = (ts.map fun t => k * t).map (mk (b * q)) := by rw [List.map_map]; rfl
  rw [em] at e
  exact out1 (d := some (rowR (b * q) (ts.map fun t => k * t))) (δ := [.val (rowR q ts), .val (mk b k), .un]) (fr_eq e)
end My
namespace My
open PySem PySem.Spec PyProof.Rows L2 ClX Dl
/-! numbers taken off, worths -/
theorem mul4_int {i j : Int} (bi : Bd i 4000) (bj : Bd j 4000) : gM4 (.int i) (.int j) = some (.int (i * j)) := by
  have okm := mul_ok bi bj
  exact gOr_l (gOr_l (gOr_l (by simp only [gI, okm, if_true])))
theorem p_sub {p q r s : Int} (hq : q ≠ 0) (hs : s ≠ 0) (bp : Bd p 1900) (bq : Bd q 1900) (br : Bd r 1900) (bs : Bd s 1900) : G_Ratio_sub [R p q, R r s] = some (mkR (p * s - r * q) (q * s)) := by
  have g1 := mul4_int (bp.mono (by decide)) (bs.mono (by decide : 1900 ≤ 4000))
  have g2 := mul4_int (br.mono (by decide)) (bq.mono (by decide : 1900 ≤ 4000))
  have g3 := mul4_int (bq.mono (by decide)) (bs.mono (by decide : 1900 ≤ 4000))
  have h := @p_init (p * s - r * q) (q * s) (Int.mul_ne_zero hq hs) ((bq.mul bs).mono (by decide))
  have s1 : sSet 2 (fCall G_as_ratio (gPos []) (fCons (fV 1) fNil) fNil) [.val (R p q), .val (R r s), .un] = some (.nx [.val (R p q), .val (R r s), .val (R r s)]) := set_eq (call1 rfl (p_as_ratio r s))
  have a1 : fBin (gI0 fun i j => .int (i - j)) (fBin gM4 (fFld 0 0 (fV 0)) (fFld 0 1 (fV 2))) (fBin gM4 (fFld 0 0 (fV 2)) (fFld 0 1 (fV 0))) [.val (R p q), .val (R r s), .val (R r s)] = some (.int (p * s - r * q), [.val (R p q), .val (R r s), .val (R r s)]) := bin_eq (bin_eq rfl rfl g1) (bin_eq rfl rfl g2) rfl
  have a2 : fBin gM4 (fFld 0 1 (fV 0)) (fFld 0 1 (fV 2)) [.val (R p q), .val (R r s), .val (R r s)] = some (.int (q * s), [.val (R p q), .val (R r s), .val (R r s)]) := bin_eq rfl rfl g3
  have m : fMake 0 G_Ratio_init (gPos []) (fCons (fBin (gI0 fun i j => .int (i - j)) (fBin gM4 (fFld 0 0 (fV 0)) (fFld 0 1 (fV 2))) (fBin gM4 (fFld 0 0 (fV 2)) (fFld 0 1 (fV 0)))) (fCons (fBin gM4 (fFld 0 1 (fV 0)) (fFld 0 1 (fV 2))) fNil)) fNil [.val (R p q), .val (R r s), .val (R r s)] = some (mkR (p * s - r * q) (q * s), [.val (R p q), .val (R r s), .val (R r s)]) := by
    rw [fMake, cons2 a1 a2]
    simp only [Option.bind_some, fNil, gPos, List.append_nil, h, Option.map_some]
  show (g_Ratio_sub [.val (R p q), .val (R r s), .un]).bind endD = _
  rw [g_Ratio_sub, seq_nx s1, sRet, m]
  rfl
abbrev gSu : D → D → Option D := gOr (gI0 fun i j => .int (i - j)) (gOwn2 0 G_Ratio_sub)
theorem sub_mk {q s t : Int} (hq : 0 < q) (bq : Bd q 60) (bs : Bd s 1800) (bt : Bd t 1800) : gSu (mk q s) (mk q t) = some (mk q (s - t)) := by
  have hq0 : q ≠ 0 := by omega
  have n2 := nrm_is (t := s) hq0
  have n3 := nrm_is (t := t) hq0
  have a1 := p_sub (p := (nrm s q).1) (q := (nrm s q).2) (r := (nrm t q).1) (s := (nrm t q).2) (Int.ne_of_gt n2.pos) (Int.ne_of_gt n3.pos) ((mk_bd bs).mono (by decide)) ((mk_bd2 bq).mono (by decide)) ((mk_bd bt).mono (by decide)) ((mk_bd2 bq).mono (by decide))
  have g2 : gSu (mk q s) (mk q t) = some (mkR ((nrm s q).1 * (nrm t q).2 - (nrm t q).1 * (nrm s q).2) ((nrm s q).2 * (nrm t q).2)) := by
    have n : (gI0 fun i j => D.int (i - j)) (mk q s) (mk q t) = none := rfl
    refine (gOr_r n).trans ?_
    show (if (0 : Nat) = 0 ∧ (0 : Nat) = 0 then G_Ratio_sub [mk q s, mk q t] else none) = _
    rw [if_pos ⟨rfl, rfl⟩]
    exact a1
  rw [g2]
  have e2 : nrm ((nrm s q).1 * (nrm t q).2 - (nrm t q).1 * (nrm s q).2) ((nrm s q).2 * (nrm t q).2) = nrm (s - t) q := by
    refine nrm_same (Int.mul_ne_zero (Int.ne_of_gt n2.pos) (Int.ne_of_gt n3.pos)) hq0 ?_
    have h2 := n2.eq
    have h3 := n3.eq
    generalize (nrm s q).1 = A at *
    generalize (nrm s q).2 = B at *
    generalize (nrm t q).1 = C at *
    generalize (nrm t q).2 = E at *
    grind
  unfold mk mkR
  rw [e2]
theorem mulI_mk {q T w : Int} (hq : 0 < q) (bq : Bd q 60) (bT : Bd T 1500) (bw : Bd w 100) : gM4 (mk q T) (.int w) = some (mk q (T * w)) := by
  have hq0 : q ≠ 0 := by omega
  have n := nrm_is (t := T) hq0
  have m1 := p_mulI (p := (nrm T q).1) (q := (nrm T q).2) (i := w) (Int.ne_of_gt n.pos) ((mk_bd bT).mono (by decide)) ((mk_bd2 bq).mono (by decide)) (bw.mono (by decide))
  have g1 : gMu (mk q T) (.int w) = some (mkR ((nrm T q).1 * w) (nrm T q).2) := by
    simp [gMu, Dl.gOr, gI, gRep, gOwn2, mk, mkR, R, m1]
  have e1 : nrm ((nrm T q).1 * w) (nrm T q).2 = nrm (T * w) q := nrm_same (Int.ne_of_gt n.pos) hq0 (by
    have h := n.eq
    generalize (nrm T q).1 = A at *
    generalize (nrm T q).2 = B at *
    grind)
  have g2 : gMu (mk q T) (.int w) = some (mk q (T * w)) := by
    rw [g1]; unfold mk mkR; rw [e1]
  unfold gM4
  simp only [Dl.gOr] at g2 ⊢
  rw [g2]
theorem gN4_crs {q : Int} (hq : 0 < q) {A B : List (List Int)} (h : A = B) : gN4 (crs q A) (crs q B) = some (.bl false) := by
  have e := p_eqC hq A B
  rw [decide_eq_true h] at e
  have n : gOr gNeF (gOwnNe 0 G_Ratio_eq) (crs q A) (crs q B) = none := by
    have a : gNeF (crs q A) (crs q B) = none := rfl
    rw [gOr_r a]
    show (if (1 : Nat) = 0 ∧ isC (crs q B) = false then (match G_Ratio_eq [crs q A, crs q B] with
      | some (.bl b) => some (D.bl (!b))
      | _ => none) else none) = none
    rw [if_neg (fun z => absurd z.1 (by decide))]
  have o : gOwnNe 1 G_Course_eq (crs q A) (crs q B) = some (.bl false) := by
    have c : isC (crs q B) = false := by simp [isC]
    show (if (1 : Nat) = 1 ∧ isC (crs q B) = false then (match G_Course_eq [crs q A, crs q B] with
      | some (.bl b) => some (D.bl (!b))
      | _ => none) else none) = _
    rw [if_pos ⟨rfl, c⟩, e]
    rfl
  exact gOr_l ((gOr_r n).trans o)
/-- the worth at a whole number -/
def hw (A : List (List Int)) (w : Int) : Int := hor w (rowAt A w)
theorem hw_co {A : List (List Int)} (h : 0 < A.length) (hl : ∀ r, r ∈ A → r.length ≤ 3) (w : Int) : hw A w = co A w 0 + co A w 1 * w + co A w 2 * (w * w) := hor3 w (hl _ (rowAt_mem h w))
theorem hw_ff {A : List (List Int)} (h : 0 < A.length) (w : Int) : hw (FF A) w = hw A w := by
  unfold hw
  rw [rowAt_least h, hor_trim]
theorem hw_bd {A : List (List Int)} {n : Nat} (o : Ok3 A n) {w : Int} {m : Nat} (bw : Bd w m) : Bd (hw A w) (n + 2 * m + 2) := by
  rw [hw_co o.pos o.len]
  have c := fun j => (o.bd _ (rowAt_mem o.pos w)).cf j
  have b0 : Bd (co A w 0) (n + 2 * m) := (c 0).mono (by omega)
  have b1 : Bd (co A w 1 * w) (n + 2 * m) := ((c 1).mul bw).mono (by omega)
  have b2 : Bd (co A w 2 * (w * w)) (n + 2 * m + 1) := ((c 2).mul (bw.mul bw)).mono (by omega)
  exact (b0.add b1).add b2
theorem hw_plus {A B : List (List Int)} {n m : Nat} (a : Ok3 A n) (b : Ok3 B m) (hl : ∀ r, r ∈ plusL A B → r.length ≤ 3) (w : Int) : hw (plusL A B) w = hw A w + hw B w := by
  have hc : 0 < (plusL A B).length := by simp; exact ⟨a.pos, b.pos⟩
  rw [hw_co hc hl, hw_co a.pos a.len, hw_co b.pos b.len, co_plus a.pos b.pos, co_plus a.pos b.pos, co_plus a.pos b.pos]
  grind
theorem hw_times {A : List (List Int)} {n : Nat} (a : Ok3 A n) (v w : Int) : hw (timesL v A) w = v * hw A w := by
  rw [hw_co (by simpa using a.pos) (fun r hr => by
    obtain ⟨s, hs, rfl⟩ := List.mem_map.mp hr
    simpa using a.len s hs), hw_co a.pos a.len, co_times, co_times, co_times]
  grind
theorem hw_led {A : List (List Int)} {n : Nat} (a : Ok3 A n) (b s w : Int) : hw (ledL b s A) w = hw A (b * w + s) := by
  have hl : ∀ r, r ∈ ledL b s A → r.length ≤ 3 := fun r hr => by
    obtain ⟨k, _, rfl⟩ := List.mem_map.mp hr
    rw [putL_len]
    exact a.len _ (rowAt_mem a.pos _)
  have p : 0 < (ledL b s A).length := by simpa using a.pos
  rw [hw_co p hl, co_led a.pos a.len, co_led a.pos a.len, co_led a.pos a.len]
  unfold hw
  rw [hor3 _ (a.len _ (rowAt_mem a.pos _))]
  simp only [put3]
  grind
end My
namespace My
open PySem PySem.Spec PyProof.Rows L2 ClX Dl
/-! the law's own worth -/
theorem lw_loop2 {w : Int} (bw : Bd w 110) (c : D) : ∀ (ts : List Int) (k : Nat) (T : Int) (s : Sl), (∀ t, t ∈ ts → Bd t 100) → Bd T (120 * k) → k + ts.length ≤ 13 →
    ∃ s', loopF (gN 3) lwB (ts.map D.int) [.val c, .val (.int w), .val (.int T), s] = some (.nx [.val c, .val (.int w), .val (.int (ts.foldl (fun T t => T * w + t) T)), s'])
  | [], k, T, s, _, _, _ => ⟨s, by simp [loopF]⟩
  | t :: ts, k, T, s, ht, bT, hk => by
    simp only [List.length_cons] at hk
    have bt := ht t (List.mem_cons_self ..)
    have bn : Bd (T * w + t) (120 * (k + 1)) := by
      have b1 : Bd (T * w) (120 * k + 110) := bT.mul bw
      have b2 : Bd t (120 * k + 110) := bt.mono (by omega)
      exact (b1.add b2).mono (by omega)
    have ok : okMul T w = true := mul_ok (bT.mono (by omega)) (bw.mono (by decide))
    obtain ⟨s', ih⟩ := lw_loop2 bw c ts (k + 1) (T * w + t) (.val (.int t)) (fun u hu => ht u (List.mem_cons_of_mem _ hu)) bn (by omega)
    refine ⟨s', ?_⟩
    have gm : gM (.int T) (.int w) = some (.int (T * w)) := by
      simp only [gM, Dl.gOr, gI, ok, if_true]
    have st : lwB [.val c, .val (.int w), .val (.int T), .val (.int t)] = some (.nx [.val c, .val (.int w), .val (.int (T * w + t)), .val (.int t)]) := by
      rw [lwB, sSet, bin_eq (bin_eq rfl rfl gm) rfl rfl]
      rfl
    rw [List.map_cons, loopF]
    simp only [gN, List.set_cons_succ, List.set_cons_zero, Option.bind_some, st, List.foldl_cons]
    exact ih
theorem p_lworth2 {q w : Int} (hq : 0 < q) (bq : Bd q 20) (bw : Bd w 110) {rows : List (List Int)} (h : 0 < rows.length) (ht : ∀ r, r ∈ rows → r.length ≤ 12 ∧ ∀ t, t ∈ r → Bd t 100) : G_law_worth [ownD q rows, .int w] = some (mk q (hor w (rowAt rows w))) := by
  obtain ⟨r, e1, hr, e2⟩ := ix_row (f := rowI) rows w h
  have er : rowAt rows w = r := by unfold rowAt; rw [e1]; rfl
  obtain ⟨s', lp⟩ := lw_loop2 bw (ownD q rows) r.reverse 0 0 .un (fun t htt => (ht r hr).2 t (by simpa using htt)) (Nat.two_pow_pos _) (by have := (ht r hr).1; simp; omega)
  have k1 : okPos w (rows.length : Int) = true := okPos_of (by omega)
  have x0 : fFun funLen (fCons (fIxN 0 (fC (.int 1))) fNil) [.val (ownD q rows), .val (.int w), .val (.int 0), .un] = some (.int rows.length, [.val (ownD q rows), .val (.int w), .val (.int 0), .un]) := fun_eq (ixN_val rfl rfl (ix_own1 q rows)) (by simp [funLen])
  have x1 : fBin gIx (fIxN 0 (fC (.int 1))) (fBin (gI okPos fun i j => .int (i % j)) (fV 1) (fFun funLen (fCons (fIxN 0 (fC (.int 1))) fNil))) [.val (ownD q rows), .val (.int w), .val (.int 0), .un] = some (rowI r, [.val (ownD q rows), .val (.int w), .val (.int 0), .un]) :=
    bin_eq (ixN_val rfl rfl (ix_own1 q rows)) (bin_eq (d := .int (w % (rows.length : Int))) rfl x0 (by simp only [gI, k1, if_true])) e2
  have x2 : fSq (fFr (fRev (fBin gIx (fIxN 0 (fC (.int 1))) (fBin (gI okPos fun i j => .int (i % j)) (fV 1) (fFun funLen (fCons (fIxN 0 (fC (.int 1))) fNil)))))) [.val (ownD q rows), .val (.int w), .val (.int 0), .un] = some (r.reverse.map D.int, [.val (ownD q rows), .val (.int w), .val (.int 0), .un]) := by
    rw [fSq, fFr, fRev, x1]
    simp
  have x3 : sFor (fSq (fFr (fRev (fBin gIx (fIxN 0 (fC (.int 1))) (fBin (gI okPos fun i j => .int (i % j)) (fV 1) (fFun funLen (fCons (fIxN 0 (fC (.int 1))) fNil))))))) (gN 3) lwB [.val (ownD q rows), .val (.int w), .val (.int 0), .un] = some (.nx [.val (ownD q rows), .val (.int w), .val (.int (hor w r)), s']) := by
    rw [sFor, x2]
    rw [List.foldl_reverse] at lp
    exact lp
  have ei := p_init (t := hor w r) (b := q) (by omega) (bq.mono (by decide))
  have x4 : fMake 0 G_Ratio_init (gPos []) (fCons (fV 2) (fCons (fIxN 0 (fC (.int 0))) fNil)) fNil [.val (ownD q rows), .val (.int w), .val (.int (hor w r)), s'] = some (mk q (hor w r), [.val (ownD q rows), .val (.int w), .val (.int (hor w r)), s']) := by
    have i0 : fIxN 0 (fC (.int 0)) [.val (ownD q rows), .val (.int w), .val (.int (hor w r)), s'] = some (.int q, [.val (ownD q rows), .val (.int w), .val (.int (hor w r)), s']) := ixN_val rfl rfl (ix_own0 q rows)
    simp only [fMake, fCons, fV, List.getElem?_cons_zero, List.getElem?_cons_succ, Option.bind_some, i0, fNil, gPos, List.append_nil, ei, Option.map_some]
  have s1 : sSet 2 (fC (.int 0)) [.val (ownD q rows), .val (.int w), .un, .un] = some (.nx [.val (ownD q rows), .val (.int w), .val (.int 0), .un]) := rfl
  have g1 : g_law_worth = sSeq (sSet 2 (fC (.int 0))) (sSeq (sFor (fSq (fFr (fRev (fBin gIx (fIxN 0 (fC (.int 1))) (fBin (gI okPos fun i j => .int (i % j)) (fV 1) (fFun funLen (fCons (fIxN 0 (fC (.int 1))) fNil))))))) (gN 3) lwB) (sRet (fMake 0 G_Ratio_init (gPos []) (fCons (fV 2) (fCons (fIxN 0 (fC (.int 0))) fNil)) fNil))) := rfl
  show (g_law_worth [.val (ownD q rows), .val (.int w), .un, .un]).bind endD = _
  rw [g1, seq_nx s1, seq_nx x3, sRet, x4, er]
  rfl
end My
namespace My
open PySem PySem.Spec PyProof.Rows L2 ClX Dl
/-! the polynomials of binomials -/
theorem p_times_sumR {B q s : Int} (hB : 0 < B) (hq : 0 < q) (bB : Bd B 20) (bq : Bd q 40) {ts : List Int} {n : Nat} (ht : BdR ts n) (bs : Bd s 20) (hn : n ≤ 1000) (hl : ts.length ≤ 100) : G_times_sum [rowR q ts, mk B s, mk B 1] = some (rowR (B * q) (tsL s 1 ts)) := by
  have m1 := p_multipliedR (k := s) hB hq (bB.mono (by decide)) (bq.mono (by decide)) (bs.mono (by decide)) ts (fun t h => (ht t h).mono (by omega)) (by omega)
  have m2 := p_multipliedR (k := 1) hB hq (bB.mono (by decide)) (bq.mono (by decide)) (bdOne (by decide)) ts (fun t h => (ht t h).mono (by omega)) (by omega)
  have hQ := Int.mul_pos hB hq
  have c1 : fCall G_multiplied (gPos []) (fCons (fV 0) (fCons (fV 1) fNil)) fNil [.val (rowR q ts), .val (mk B s), .val (mk B 1)] = some (rowR (B * q) (ts.map fun t => s * t), [.val (rowR q ts), .val (mk B s), .val (mk B 1)]) := call2 rfl rfl m1
  have c2 : fCall G_multiplied (gPos []) (fCons (fV 0) (fCons (fV 2) fNil)) fNil [.val (rowR q ts), .val (mk B s), .val (mk B 1)] = some (rowR (B * q) (ts.map fun t => 1 * t), [.val (rowR q ts), .val (mk B s), .val (mk B 1)]) := call2 rfl rfl m2
  have c3 : fFr (fLst (fCons (fMake 0 G_Ratio_init (gPos [.int 1]) (fCons (fC (.int 0)) fNil) fNil) fNil)) [.val (rowR q ts), .val (mk B s), .val (mk B 1)] = some (.lst [mk (B * q) 0], [.val (rowR q ts), .val (mk B s), .val (mk B 1)]) := lst1 (by rw [ratio0 hQ])
  have g := gAdd_lst [mk (B * q) 0] ((ts.map fun t => 1 * t).map (mk (B * q))) (by simp; omega)
  have c4 := bin_eq (g := gOr gAdd0 (gOwn2 0 G_Ratio_add)) c3 c2 (gOr_l g)
  have sm := p_summed hQ ((bB.mul bq).mono (by decide)) (a := ts.map fun t => s * t) (b := 0 :: ts.map fun t => 1 * t) (fun t h => (map_bd ht bs t h).mono (by omega)) (fun t h => (cons_bd (map_bd ht (bdOne (n := 20) (by decide))) t h).mono (by omega)) (by simp; omega) (by simp; omega)
  have c5 := call2 (F := G_summed) c1 c4 sm
  refine out1 (d := some (rowR (B * q) (tsL s 1 ts))) (δ := [.val (rowR q ts), .val (mk B s), .val (mk B 1)]) ?_
  exact c5
def qs (p : Int) : Nat → Int
  | 0 => 1
  | k + 1 => (p * ((k : Int) + 1)) * qs p k
def pol (p l : Int) : Nat → List Int
  | 0 => [1]
  | k + 1 => tsL (-l - p * (k : Int)) 1 (pol p l k)
theorem pol_len (p l : Int) : ∀ k, (pol p l k).length = k + 1
  | 0 => rfl
  | k + 1 => by rw [pol, tsL_len, pol_len p l k]
theorem pk_bd {p : Int} (bp : Bd p 4) {k : Nat} (hk : k ≤ 8) : Bd (p * (k : Int)) 8 := by
  have : Bd (k : Int) 4 := by unfold Bd; omega
  exact bp.mul this
theorem sh_bd {p l : Int} (bp : Bd p 4) (bl : Bd l 4) {k : Nat} (hk : k ≤ 8) : Bd (-l - p * (k : Int)) 9 := (bl.neg.mono (by decide)).sub (pk_bd bp hk)
theorem pol_bd {p l : Int} (bp : Bd p 4) (bl : Bd l 4) : ∀ k, k ≤ 8 → BdR (pol p l k) (11 * k + 1)
  | 0, _ => fun t ht => by rw [List.mem_singleton.mp ht]; exact bdOne (by decide)
  | k + 1, hk => (tsL_bd (pol_bd bp bl k (by omega)) (sh_bd bp bl (by omega)) (bdOne (n := 9) (by decide))).mono (by omega)
theorem qs_pos {p : Int} (hp : 0 < p) : ∀ k, 0 < qs p k
  | 0 => Int.one_pos
  | k + 1 => Int.mul_pos (Int.mul_pos hp (by omega)) (qs_pos hp k)
theorem qs_bd {p : Int} (bp : Bd p 4) : ∀ k, k ≤ 4 → Bd (qs p k) (8 * k + 1)
  | 0, _ => bdOne (by decide)
  | k + 1, hk => by
    have h : Bd (p * ((k : Int) + 1)) 8 := pk_bd bp (k := k + 1) (by omega)
    exact (h.mul (qs_bd bp k (by omega))).mono (by omega)
theorem ixO_val {i : Nat} {fb : FE} {δ : Es} {ds : List D} {j : Int} {r : D} (hi : δ[i]? = some (.own .mine ds)) (hb : fb δ = some (.int j, δ)) (h : atI ds j = some r) : fIxN i fb δ = some (r, δ) := by
  have o : isOwn δ[i]? = true := by rw [hi]; rfl
  rw [fIxN, if_pos o, fIxO, if_pos o, hb, Option.bind_some]
  dsimp only
  rw [hi]
  dsimp only
  show Option.map _ (atI ds j) = _
  rw [h]
  rfl
theorem intsD_cons (lo : Int) (k : Nat) : intsD lo (k + 1) = .int lo :: intsD (lo + 1) k := by
  unfold intsD
  rw [List.range_succ_eq_map, List.map_cons, List.map_map]
  have h1 : D.int (lo + ((0 : Nat) : Int)) = .int lo := by simp
  rw [h1]
  congr 1
  apply List.map_congr_left
  intro a _
  show D.int (lo + ((a + 1 : Nat) : Int)) = D.int (lo + 1 + (a : Int))
  congr 1
  omega
theorem make2 {c : Nat} {F : List D → Option (List D)} {fa fb : FE} {δ δ1 δ2 : Es} {x y : D} {fs : List D} (ha : fa δ = some (x, δ1)) (hb : fb δ1 = some (y, δ2)) (hF : F [x, y] = some fs) : fMake c F (gPos []) (fCons fa (fCons fb fNil)) fNil δ = some (.obj c fs, δ2) := by
  simp only [fMake, fCons, fNil, ha, hb, Option.bind_some, gPos, List.append_nil, hF, Option.map_some]
abbrev polD (p l : Int) (i : Nat) : D := rowR (qs p i) (pol p l i)
def ct1 : FS := sSet 5 (fMake 0 G_Ratio_init (gPos []) (fCons (fC (.int 1)) (fCons (fBin gM4 (fV 0) (fV 4)) fNil)) fNil)
def ct2 : FS := sApp 3 (fCall G_times_sum (gPos []) (fCons (fIxN 3 (fUn gNeg (fC (.int 1)))) (fCons (fBin gM4 (fV 5) (fBin gSu (fUn gNeg (fV 1)) (fBin gM4 (fV 0) (fBin gSu (fV 4) (fC (.int 1)))))) (fCons (fV 5) fNil))) fNil)
theorem sub_int (i j : Int) : gSu (.int i) (.int j) = some (.int (i - j)) := gOr_l rfl
theorem at_last1 (as : List D) (b : D) : atI (as ++ [b]) (-1) = some b := by
  simp only [atI, ixN, List.length_append, List.length_cons, List.length_nil]
  rw [if_neg (by omega), if_pos (by omega), Option.bind_some]
  have e : (-1 + ((as.length + (0 + 1) : Nat) : Int)).toNat = as.length := by omega
  rw [e]
  simp
theorem ct_turn {p l : Int} (hp : 0 < p) (bp : Bd p 4) (bl : Bd l 4) {m s5 : Sl} {k : Nat} (hk : k ≤ 3) : (sSeq ct1 ct2) [.val (.int p), .val (.int l), m, .own .mine ((List.range (k + 1)).map (polD p l)), .val (.int ((k : Int) + 1)), s5] = some (.nx [.val (.int p), .val (.int l), m, .own .mine ((List.range (k + 2)).map (polD p l)), .val (.int ((k : Int) + 1)), .val (mk (p * ((k : Int) + 1)) 1)]) := by
  have bB : Bd (p * ((k : Int) + 1)) 8 := pk_bd bp (k := k + 1) (by omega)
  have hB : 0 < p * ((k : Int) + 1) := Int.mul_pos hp (by omega)
  have bk1 : Bd ((k : Int) + 1) 10 := by unfold Bd; omega
  have a0 : fBin gM4 (fV 0) (fV 4) [.val (.int p), .val (.int l), m, .own .mine ((List.range (k + 1)).map (polD p l)), .val (.int ((k : Int) + 1)), s5] = some (.int (p * ((k : Int) + 1)), [.val (.int p), .val (.int l), m, .own .mine ((List.range (k + 1)).map (polD p l)), .val (.int ((k : Int) + 1)), s5]) := bin_eq rfl rfl (mul4_int (bp.mono (by decide)) (bk1.mono (by decide)))
  have c1 : ct1 [.val (.int p), .val (.int l), m, .own .mine ((List.range (k + 1)).map (polD p l)), .val (.int ((k : Int) + 1)), s5] = some (.nx [.val (.int p), .val (.int l), m, .own .mine ((List.range (k + 1)).map (polD p l)), .val (.int ((k : Int) + 1)), .val (mk (p * ((k : Int) + 1)) 1)]) :=
    set_eq (make2 (fa := fC (.int 1)) rfl a0 (p_init (Int.ne_of_gt hB) (bB.mono (by decide))))
  have bs := sh_bd (k := k) bp bl (by omega)
  have e1 : -l - p * ((k : Int) + 1 - 1) = -l - p * (k : Int) := by
    have : (k : Int) + 1 - 1 = k := by omega
    rw [this]
  have a1 : fBin gM4 (fV 5) (fBin gSu (fUn gNeg (fV 1)) (fBin gM4 (fV 0) (fBin gSu (fV 4) (fC (.int 1))))) [.val (.int p), .val (.int l), m, .own .mine ((List.range (k + 1)).map (polD p l)), .val (.int ((k : Int) + 1)), .val (mk (p * ((k : Int) + 1)) 1)] = some (mk (p * ((k : Int) + 1)) (1 * (-l - p * ((k : Int) + 1 - 1))), [.val (.int p), .val (.int l), m, .own .mine ((List.range (k + 1)).map (polD p l)), .val (.int ((k : Int) + 1)), .val (mk (p * ((k : Int) + 1)) 1)]) :=
    bin_eq rfl (bin_eq rfl (bin_eq rfl (bin_eq rfl rfl (sub_int _ _)) (mul4_int (bp.mono (by decide)) (by unfold Bd at *; omega))) (sub_int _ _)) (mulI_mk hB (bB.mono (by decide)) (bdOne (by decide)) (by rw [e1]; exact bs.mono (by decide)))
  rw [e1, Int.one_mul] at a1
  have last : atI ((List.range (k + 1)).map (polD p l)) (-1) = some (polD p l k) := by
    rw [List.range_succ, List.map_append]
    exact at_last1 _ _
  have a2 : fIxN 3 (fUn gNeg (fC (.int 1))) [.val (.int p), .val (.int l), m, .own .mine ((List.range (k + 1)).map (polD p l)), .val (.int ((k : Int) + 1)), .val (mk (p * ((k : Int) + 1)) 1)] = some (polD p l k, [.val (.int p), .val (.int l), m, .own .mine ((List.range (k + 1)).map (polD p l)), .val (.int ((k : Int) + 1)), .val (mk (p * ((k : Int) + 1)) 1)]) := ixO_val rfl rfl last
  have ts := p_times_sumR hB (qs_pos hp k) (bB.mono (by decide)) ((qs_bd bp k (by omega)).mono (by omega)) (pol_bd bp bl k (by omega)) (bs.mono (by decide)) (by omega) (by rw [pol_len]; omega)
  have a3 := call3 (F := G_times_sum) a2 a1 (fc := fV 5) rfl ts
  have c2 : ct2 [.val (.int p), .val (.int l), m, .own .mine ((List.range (k + 1)).map (polD p l)), .val (.int ((k : Int) + 1)), .val (mk (p * ((k : Int) + 1)) 1)] = some (.nx [.val (.int p), .val (.int l), m, .own .mine ((List.range (k + 1)).map (polD p l) ++ [polD p l (k + 1)]), .val (.int ((k : Int) + 1)), .val (mk (p * ((k : Int) + 1)) 1)]) := app_eq rfl a3 rfl (by unfold big; simp; omega)
  rw [seq_nx c1, c2, show k + 2 = (k + 1) + 1 from rfl, List.range_succ (n := k + 1), List.map_append]
  rfl
end My
namespace My
open PySem PySem.Spec PyProof.Rows L2 ClX Dl
/-! counting, differences -/
theorem ct_loop {p l : Int} (hp : 0 < p) (bp : Bd p 4) (bl : Bd l 4) {m : Sl} : ∀ (n k : Nat) (s4 s5 : Sl), k + n ≤ 4 → ∃ s4' s5', loopF (gN 4) (sSeq ct1 ct2) (intsD ((k : Int) + 1) n) [.val (.int p), .val (.int l), m, .own .mine ((List.range (k + 1)).map (polD p l)), s4, s5] = some (.nx [.val (.int p), .val (.int l), m, .own .mine ((List.range (k + 1 + n)).map (polD p l)), s4', s5'])
  | 0, k, s4, s5, _ => ⟨s4, s5, rfl⟩
  | n + 1, k, s4, s5, h => by
    obtain ⟨s4', s5', ih⟩ := ct_loop hp bp bl (m := m) n (k + 1) (.val (.int ((k : Int) + 1))) (.val (mk (p * ((k : Int) + 1)) 1)) (by omega)
    have t := ct_turn hp bp bl (m := m) (s5 := s5) (k := k) (by omega)
    refine ⟨s4', s5', ?_⟩
    rw [intsD_cons, loopF]
    show (sSeq ct1 ct2 [.val (.int p), .val (.int l), m, .own .mine ((List.range (k + 1)).map (polD p l)), .val (.int ((k : Int) + 1)), s5]).bind _ = _
    rw [t, Option.bind_some]
    rw [show k + 1 + (n + 1) = k + 1 + 1 + n by omega]
    have e : ((k : Int) + 1 + 1) = ((k + 1 : Nat) : Int) + 1 := by omega
    rw [e]
    exact ih
theorem own_eq {i : Nat} {fa : FA} {δ δ1 : Es} {ds : List D} (h : fa δ = some (ds, δ1)) : sOwn i fa δ = some (.nx (δ1.set i (.own .mine ds))) := by
  rw [sOwn, h]; rfl
theorem lst1f {f : FE} {δ δ1 : Es} {d : D} (h : f δ = some (d, δ1)) : fLst (fCons f fNil) δ = some ([d], δ1) := by
  have b : [d].length ≤ big := by show 1 ≤ big; decide
  rw [fLst, cons1 h, Option.bind_some]
  exact if_pos b
theorem p_counting {p l : Int} (hp : 0 < p) (bp : Bd p 4) (bl : Bd l 4) {m : Nat} (hm : m ≤ 5) : G_counting [.int p, .int l, .int (m : Int)] = some (.lst ((List.range m).map (polD p l))) := by
  have i1 : G_Ratio_init [.int 1, .int 1] = some [.int (nrm 1 1).1, .int (nrm 1 1).2] := p_init (by decide) bd1
  have r1 : fMake 0 G_Ratio_init (gPos [.int 1]) (fCons (fC (.int 1)) fNil) fNil [.val (.int p), .val (.int l), .val (.int (m : Int)), .un, .un, .un] = some (mk 1 1, [.val (.int p), .val (.int l), .val (.int (m : Int)), .un, .un, .un]) := by
    simp only [fMake, fCons, fC, fNil, gPos, Option.bind_some, List.cons_append, List.nil_append, i1, Option.map_some]
  have s1 : sOwn 3 (fLst (fCons (fFr (fLst (fCons (fMake 0 G_Ratio_init (gPos [.int 1]) (fCons (fC (.int 1)) fNil) fNil) fNil))) fNil)) [.val (.int p), .val (.int l), .val (.int (m : Int)), .un, .un, .un] = some (.nx [.val (.int p), .val (.int l), .val (.int (m : Int)), .own .mine ((List.range (0 + 1)).map (polD p l)), .un, .un]) := own_eq (lst1f (lst1 r1))
  obtain ⟨s4, s5, lp⟩ := ct_loop hp bp bl (m := .val (.int (m : Int))) (m - 1) 0 .un .un (by omega)
  have rg := rg2_int 1 (m : Int) (by decide) (by decide) (by omega) (by omega) (fa := fCons (fC (.int 1)) (fCons (fV 2) fNil)) (δ := [.val (.int p), .val (.int l), .val (.int (m : Int)), .own .mine ((List.range (0 + 1)).map (polD p l)), .un, .un]) (δ1 := [.val (.int p), .val (.int l), .val (.int (m : Int)), .own .mine ((List.range (0 + 1)).map (polD p l)), .un, .un]) rfl
  have en : ((m : Int) - 1).toNat = m - 1 := by omega
  rw [en] at rg
  have s2 : sFor (fRg2 (fCons (fC (.int 1)) (fCons (fV 2) fNil))) (gN 4) (sSeq ct1 ct2) [.val (.int p), .val (.int l), .val (.int (m : Int)), .own .mine ((List.range (0 + 1)).map (polD p l)), .un, .un] = some (.nx [.val (.int p), .val (.int l), .val (.int (m : Int)), .own .mine ((List.range (0 + 1 + (m - 1))).map (polD p l)), s4, s5]) := by
    rw [sFor, rg]
    exact lp
  have ct := cut_take ((List.range (0 + 1 + (m - 1))).map (polD p l)) m (by simp; omega)
  have tk : ((List.range (0 + 1 + (m - 1))).map (polD p l)).take m = (List.range m).map (polD p l) := by
    rw [← List.map_take, List.take_range, Nat.min_eq_left (by omega)]
  rw [tk] at ct
  have s3 : sRet (fFr (fSlice (fV 3) fNoPart (fPart (fV 2)))) [.val (.int p), .val (.int l), .val (.int (m : Int)), .own .mine ((List.range (0 + 1 + (m - 1))).map (polD p l)), s4, s5] = some (.rt (.lst ((List.range m).map (polD p l))) [.val (.int p), .val (.int l), .val (.int (m : Int)), .val (.lst ((List.range (0 + 1 + (m - 1))).map (polD p l))), s4, s5]) := by
    have f : fSlice (fV 3) fNoPart (fPart (fV 2)) [.val (.int p), .val (.int l), .val (.int (m : Int)), .own .mine ((List.range (0 + 1 + (m - 1))).map (polD p l)), s4, s5] = some (Dl.cutD ((List.range (0 + 1 + (m - 1))).map (polD p l)) none (some (m : Int)), [.val (.int p), .val (.int l), .val (.int (m : Int)), .val (.lst ((List.range (0 + 1 + (m - 1))).map (polD p l))), s4, s5]) := rfl
    rw [ct] at f
    rw [sRet, fr_eq f]
    rfl
  have gi : g_counting = sSeq (sOwn 3 (fLst (fCons (fFr (fLst (fCons (fMake 0 G_Ratio_init (gPos [.int 1]) (fCons (fC (.int 1)) fNil) fNil) fNil))) fNil))) (sSeq (sFor (fRg2 (fCons (fC (.int 1)) (fCons (fV 2) fNil))) (gN 4) (sSeq ct1 ct2)) (sRet (fFr (fSlice (fV 3) fNoPart (fPart (fV 2)))))) := rfl
  show (g_counting [.val (.int p), .val (.int l), .val (.int (m : Int)), .un, .un, .un]).bind endD = _
  rw [gi, seq_nx s1, seq_nx s2, s3]
  rfl
/-! differences -/
def dstep (vs : List Int) : List Int := List.zipWith (fun x y => y - x) vs (vs.drop 1)
def dif : Nat → List Int → List Int
  | 0, _ => []
  | n + 1, vs => (vs[0]?.getD 0) :: dif n (dstep vs)
theorem dstep_len (vs : List Int) : (dstep vs).length = vs.length - 1 := by
  unfold dstep
  simp
theorem dif_len : ∀ (n : Nat) (vs : List Int), (dif n vs).length = n
  | 0, _ => rfl
  | n + 1, vs => by rw [dif, List.length_cons, dif_len n]
theorem zip_bd {n : Nat} : ∀ {a b : List Int}, BdR a n → BdR b n → BdR (List.zipWith (fun x y => y - x) a b) (n + 1)
  | [], _, _, _ => fun t ht => by simp at ht
  | _ :: _, [], _, _ => fun t ht => by simp at ht
  | x :: a, y :: b, ha, hb => fun t ht => by
    rw [List.zipWith_cons_cons] at ht
    rcases List.mem_cons.mp ht with rfl | ht
    · exact (hb y (List.mem_cons_self ..)).sub (ha x (List.mem_cons_self ..))
    · exact zip_bd (fun u hu => ha u (List.mem_cons_of_mem _ hu)) (fun u hu => hb u (List.mem_cons_of_mem _ hu)) t ht
theorem dstep_bd {vs : List Int} {n : Nat} (h : BdR vs n) : BdR (dstep vs) (n + 1) := zip_bd h (fun t ht => h t (List.mem_of_mem_drop ht))
theorem dif_bd : ∀ (n : Nat) {vs : List Int} {b : Nat}, BdR vs b → BdR (dif n vs) (b + n)
  | 0, _, _, _ => fun t ht => by simp [dif] at ht
  | n + 1, vs, b, h => fun t ht => by
    rw [dif] at ht
    rcases List.mem_cons.mp ht with rfl | ht
    · have := h.cf 0
      exact this.mono (by omega)
    · exact (dif_bd n (dstep_bd h) t ht).mono (by omega)
theorem sub_loop {q : Int} (hq : 0 < q) (bq : Bd q 60) {w x y : Sl} : ∀ (a b : List Int) (acc : List D), BdR a 1000 → BdR b 1000 → acc.length + a.length ≤ 1000 →
    lcF (gT 2 (gsCons (gN 3) (gsCons (gN 4) gsNil))) fYes (fBin gSu (fV 4) (fV 3)) [3, 4] (pairsD (a.map (mk q)) (b.map (mk q))) acc [w, x, y, .un, .un] = some (acc ++ (List.zipWith (fun x y => y - x) a b).map (mk q), [w, x, y, .un, .un])
  | [], _, acc, _, _, _ => by simp [pairsD, lcF]
  | _ :: _, [], acc, _, _, _ => by simp [pairsD, lcF]
  | s :: a, t :: b, acc, ha, hb, hz => by
    simp only [List.length_cons] at hz
    have ih := sub_loop hq bq (w := w) (x := x) (y := y) a b (acc ++ [mk q (t - s)]) (fun r hr => ha r (List.mem_cons_of_mem _ hr)) (fun r hr => hb r (List.mem_cons_of_mem _ hr)) (by simp; omega)
    have g := sub_mk hq bq ((hb t (List.mem_cons_self ..)).mono (show 1000 ≤ 1800 by decide)) ((ha s (List.mem_cons_self ..)).mono (show 1000 ≤ 1800 by decide))
    have hbig : acc.length ≤ big := by unfold big; omega
    have e : fBin gSu (fV 4) (fV 3) [w, x, y, .val (mk q s), .val (mk q t)] = some (mk q (t - s), [w, x, y, .val (mk q s), .val (mk q t)]) := bin_eq rfl rfl g
    have tg : gT 2 (gsCons (gN 3) (gsCons (gN 4) gsNil)) (.tup [mk q s, mk q t]) [w, x, y, .un, .un] = some [w, x, y, .val (mk q s), .val (mk q t)] := rfl
    have pd : pairsD ((s :: a).map (mk q)) ((t :: b).map (mk q)) = .tup [mk q s, mk q t] :: pairsD (a.map (mk q)) (b.map (mk q)) := rfl
    have wp : wipeE [w, x, y, .val (mk q s), .val (mk q t)] [3, 4] = [w, x, y, .un, .un] := rfl
    rw [pd, lcF, tg]
    simp only [fYes, Option.bind_some, if_true, e, hbig, wp]
    rw [ih]
    simp
theorem cut_drop1 (ds : List D) : Dl.cutD ds (some 1) none = ds.drop 1 := by
  unfold Dl.cutD
  have e1 : HT.sIx ds.length 0 (some 1) = min 1 ds.length := HT.sIx_nat ds.length 0 1
  have e2 : HT.sIx ds.length ds.length none = ds.length := rfl
  rw [e1, e2]
  cases ds with
  | nil => rfl
  | cons d ds =>
    have : min 1 (d :: ds).length = 1 := by simp
    rw [this]
    exact List.take_of_length_le (by simp)
def Is2 (s : Sl) (ds : List D) : Prop := s = .own .mine ds ∨ s = .val (.lst ds)
def dfC : FT := fB (fBin (gI0 fun i j => .bl (decide (j < i))) (fLenN 2) (fC (.int 0)))
def dfA : FS := sApp 1 (fIxN 2 (fC (.int 0)))
def dfD : FS := sOwn 2 (fLc (fZip (fCons (fV 2) (fCons (fFr (fSlice (fV 2) (fPart (fC (.int 1))) fNoPart)) fNil))) (gT 2 (gsCons (gN 3) (gsCons (gN 4) gsNil))) fYes (fBin gSu (fV 4) (fV 3)) [3, 4])
theorem df_len {w f s : Sl} {ds : List D} (h : Is2 s ds) : fLenN 2 [w, f, s, .un, .un] = some (.int ds.length, [w, f, s, .un, .un]) := by rcases h with rfl | rfl <;> rfl
theorem df_at {w f s : Sl} {ds : List D} (h : Is2 s ds) {r : D} (hr : atI ds 0 = some r) : fIxN 2 (fC (.int 0)) [w, f, s, .un, .un] = some (r, [w, f, s, .un, .un]) := by
  rcases h with rfl | rfl
  · exact ixO_val rfl rfl hr
  · exact ixN_val rfl rfl (by show atI ds 0 = _; exact hr)
theorem df_v {w f s : Sl} {ds : List D} (h : Is2 s ds) : fV 2 [w, f, s, .un, .un] = some (.lst ds, [w, f, .val (.lst ds), .un, .un]) := by rcases h with rfl | rfl <;> rfl
theorem df_loop {q : Int} (hq : 0 < q) (bq : Bd q 60) {w : Sl} : ∀ (n : Nat) (vs acc : List Int) (s : Sl) (b : Nat), vs.length = n → BdR vs b → b + n ≤ 900 → acc.length + n ≤ 500 → Is2 s (vs.map (mk q)) →
    ∃ s', whileF dfC (sSeq dfA dfD) (n + 1) [w, .own .mine (acc.map (mk q)), s, .un, .un] = some (.nx [w, .own .mine ((acc ++ dif n vs).map (mk q)), s', .un, .un])
  | 0, vs, acc, s, b, hl, _, _, _, hs => by
    refine ⟨s, ?_⟩
    have c : dfC [w, .own .mine (acc.map (mk q)), s, .un, .un] = some (false, [w, .own .mine (acc.map (mk q)), s, .un, .un]) := fB_eq (bin_eq (df_len hs) rfl (by rw [List.length_map, hl]; rfl))
    rw [whileF, c, dif, List.append_nil]
    rfl
  | n + 1, vs, acc, s, b, hl, hb, hn, ha, hs => by
    cases vs with
    | nil => simp at hl
    | cons v vs =>
      simp only [List.length_cons] at hl
      have c : dfC [w, .own .mine (acc.map (mk q)), s, .un, .un] = some (true, [w, .own .mine (acc.map (mk q)), s, .un, .un]) := fB_eq (bin_eq (df_len hs) rfl (by rw [List.length_map, lt_eq, decide_eq_true (by simp only [List.length_cons]; omega)]))
      have at0 : atI (mk q v :: vs.map (mk q)) 0 = some (mk q v) := by simp [atI, ixN]
      have a1 : dfA [w, .own .mine (acc.map (mk q)), s, .un, .un] = some (.nx [w, .own .mine (acc.map (mk q) ++ [mk q v]), s, .un, .un]) := app_eq rfl (df_at hs at0) rfl (by unfold big; simp; omega)
      have eacc : acc.map (mk q) ++ [mk q v] = (acc ++ [v]).map (mk q) := by simp
      rw [eacc] at a1
      have z1 : fZip (fCons (fV 2) (fCons (fFr (fSlice (fV 2) (fPart (fC (.int 1))) fNoPart)) fNil)) [w, .own .mine ((acc ++ [v]).map (mk q)), s, .un, .un] = some (pairsD ((v :: vs).map (mk q)) (((v :: vs).drop 1).map (mk q)), [w, .own .mine ((acc ++ [v]).map (mk q)), .val (.lst ((v :: vs).map (mk q))), .un, .un]) := by
        have f : fFr (fSlice (fV 2) (fPart (fC (.int 1))) fNoPart) [w, .own .mine ((acc ++ [v]).map (mk q)), .val (.lst ((v :: vs).map (mk q))), .un, .un] = some (.lst (Dl.cutD ((v :: vs).map (mk q)) (some 1) none), [w, .own .mine ((acc ++ [v]).map (mk q)), .val (.lst ((v :: vs).map (mk q))), .un, .un]) := rfl
        rw [cut_drop1, ← List.map_drop] at f
        rw [fZip, cons2 (df_v hs) f]
        rfl
      have lp := sub_loop hq bq (w := w) (x := .own .mine ((acc ++ [v]).map (mk q))) (y := .val (.lst ((v :: vs).map (mk q)))) (v :: vs) ((v :: vs).drop 1) [] (hb.mono (by omega)) (fun t ht => (hb t (List.mem_of_mem_drop ht)).mono (by omega)) (by simp; omega)
      have d1 : dfD [w, .own .mine ((acc ++ [v]).map (mk q)), s, .un, .un] = some (.nx [w, .own .mine ((acc ++ [v]).map (mk q)), .own .mine ((dstep (v :: vs)).map (mk q)), .un, .un]) := own_eq (i := 2) (δ1 := [w, .own .mine ((acc ++ [v]).map (mk q)), .val (.lst ((v :: vs).map (mk q))), .un, .un]) (by
        rw [fLc, z1]
        exact lp)
      obtain ⟨s', ih⟩ := df_loop hq bq (w := w) n (dstep (v :: vs)) (acc ++ [v]) (.own .mine ((dstep (v :: vs)).map (mk q))) (b + 1) (by rw [dstep_len, List.length_cons]; omega) (dstep_bd hb) (by omega) (by simp; omega) (.inl rfl)
      refine ⟨s', ?_⟩
      rw [whileF, c, Option.bind_some]
      dsimp only
      rw [if_pos rfl, seq_nx a1, d1, Option.bind_some]
      dsimp only
      rw [ih, dif, List.append_assoc]
      rfl
theorem p_differences {q : Int} (hq : 0 < q) (bq : Bd q 60) {vs : List Int} {b : Nat} (hb : BdR vs b) (hn : b + vs.length ≤ 500) : G_differences_of [rowR q vs] = some (rowR q (dif vs.length vs)) := by
  obtain ⟨s', lp⟩ := df_loop hq bq (w := .val (rowR q vs)) vs.length vs [] (.val (rowR q vs)) b rfl hb (by omega) (by simp; omega) (.inr rfl)
  have s1 : sOwn 1 (fLst fNil) [.val (rowR q vs), .un, .un, .un, .un] = some (.nx [.val (rowR q vs), .own .mine [], .un, .un, .un]) := rfl
  have s2 : sSet 2 (fV 0) [.val (rowR q vs), .own .mine [], .un, .un, .un] = some (.nx [.val (rowR q vs), .own .mine [], .val (rowR q vs), .un, .un]) := rfl
  have fu : fu_differences_of [.val (rowR q vs), .own .mine [], .val (rowR q vs), .un, .un] = vs.length + 1 := by
    show (vs.map (mk q)).length + 1 = _
    rw [List.length_map]
  have s3 : sWhile fu_differences_of dfC (sSeq dfA dfD) [.val (rowR q vs), .own .mine [], .val (rowR q vs), .un, .un] = some (.nx [.val (rowR q vs), .own .mine ((dif vs.length vs).map (mk q)), s', .un, .un]) := by
    rw [sWhile, fu]
    exact lp
  have gi : g_differences_of = sSeq (sOwn 1 (fLst fNil)) (sSeq (sSet 2 (fV 0)) (sSeq (sWhile fu_differences_of dfC (sSeq dfA dfD)) (sRet (fV 1)))) := rfl
  show (g_differences_of [.val (rowR q vs), .un, .un, .un, .un]).bind endD = _
  rw [gi, seq_nx s1, seq_nx s2, seq_nx s3]
  rfl
end My
namespace My
open PySem PySem.Spec PyProof.Rows L2 ClX Dl
/-! sums of polynomials -/
abbrev trm (c d : Int) (ts : List Int) : List Int := (ts.map fun t => d * t).map fun t => c * t
def mo (p l : Int) (c : Nat → Int) : Nat → List Int → List Int → List Int
  | _, [], F => F
  | k, d :: ds, F => mo p l c (k + 1) ds (sumL F (trm (c k) d (pol p l k)))
def moB : FS := sSet 2 (fCall G_summed (gPos []) (fCons (fV 2) (fCons (fCall G_multiplied (gPos []) (fCons (fV 4) (fCons (fV 3) fNil)) fNil) fNil)) fNil)
theorem trm_len (c d : Int) (ts : List Int) : (trm c d ts).length = ts.length := by simp
theorem mo_len (p l : Int) (c : Nat → Int) : ∀ (ds : List Int) (k : Nat) (F : List Int), F.length ≤ k → (mo p l c k ds F).length ≤ k + ds.length
  | [], k, F, h => by rw [mo]; exact h
  | d :: ds, k, F, h => by
    rw [mo]
    have := mo_len p l c ds (k + 1) (sumL F (trm (c k) d (pol p l k))) (by rw [sumL_len, trm_len, pol_len]; omega)
    rw [List.length_cons]
    omega
structure Mo (p l b Q : Int) (c : Nat → Int) : Prop where
  hp : 0 < p
  bp : Bd p 4
  bl : Bd l 4
  hb : 0 < b
  bb : Bd b 4
  hQ : 0 < Q
  bQ : Bd Q 20
  bc : ∀ k, k < 4 → Bd (c k) 20
  pc : ∀ k, k < 4 → 0 < c k
  eq : ∀ k, k < 4 → c k * (b * qs p k) = Q
theorem mo_bd {p l b Q : Int} {c : Nat → Int} (M : Mo p l b Q c) : ∀ (ds : List Int) (k : Nat) (F : List Int), k + ds.length ≤ 4 → BdR ds 30 → BdR F (90 + k) → BdR (mo p l c k ds F) (90 + k + ds.length)
  | [], k, F, _, _, hF => hF
  | d :: ds, k, F, hk, hd, hF => by
    simp only [List.length_cons] at hk
    rw [mo]
    have t : BdR (trm (c k) d (pol p l k)) (90 + k) := (map_bd (map_bd (pol_bd M.bp M.bl k (by omega)) (hd d (List.mem_cons_self ..))) (M.bc k (by omega))).mono (by omega)
    have := mo_bd M ds (k + 1) (sumL F (trm (c k) d (pol p l k))) (by omega) (fun t h => hd t (List.mem_cons_of_mem _ h)) (sum_bd hF t)
    rw [List.length_cons]
    exact this.mono (by omega)
theorem mo_loop {p l b Q : Int} {c : Nat → Int} (M : Mo p l b Q c) {x y : Sl} : ∀ (ds : List Int) (k : Nat) (F : List Int) (s3 s4 : Sl), k + ds.length ≤ 4 → BdR ds 30 → BdR F (90 + k) → F.length ≤ k →
    ∃ s3' s4', loopF (gT 2 (gsCons (gN 3) (gsCons (gN 4) gsNil))) moB (pairsD (ds.map (mk b)) ((List.range' k ds.length).map (polD p l))) [x, y, .val (rowR Q F), s3, s4] = some (.nx [x, y, .val (rowR Q (mo p l c k ds F)), s3', s4'])
  | [], k, F, s3, s4, _, _, _, _ => ⟨s3, s4, by simp [pairsD, loopF, mo]⟩
  | d :: ds, k, F, s3, s4, hk, hd, hF, hl => by
    simp only [List.length_cons] at hk
    have bd := hd d (List.mem_cons_self ..)
    have t : BdR (trm (c k) d (pol p l k)) (90 + k) := (map_bd (map_bd (pol_bd M.bp M.bl k (by omega)) bd) (M.bc k (by omega))).mono (by omega)
    obtain ⟨s3', s4', ih⟩ := mo_loop M (x := x) (y := y) ds (k + 1) (sumL F (trm (c k) d (pol p l k))) (.val (mk b d)) (.val (polD p l k)) (by omega) (fun t h => hd t (List.mem_cons_of_mem _ h)) (sum_bd hF t) (by rw [sumL_len, trm_len, pol_len]; omega)
    refine ⟨s3', s4', ?_⟩
    have qp := qs_pos M.hp k
    have m1 := p_multipliedR (k := d) M.hb qp (M.bb.mono (by decide)) ((qs_bd M.bp k (by omega)).mono (by omega)) (bd.mono (by decide)) (pol p l k) (fun t h => (pol_bd M.bp M.bl k (by omega) t h).mono (by omega)) (by rw [pol_len]; omega)
    have e1 := row_scale (Int.mul_pos M.hb qp) (M.pc k (by omega)) ((pol p l k).map fun t => d * t)
    rw [M.eq k (by omega)] at e1
    rw [e1] at m1
    have sm := p_summed M.hQ (M.bQ.mono (by decide)) (a := F) (b := trm (c k) d (pol p l k)) (fun u h => (hF u h).mono (by omega)) (fun u h => (t u h).mono (by omega)) (by omega) (by rw [trm_len, pol_len]; omega)
    have a1 : fCall G_multiplied (gPos []) (fCons (fV 4) (fCons (fV 3) fNil)) fNil [x, y, .val (rowR Q F), .val (mk b d), .val (polD p l k)] = some (rowR Q (trm (c k) d (pol p l k)), [x, y, .val (rowR Q F), .val (mk b d), .val (polD p l k)]) := call2 rfl rfl m1
    have a2 : moB [x, y, .val (rowR Q F), .val (mk b d), .val (polD p l k)] = some (.nx [x, y, .val (rowR Q (sumL F (trm (c k) d (pol p l k)))), .val (mk b d), .val (polD p l k)]) := set_eq (call2 (F := G_summed) (fa := fV 2) rfl a1 sm)
    have pd : pairsD ((d :: ds).map (mk b)) ((List.range' k (d :: ds).length).map (polD p l)) = .tup [mk b d, polD p l k] :: pairsD (ds.map (mk b)) ((List.range' (k + 1) ds.length).map (polD p l)) := by
      rw [List.length_cons, List.range'_succ]
      rfl
    have tg : gT 2 (gsCons (gN 3) (gsCons (gN 4) gsNil)) (.tup [mk b d, polD p l k]) [x, y, .val (rowR Q F), s3, s4] = some [x, y, .val (rowR Q F), .val (mk b d), .val (polD p l k)] := rfl
    rw [pd, loopF, tg, Option.bind_some, a2, Option.bind_some]
    dsimp only
    rw [ih, mo]
theorem p_made_of {p l b Q : Int} {c : Nat → Int} (M : Mo p l b Q c) {ds : List Int} (hl : ds.length ≤ 4) (hd : BdR ds 30) : G_made_of [rowR b ds, .lst ((List.range ds.length).map (polD p l))] = some (rowR Q (mo p l c 0 ds [])) := by
  obtain ⟨s3, s4, lp⟩ := mo_loop M (x := .val (rowR b ds)) (y := .val (.lst ((List.range ds.length).map (polD p l)))) ds 0 [] .un .un (by omega) hd (fun t ht => by simp at ht) (by simp)
  rw [← List.range_eq_range'] at lp
  have s1 : sSet 2 (fFr (fLst fNil)) [.val (rowR b ds), .val (.lst ((List.range ds.length).map (polD p l))), .un, .un, .un] = some (.nx [.val (rowR b ds), .val (.lst ((List.range ds.length).map (polD p l))), .val (rowR Q []), .un, .un]) := rfl
  have s2 : sFor (fZip (fCons (fV 0) (fCons (fV 1) fNil))) (gT 2 (gsCons (gN 3) (gsCons (gN 4) gsNil))) moB [.val (rowR b ds), .val (.lst ((List.range ds.length).map (polD p l))), .val (rowR Q []), .un, .un] = some (.nx [.val (rowR b ds), .val (.lst ((List.range ds.length).map (polD p l))), .val (rowR Q (mo p l c 0 ds [])), s3, s4]) := by
    have z : fZip (fCons (fV 0) (fCons (fV 1) fNil)) [.val (rowR b ds), .val (.lst ((List.range ds.length).map (polD p l))), .val (rowR Q []), .un, .un] = some (pairsD (ds.map (mk b)) ((List.range ds.length).map (polD p l)), [.val (rowR b ds), .val (.lst ((List.range ds.length).map (polD p l))), .val (rowR Q []), .un, .un]) := rfl
    rw [sFor, z]
    exact lp
  have gi : g_made_of = sSeq (sSet 2 (fFr (fLst fNil))) (sSeq (sFor (fZip (fCons (fV 0) (fCons (fV 1) fNil))) (gT 2 (gsCons (gN 3) (gsCons (gN 4) gsNil))) moB) (sRet (fV 2))) := rfl
  show (g_made_of [.val (rowR b ds), .val (.lst ((List.range ds.length).map (polD p l))), .un, .un, .un]).bind endD = _
  rw [gi, seq_nx s1, seq_nx s2]
  rfl
/-! every p-th item -/
theorem range_step {p m l : Nat} (hp : 0 < p) (hl : l < p) : sliceRange (sliceBounds (some (l : Int)) none (some (p : Int)) (p * m)).1 (sliceBounds (some (l : Int)) none (some (p : Int)) (p * m)).2.1 (sliceBounds (some (l : Int)) none (some (p : Int)) (p * m)).2.2 = (List.range m).map fun j => l + p * j := by
  have h0 : (p : Int) > 0 := by omega
  have h1 : ¬ (l : Int) < 0 := by omega
  have e : sliceBounds (some (l : Int)) none (some (p : Int)) (p * m) = (max 0 (min (l : Int) ((p * m : Nat) : Int)), ((p * m : Nat) : Int), (p : Int)) := by
    simp only [sliceBounds, Option.getD_some, h0, if_true, h1, if_false]
  rw [e]
  cases m with
  | zero =>
    simp only [Nat.mul_zero]
    unfold sliceRange
    simp only [h0, if_true]
    have : ¬ (max 0 (min (l : Int) ((0 : Nat) : Int))) < ((0 : Nat) : Int) := by omega
    rw [if_neg this]
    rfl
  | succ m =>
    have hle : l < p * (m + 1) := Nat.lt_of_lt_of_le hl (Nat.le_mul_of_pos_right p (by omega))
    have ea : max 0 (min (l : Int) ((p * (m + 1) : Nat) : Int)) = (l : Int) := by omega
    rw [ea]
    unfold sliceRange
    simp only [h0, if_true]
    rw [if_pos (by omega)]
    have ec : (((p * (m + 1) : Nat) : Int) - (l : Int) + (p : Int) - 1) / (p : Int) = ((m + 1 : Nat) : Int) := by
      have : ((p * (m + 1) : Nat) : Int) - (l : Int) + (p : Int) - 1 = ((p : Int) - 1 - (l : Int)) + (p : Int) * ((m + 1 : Nat) : Int) := by
        push_cast
        omega
      rw [this, Int.add_mul_ediv_left _ _ (by omega), Int.ediv_eq_zero_of_lt (by omega) (by omega), Int.zero_add]
    rw [ec, Int.toNat_natCast]
    apply List.map_congr_left
    intro k _
    have : (l : Int) + (p : Int) * (k : Int) = ((l + p * k : Nat) : Int) := by push_cast; rfl
    rw [this, Int.toNat_natCast]
def col (vs : List Int) (p m l : Nat) : List Int := (List.range m).map fun j => vs[l + p * j]?.getD 0
theorem col_len (vs : List Int) (p m l : Nat) : (col vs p m l).length = m := by simp [col]
theorem col_bd {vs : List Int} {b : Nat} (h : BdR vs b) (p m l : Nat) : BdR (col vs p m l) b := fun t ht => by
  obtain ⟨j, _, rfl⟩ := List.mem_map.mp ht
  exact h.cf _
theorem at_lt {p m l j : Nat} (hl : l < p) (hj : j < m) : l + p * j < p * m := by
  have : p * j + p ≤ p * m := by
    have := Nat.mul_le_mul_left p (show j + 1 ≤ m by omega)
    rwa [Nat.mul_add, Nat.mul_one] at this
  omega
theorem filterMap_some {α β : Type} {f : α → Option β} {g : α → β} : ∀ {l : List α}, (∀ a, a ∈ l → f a = some (g a)) → l.filterMap f = l.map g
  | [], _ => rfl
  | a :: l, h => by rw [List.filterMap_cons, h a (List.mem_cons_self ..), List.map_cons, filterMap_some (fun x hx => h x (List.mem_cons_of_mem _ hx))]
theorem step_col {q : Int} {vs : List Int} {p m l : Nat} (hp : 0 < p) (hl : l < p) (hn : vs.length = p * m) : stepL (vs.map (mk q)) (some (l : Int)) none (some (p : Int)) = (col vs p m l).map (mk q) := by
  unfold stepL
  rw [List.length_map, hn, range_step hp hl, List.filterMap_map, col, List.map_map]
  apply filterMap_some
  intro j hj
  have h := at_lt hl (List.mem_range.mp hj)
  show ((vs.map (mk q))[l + p * j]?) = some (mk q (vs[l + p * j]?.getD 0))
  rw [List.getElem?_map, List.getElem?_eq_getElem (by omega)]
  rfl
end My
namespace My
open PySem PySem.Spec PyProof.Rows L2 ClX Dl
/-! grown -/
theorem not_f {f : FT} {δ δ1 : Es} (h : f δ = some (true, δ1)) : fNot f δ = some (false, δ1) := by
  rw [fNot, h]; rfl
theorem chain_eq {g g' : D → D → Option D} {fa fb fc : FE} {δ δ1 δ2 δ3 : Es} {x y z d : D} (ha : fa δ = some (x, δ1)) (hb : fb δ1 = some (y, δ2)) (hg : g x y = some (.bl true)) (hc : fc δ2 = some (z, δ3)) (hg' : g' y z = some d) : fChain g g' fa fb fc δ = some (d, δ3) := by
  rw [fChain, ha, Option.bind_some]
  dsimp only
  rw [hb, Option.bind_some]
  dsimp only
  rw [hg]
  dsimp only
  rw [hc, Option.bind_some]
  dsimp only
  rw [hg']
  rfl
theorem p_is_count {i : Int} (h : 0 ≤ i) : G_is_count [.int i] = some (.bl true) := by
  refine out1 (d := some (.bl true)) (δ := [.val (.int i)]) ?_
  exact and_t (call1 rfl (p_is_integer i)) (bin_eq rfl rfl (by simp only [gI0, decide_eq_true h]))
def cc (p : Int) : Nat → Int
  | 0 => 6 * p * p * p
  | 1 => 6 * p * p
  | 2 => 3 * p
  | _ => 1
abbrev QQ (p b : Int) : Int := 6 * p * p * p * b
theorem mo_ok {p l b : Int} (hp : 0 < p) (bp : Bd p 4) (bl : Bd l 4) (hb : 0 < b) (bb : Bd b 2) : Mo p l b (QQ p b) (cc p) := by
  have b6 : Bd (6 : Int) 3 := by unfold Bd; decide
  have b3 : Bd (3 : Int) 2 := by unfold Bd; decide
  have p2 : 0 < 6 * p * p := Int.mul_pos (Int.mul_pos (by decide) hp) hp
  have p3 : 0 < 6 * p * p * p := Int.mul_pos p2 hp
  have q2 : Bd (6 * p * p) 11 := (b6.mul bp).mul bp
  have q3 : Bd (6 * p * p * p) 15 := q2.mul bp
  refine ⟨hp, bp, bl, hb, bb.mono (by decide), Int.mul_pos p3 hb, (q3.mul bb).mono (by decide), fun k hk => ?_, fun k hk => ?_, fun k hk => ?_⟩
  · match k, hk with
    | 0, _ => exact q3.mono (by decide)
    | 1, _ => exact q2.mono (by decide)
    | 2, _ => exact (b3.mul bp).mono (by decide)
    | 3, _ => exact bdOne (by decide)
  · match k, hk with
    | 0, _ => exact p3
    | 1, _ => exact p2
    | 2, _ => exact Int.mul_pos (by decide) hp
    | 3, _ => exact Int.one_pos
  · match k, hk with
    | 0, _ => simp only [cc, qs, QQ]; grind
    | 1, _ => simp only [cc, qs, QQ]; grind
    | 2, _ => simp only [cc, qs, QQ]; grind
    | 3, _ => simp only [cc, qs, QQ]; grind
/-- the row of one remainder -/
def gr (p m : Nat) (vs : List Int) (l : Nat) : List Int := mo (p : Int) (l : Int) (cc (p : Int)) 0 (dif m (col vs p m l)) []
abbrev grR (p m : Nat) (vs : List Int) : List (List Int) := (List.range p).map (gr p m vs)
theorem gr_len (p m : Nat) (vs : List Int) (l : Nat) : (gr p m vs l).length ≤ m := by
  have := mo_len (p : Int) (l : Int) (cc (p : Int)) (dif m (col vs p m l)) 0 [] (by simp)
  rw [dif_len] at this
  unfold gr
  omega
def gF : FE := fCall G_made_of (gPos []) (fCons (fCall G_differences_of (gPos []) (fCons (fFr (fStep (fV 2) (fPart (fV 6)) fNoPart (fPart (fV 0)))) fNil) fNil) (fCons (fCall G_counting (gPos []) (fCons (fV 0) (fCons (fV 6) (fCons (fV 3) fNil))) fNil) fNil)) fNil
theorem gF_eq {p m : Nat} {b : Int} (hp : 0 < p) (p12 : p ≤ 12) (hm : m ≤ 4) (hb : 0 < b) (bb : Bd b 2) {vs : List Int} (bv : BdR vs 20) (hl : vs.length = p * m) {s1 s4 s5 : Sl} {l : Nat} (hlp : l < p) : gF [.val (.int (p : Int)), s1, .val (rowR b vs), .val (.int (m : Int)), s4, s5, .val (.int (l : Int))] = some (rowR (QQ (p : Int) b) (gr p m vs l), [.val (.int (p : Int)), s1, .val (rowR b vs), .val (.int (m : Int)), s4, s5, .val (.int (l : Int))]) := by
  have bp : Bd (p : Int) 4 := by unfold Bd; omega
  have bl : Bd (l : Int) 4 := by unfold Bd; omega
  have hp' : 0 < (p : Int) := by omega
  have M := mo_ok hp' bp bl hb bb
  have hlen : vs.length ≤ 48 := by
    rw [hl]
    exact Nat.mul_le_mul p12 hm
  have st := step_col (q := b) hp hlp hl
  have f1 : fFr (fStep (fV 2) (fPart (fV 6)) fNoPart (fPart (fV 0))) [.val (.int (p : Int)), s1, .val (rowR b vs), .val (.int (m : Int)), s4, s5, .val (.int (l : Int))] = some (rowR b (col vs p m l), [.val (.int (p : Int)), s1, .val (rowR b vs), .val (.int (m : Int)), s4, s5, .val (.int (l : Int))]) := fr_eq (by
    have e : fStep (fV 2) (fPart (fV 6)) fNoPart (fPart (fV 0)) [.val (.int (p : Int)), s1, .val (rowR b vs), .val (.int (m : Int)), s4, s5, .val (.int (l : Int))] = if some (p : Int) ≠ some 0 ∧ (stepL (vs.map (mk b)) (some (l : Int)) none (some (p : Int))).length ≤ big then some (stepL (vs.map (mk b)) (some (l : Int)) none (some (p : Int)), [.val (.int (p : Int)), s1, .val (rowR b vs), .val (.int (m : Int)), s4, s5, .val (.int (l : Int))]) else none := rfl
    rw [e, st]
    exact if_pos ⟨fun z => by injection z with z; omega, by rw [List.length_map, col_len]; unfold big; omega⟩)
  have bc := col_bd bv p m l
  have d1 := p_differences hb (bb.mono (by decide)) bc (by rw [col_len]; omega)
  rw [col_len] at d1
  have c1 := p_counting hp' bp bl (m := m) (by omega)
  have mf := p_made_of M (ds := dif m (col vs p m l)) (by rw [dif_len]; exact hm) ((dif_bd m bc).mono (by omega))
  rw [dif_len] at mf
  exact call2 (call1 f1 d1) (call3 rfl rfl rfl c1) mf
theorem p_grown {p m : Nat} {b : Int} (hp : 0 < p) (p12 : p ≤ 12) (hm : m ≤ 4) (hb : 0 < b) (bb : Bd b 2) {vs : List Int} {d : D} {ds : List D} (hd : Sq d ds) (hn : Nums b vs ds) (bv : BdR vs 20) (hl : vs.length = p * m) : G_grown [.int (p : Int), d] = some (crs (QQ (p : Int) b) (FF (grR p m vs))) := by
  have hlen : vs.length ≤ 48 := by
    rw [hl]
    exact Nat.mul_le_mul p12 hm
  have dl := hn.len
  have le1 : (gI0 fun i j => .bl (decide (i ≤ j))) (.int 1) (.int (p : Int)) = some (.bl true) := by simp only [gI0, decide_eq_true (show (1 : Int) ≤ p by omega)]
  have le2 : (gI0 fun i j => .bl (decide (i ≤ j))) (.int (p : Int)) (.int 12) = some (.bl true) := by simp only [gI0, decide_eq_true (show (p : Int) ≤ 12 by omega)]
  have s1 : sIf (fOr (fNot (fB (fCall G_is_count (gPos []) (fCons (fV 0) fNil) fNil))) (fNot (fB (fChain (gI0 fun i j => .bl (decide (i ≤ j))) (gI0 fun i j => .bl (decide (i ≤ j))) (fC (.int 1)) (fV 0) (fC (.int 12)))))) sNo sNil [.val (.int (p : Int)), .val d, .un, .un, .un, .un, .un] = some (.nx [.val (.int (p : Int)), .val d, .un, .un, .un, .un, .un]) :=
    sIf_f ((or_f (not_f (fB_eq (call1 rfl (p_is_count (by omega)))))).trans (not_f (fB_eq (chain_eq rfl rfl le1 rfl le2))))
  have l1 : fLenN 1 [.val (.int (p : Int)), .val d, .un, .un, .un, .un, .un] = some (.int (ds.length : Int), [.val (.int (p : Int)), .val d, .un, .un, .un, .un, .un]) := fLenN_val hd rfl
  have rg := rg1_int 6 (by decide) (by decide) (fa := fCons (fBin gAd (fC (.int 5)) (fC (.int 1))) fNil) (δ := [.val (.int (p : Int)), .val d, .un, .un, .un, .un, .un]) (δ1 := [.val (.int (p : Int)), .val d, .un, .un, .un, .un, .un]) rfl
  have ei : intsD 0 (6 : Int).toNat = (List.range 6).map fun k : Nat => D.int (k : Int) := by
    show intsD 0 6 = _
    unfold intsD
    apply List.map_congr_left
    intro a _
    simp
  rw [ei] at rg
  have mm : ∀ k, k ∈ List.range 6 → (fun x : D => gM4 (.int (p : Int)) x) (D.int ((k : Nat) : Int)) = some (D.int ((p * k : Nat) : Int)) := fun k hk => by
    have := mul4_int (i := (p : Int)) (j := (k : Int)) (by have : Bd (p : Int) 4 := by unfold Bd; omega
                                                           exact this.mono (by decide)) (by have : Bd (k : Int) 4 := by have := List.mem_range.mp hk; unfold Bd; omega
                                                                                            exact this.mono (by decide))
    show gM4 (.int (p : Int)) (.int (k : Int)) = _
    rw [this]
    push_cast
    rfl
  have lc := flc (i := 4) (fe := fBin gM4 (fV 0) (fV 4)) (h := fun x => gM4 (.int (p : Int)) x) rg rfl (fun x hx => by
    obtain ⟨k, hk, rfl⟩ := List.mem_map.mp hx
    have e := mm k hk
    dsimp only at e
    rw [e]
    exact bin_eq rfl rfl e) (by show 6 ≤ big; decide)
  rw [mapO_map mm, Option.map_some] at lc
  have nin : gNotIn (.int (ds.length : Int)) (.lst ((List.range 6).map fun k : Nat => D.int ((p * k : Nat) : Int))) = some (.bl false) := by
    have e : ((List.range 6).map fun k : Nat => D.int ((p * k : Nat) : Int)) = ((List.range 6).map fun k : Nat => ((p * k : Nat) : Int)).map D.int := by rw [List.map_map]; rfl
    have i : (ds.length : Int) ∈ (List.range 6).map fun k : Nat => ((p * k : Nat) : Int) := List.mem_map.mpr ⟨m, List.mem_range.mpr (by omega), by rw [← dl, hl]⟩
    rw [gNotIn, e, intsOf_map, Option.map_some, decide_eq_true i]
    rfl
  have s2 : sIf (fOr (fNot (fB (fCall G_is_list (gPos []) (fCons (fV 1) fNil) fNil))) (fB (fBin gNotIn (fLenN 1) (fFr (fLc (fRg1 (fCons (fBin gAd (fC (.int 5)) (fC (.int 1))) fNil)) (gN 4) fYes (fBin gM4 (fV 0) (fV 4)) [4]))))) sNo sNil [.val (.int (p : Int)), .val d, .un, .un, .un, .un, .un] = some (.nx [.val (.int (p : Int)), .val d, .un, .un, .un, .un, .un]) :=
    sIf_f ((or_f (not_f (fB_eq (call1 rfl (p_is_listS hd))))).trans (fB_eq (bin_eq l1 (fr_eq lc) nin)))
  have s3 : sIf (fNot (fB (fCall G_are_numbers (gPos []) (fCons (fV 1) (fCons (fLenN 1) fNil)) fNil))) sNo sNil [.val (.int (p : Int)), .val d, .un, .un, .un, .un, .un] = some (.nx [.val (.int (p : Int)), .val d, .un, .un, .un, .un, .un]) :=
    sIf_f (not_f (fB_eq (call2 rfl l1 (p_are_numbers hd hn (by omega)))))
  have as := flc (i := 5) (fI := fSq (fV 1)) (fe := fCall G_as_ratio (gPos []) (fCons (fV 5) fNil) fNil) (h := fun x => G_as_ratio [x]) (δ := [.val (.int (p : Int)), .val d, .un, .un, .un, .un, .un]) (fSq_val hd rfl) rfl (fun x hx => by
    cases e : G_as_ratio [x] with
    | none =>
      show fCall G_as_ratio (gPos []) (fCons (fV 5) fNil) fNil [.val (.int (p : Int)), .val d, .un, .un, .un, .val x, .un] = none
      have : fCall G_as_ratio (gPos []) (fCons (fV 5) fNil) fNil [.val (.int (p : Int)), .val d, .un, .un, .un, .val x, .un] = (G_as_ratio [x]).map fun y => (y, [.val (.int (p : Int)), .val d, .un, .un, .un, .val x, .un]) := rfl
      rw [this, e]; rfl
    | some y => exact call1 rfl e) (by unfold big; omega)
  rw [map_as hb hn, Option.map_some] at as
  have s4 : sSet 2 (fFr (fLc (fSq (fV 1)) (gN 5) fYes (fCall G_as_ratio (gPos []) (fCons (fV 5) fNil) fNil) [5])) [.val (.int (p : Int)), .val d, .un, .un, .un, .un, .un] = some (.nx [.val (.int (p : Int)), .val d, .val (rowR b vs), .un, .un, .un, .un]) := set_eq (fr_eq as)
  have l2 : fLenN 1 [.val (.int (p : Int)), .val d, .val (rowR b vs), .un, .un, .un, .un] = some (.int (ds.length : Int), [.val (.int (p : Int)), .val d, .val (rowR b vs), .un, .un, .un, .un]) := fLenN_val hd rfl
  have kd : okDivN (ds.length : Int) (p : Int) = true := by
    unfold okDivN
    simp only [Bool.and_eq_true, decide_eq_true_eq]
    exact ⟨by omega, Nat.lt_of_lt_of_le (show (p : Int).natAbs < 2 ^ 10 by omega) (Nat.pow_le_pow_right (by decide) (by decide))⟩
  have dv : (ds.length : Int).fdiv (p : Int) = (m : Int) := by
    rw [← dl, hl, Int.fdiv_eq_ediv_of_nonneg _ (by omega)]
    push_cast
    exact Int.mul_ediv_cancel_left _ (by omega)
  have gd : (gI okDivN fun i j => .int (i.fdiv j)) (.int (ds.length : Int)) (.int (p : Int)) = some (.int (m : Int)) := by
    show (if okDivN (ds.length : Int) (p : Int) = true then some (D.int ((ds.length : Int).fdiv (p : Int))) else none) = _
    rw [if_pos kd, dv]
  have a5 : fBin (gI okDivN fun i j => .int (i.fdiv j)) (fLenN 1) (fV 0) [.val (.int (p : Int)), .val d, .val (rowR b vs), .un, .un, .un, .un] = some (.int (m : Int), [.val (.int (p : Int)), .val d, .val (rowR b vs), .un, .un, .un, .un]) := bin_eq l2 rfl gd
  have s5 : sSet 3 (fBin (gI okDivN fun i j => .int (i.fdiv j)) (fLenN 1) (fV 0)) [.val (.int (p : Int)), .val d, .val (rowR b vs), .un, .un, .un, .un] = some (.nx [.val (.int (p : Int)), .val d, .val (rowR b vs), .val (.int (m : Int)), .un, .un, .un]) := set_eq a5
  have rg2 := rg1_int (p : Int) (by omega) (by omega) (fa := fCons (fV 0) fNil) (δ := [.val (.int (p : Int)), .val d, .val (rowR b vs), .val (.int (m : Int)), .un, .un, .un]) (δ1 := [.val (.int (p : Int)), .val d, .val (rowR b vs), .val (.int (m : Int)), .un, .un, .un]) rfl
  rw [Int.toNat_natCast] at rg2
  have lc2 := range_lc (q := QQ (p : Int) b) (f := gr p m vs) (i := 6) (fe := gF) rg2 rfl (by omega) (fun l hlp => gF_eq hp p12 hm hb bb bv hl hlp)
  have hQ : 0 < QQ (p : Int) b := Int.mul_pos (Int.mul_pos (Int.mul_pos (Int.mul_pos (by decide) (by omega)) (by omega)) (by omega)) hb
  have cr := p_crs hQ (rows := grR p m vs) (by simp; omega) (by simp; omega) (fun r hr => by
    obtain ⟨l, _, rfl⟩ := List.mem_map.mp hr
    have := gr_len p m vs l
    omega)
  have fin := make1 (c := 1) (F := G_Course_init) (fr_eq lc2) cr
  have gi : g_grown = sSeq (sIf (fOr (fNot (fB (fCall G_is_count (gPos []) (fCons (fV 0) fNil) fNil))) (fNot (fB (fChain (gI0 fun i j => .bl (decide (i ≤ j))) (gI0 fun i j => .bl (decide (i ≤ j))) (fC (.int 1)) (fV 0) (fC (.int 12)))))) sNo sNil) (sSeq (sIf (fOr (fNot (fB (fCall G_is_list (gPos []) (fCons (fV 1) fNil) fNil))) (fB (fBin gNotIn (fLenN 1) (fFr (fLc (fRg1 (fCons (fBin gAd (fC (.int 5)) (fC (.int 1))) fNil)) (gN 4) fYes (fBin gM4 (fV 0) (fV 4)) [4]))))) sNo sNil) (sSeq (sIf (fNot (fB (fCall G_are_numbers (gPos []) (fCons (fV 1) (fCons (fLenN 1) fNil)) fNil))) sNo sNil) (sSeq (sSet 2 (fFr (fLc (fSq (fV 1)) (gN 5) fYes (fCall G_as_ratio (gPos []) (fCons (fV 5) fNil) fNil) [5]))) (sSeq (sSet 3 (fBin (gI okDivN fun i j => .int (i.fdiv j)) (fLenN 1) (fV 0))) (sRet (fMake 1 G_Course_init (gPos []) (fCons (fFr (fLc (fRg1 (fCons (fV 0) fNil)) (gN 6) fYes gF [6])) fNil) fNil)))))) := rfl
  show (g_grown [.val (.int (p : Int)), .val d, .un, .un, .un, .un, .un]).bind endD = _
  rw [gi, seq_nx s1, seq_nx s2, seq_nx s3, seq_nx s4, seq_nx s5, sRet, fin]
  rfl
end My
namespace My
open PySem PySem.Spec PyProof.Rows L2 ClX Dl
/-! what the grown rows are worth -/
theorem hor_cons (w x : Int) (ts : List Int) : hor w (x :: ts) = hor w ts * w + x := rfl
theorem hor_nil (w : Int) : hor w [] = 0 := rfl
theorem hor_zip (w : Int) : ∀ a b : List Int, a.length = b.length → hor w (List.zipWith (fun x y => x + y) a b) = hor w a + hor w b
  | [], [], _ => rfl
  | [], _ :: _, h => by simp at h
  | _ :: _, [], h => by simp at h
  | x :: a, y :: b, h => by
    rw [List.zipWith_cons_cons, hor_cons, hor_cons, hor_cons, hor_zip w a b (by simpa using h)]
    grind
theorem hor_sumL (w : Int) (a b : List Int) : hor w (sumL a b) = hor w a + hor w b := by
  unfold sumL
  rw [hor_zip w _ _ (by rw [padL_len (Nat.le_max_left _ _), padL_len (Nat.le_max_right _ _)])]
  unfold padL
  rw [hor_pad, hor_pad]
theorem hor_map (w c : Int) : ∀ a : List Int, hor w (a.map fun t => c * t) = c * hor w a
  | [] => by simp [hor_nil]
  | x :: a => by
    rw [List.map_cons, hor_cons, hor_cons, hor_map w c a]
    grind
theorem hor_tsL (w s b : Int) (ts : List Int) : hor w (tsL s b ts) = (s + b * w) * hor w ts := by
  unfold tsL
  rw [hor_sumL, hor_map, hor_cons, hor_map]
  grind
theorem hor_pol0 (w p l : Int) : hor w (pol p l 0) = 1 := by
  show hor w [1] = 1
  rw [hor_cons, hor_nil]
  grind
theorem hor_polS (w p l : Int) (k : Nat) : hor w (pol p l (k + 1)) = (w - l - p * (k : Int)) * hor w (pol p l k) := by
  rw [pol, hor_tsL]
  grind
def moV (w p l : Int) (c : Nat → Int) : Nat → List Int → Int
  | _, [] => 0
  | k, d :: ds => c k * (d * hor w (pol p l k)) + moV w p l c (k + 1) ds
theorem hor_mo (w p l : Int) (c : Nat → Int) : ∀ (ds : List Int) (k : Nat) (F : List Int), hor w (mo p l c k ds F) = hor w F + moV w p l c k ds
  | [], k, F => by rw [mo, moV]; grind
  | d :: ds, k, F => by
    rw [mo, moV, hor_mo w p l c ds (k + 1), hor_sumL, hor_map, hor_map]
    grind
theorem P0 (w p l : Int) : hor w (pol p l 0) = 1 := hor_pol0 w p l
theorem P1 (w p l : Int) : hor w (pol p l 1) = w - l := by
  rw [hor_polS, hor_pol0]
  simp
theorem P2 (w p l : Int) : hor w (pol p l 2) = (w - l - p) * (w - l) := by
  rw [hor_polS, P1]
  simp
theorem P3 (w p l : Int) : hor w (pol p l 3) = (w - l - p * 2) * ((w - l - p) * (w - l)) := by
  rw [hor_polS, P2]
  simp
/-- Newton's form, up to four values -/
theorem newton (p l : Int) (m : Nat) (hm : m ≤ 4) (vs : List Int) (hl : vs.length = m) (j : Nat) (hj : j < m) : hor (l + p * (j : Int)) (mo p l (cc p) 0 (dif m vs) []) = 6 * p * p * p * (vs[j]?.getD 0) := by
  rw [hor_mo, hor_nil]
  match m, hm, vs, hl, j, hj with
  | 1, _, [a], _, 0, _ => simp [dif, dstep, moV, P0, cc]
  | 2, _, [a, b], _, 0, _ => simp [dif, dstep, moV, P0, P1, cc]
  | 2, _, [a, b], _, 1, _ => simp [dif, dstep, moV, P0, P1, cc]; grind
  | 3, _, [a, b, c], _, 0, _ => simp [dif, dstep, moV, P0, P1, P2, cc]
  | 3, _, [a, b, c], _, 1, _ => simp [dif, dstep, moV, P0, P1, P2, cc]; grind
  | 3, _, [a, b, c], _, 2, _ => simp [dif, dstep, moV, P0, P1, P2, cc]; grind
  | 4, _, [a, b, c, d], _, 0, _ => simp [dif, dstep, moV, P0, P1, P2, P3, cc]
  | 4, _, [a, b, c, d], _, 1, _ => simp [dif, dstep, moV, P0, P1, P2, P3, cc]; grind
  | 4, _, [a, b, c, d], _, 2, _ => simp [dif, dstep, moV, P0, P1, P2, P3, cc]; grind
  | 4, _, [a, b, c, d], _, 3, _ => simp [dif, dstep, moV, P0, P1, P2, P3, cc]; grind
  | 0, _, _, _, _, h => exact absurd h (by omega)
theorem gr_at {p m : Nat} (hm : m ≤ 4) (vs : List Int) {l j : Nat} (hj : j < m) : hor ((l : Int) + (p : Int) * (j : Int)) (gr p m vs l) = 6 * (p : Int) * p * p * (vs[l + p * j]?.getD 0) := by
  unfold gr
  rw [newton (p : Int) (l : Int) m hm (col vs p m l) (col_len ..) j hj]
  have : (col vs p m l)[j]?.getD 0 = vs[l + p * j]?.getD 0 := by
    unfold col
    rw [List.getElem?_map, List.getElem?_range hj]
    rfl
  rw [this]
theorem hor4 (w : Int) {ts : List Int} (h : ts.length ≤ 4) : hor w ts = cf ts 0 + cf ts 1 * w + cf ts 2 * (w * w) + cf ts 3 * (w * w * w) := by
  match ts, h with
  | [], _ => simp [hor, cf]
  | [a], _ => simp [hor, cf]
  | [a, b], _ => simp [hor, cf]; grind
  | [a, b, c], _ => simp [hor, cf]; grind
  | [a, b, c, d], _ => simp [hor, cf]; grind
/-- a row is nought where it vanishes at as many places as it has numbers -/
theorem vanish {p l : Int} (hp : 0 < p) (m : Nat) (hm : m ≤ 4) (f : Nat → Int) (hf : ∀ j, m ≤ j → f j = 0) (h : ∀ j : Nat, j < m → f 0 + f 1 * (l + p * j) + f 2 * ((l + p * j) * (l + p * j)) + f 3 * ((l + p * j) * (l + p * j) * (l + p * j)) = 0) : ∀ j, f j = 0 := by
  have nz : ∀ {x : Int}, p * x = 0 → x = 0 := fun {x} h => (Int.mul_eq_zero.mp h).resolve_left (by omega)
  match m, hm with
  | 0, _ => exact fun j => hf j (Nat.zero_le _)
  | 1, _ =>
    have h0 := h 0 (by omega)
    have f1 := hf 1 (by omega)
    have f2 := hf 2 (by omega)
    have f3 := hf 3 (by omega)
    rw [f1, f2, f3] at h0
    intro j
    match j with
    | 0 => simpa using h0
    | j + 1 => exact hf _ (by omega)
  | 2, _ =>
    have h0 := h 0 (by omega)
    have h1 := h 1 (by omega)
    have f2 := hf 2 (by omega)
    have f3 := hf 3 (by omega)
    rw [f2, f3] at h0 h1
    have e1 : p * f 1 = 0 := by grind
    have f1 := nz e1
    rw [f1] at h0
    intro j
    match j with
    | 0 => simpa using h0
    | 1 => exact f1
    | j + 2 => exact hf _ (by omega)
  | 3, _ =>
    have h0 := h 0 (by omega)
    have h1 := h 1 (by omega)
    have h2 := h 2 (by omega)
    have f3 := hf 3 (by omega)
    rw [f3] at h0 h1 h2
    have e2 : p * (p * (2 * f 2)) = 0 := by grind
    have f2 : f 2 = 0 := by have := nz (nz e2); omega
    rw [f2] at h0 h1
    have e1 : p * f 1 = 0 := by grind
    have f1 := nz e1
    rw [f1] at h0
    intro j
    match j with
    | 0 => simpa using h0
    | 1 => exact f1
    | 2 => exact f2
    | j + 3 => exact hf _ (by omega)
  | 4, _ =>
    have h0 := h 0 (by omega)
    have h1 := h 1 (by omega)
    have h2 := h 2 (by omega)
    have h3 := h 3 (by omega)
    have e3 : p * (p * (p * (6 * f 3))) = 0 := by grind
    have f3 : f 3 = 0 := by have := nz (nz (nz e3)); omega
    rw [f3] at h0 h1 h2
    have e2 : p * (p * (2 * f 2)) = 0 := by grind
    have f2 : f 2 = 0 := by have := nz (nz e2); omega
    rw [f2] at h0 h1
    have e1 : p * f 1 = 0 := by grind
    have f1 := nz e1
    rw [f1] at h0
    intro j
    match j with
    | 0 => simpa using h0
    | 1 => exact f1
    | 2 => exact f2
    | 3 => exact f3
    | j + 4 => exact hf _ (by omega)
end My
namespace My
open PySem PySem.Spec PyProof.Rows L2 ClX Dl PyProof
/-! texts, degrees, binomials -/
def EltT (x : D) : Prop := (∃ t, x = .int t ∧ Bd t 100) ∨ ∃ p q, x = R p q ∧ Bd p 100 ∧ Bd q 100
def txtP (p q : Int) : Str := Str.ofString "Ratio(" ++ Str.ofString (toString p) ++ Str.ofString ", " ++ Str.ofString (toString q) ++ Str.ofString ")"
theorem p_repr {p q : Int} (bp : Bd p 1900) (bq : Bd q 1900) : G_Ratio_repr [R p q] = some (.str (txtP p q)) := by
  have n1 := num_ok bp
  have n2 := num_ok bq
  have l1 := lenT bp
  have l2 := lenT bq
  have l3 : (Str.ofString "Ratio(").length = 6 := rfl
  have l4 : (Str.ofString ", ").length = 2 := rfl
  have l5 : (Str.ofString ")").length = 1 := rfl
  have b0 : 6 ≤ big := by decide
  have b1 : 6 + (Str.ofString p.repr).length ≤ big := by unfold big; omega
  have b2 : 6 + (Str.ofString p.repr).length + 2 ≤ big := by unfold big; omega
  have b3 : 6 + (Str.ofString p.repr).length + 2 + (Str.ofString q.repr).length ≤ big := by unfold big; omega
  have b4 : 6 + (Str.ofString p.repr).length + 2 + (Str.ofString q.repr).length + 1 ≤ big := by unfold big; omega
  simp [G_Ratio_repr, outD, g_Ratio_repr, sSeq, sIf, fNot, fAnd, fOr, fB, fCall, fCons, fNil, fV, ini, gPos, sNo, sNil, fBin, Dl.gOr, gEqF, gNeF, litV, scal, sSet, fFun, gI0, gI, gRep, fC, endD, endP, fFld, fProp, sRet, fIf, fUn, gNeg, uOr, fAndV, fOrV, fNotV, fIsi, isC, pObj, gAdd0, gCatS, gCatL, fTup, fLst, fFr, Option.bind_some, Option.map_some, Option.bind_none, txtP, funStrI, funOr, n1, n2, fJoin, fFmt, Str.empty_append, Str.length_append, l3, l4, l5, b0, b1, b2, b3, b4]
theorem textFrom_le : ∀ (ts : List Str) (k : Nat) (acc : Str), (textFrom k acc ts).length ≤ acc.length + piled ts
  | [], k, acc => by simp [textFrom, piled]
  | t :: ts, k, acc => by
    have ih := textFrom_le ts (k + 1) (acc ++ (if k > 0 then ", " else "" : String) ++ t)
    have e : (acc ++ (if k > 0 then ", " else "" : String) ++ t).length ≤ acc.length + 2 + t.length := by
      rw [strLen_append, strLen_append]
      have : ((if k > 0 then ", " else "" : String) : Str).length ≤ 2 := by split <;> decide
      omega
    rw [piled_cons]
    show (textFrom (k + 1) _ ts).length ≤ _
    omega
theorem listText_le (ts : List Str) : (listText ts).length ≤ piled ts + 2 := by
  unfold listText
  rw [strLen_append]
  have h := textFrom_le ts 0 "["
  have e1 : (("[" : String) : Str).length = 1 := rfl
  have e2 : (("]" : String) : Str).length = 1 := rfl
  omega
theorem tupleText_le (ts : List Str) : (tupleText ts).length ≤ piled ts + 3 := by
  unfold tupleText
  rw [strLen_append, strLen_append]
  have e1 : ((("(" : String) : Str)).length = 1 := rfl
  have e3 : (((if ts.length == 1 then ",)" else ")" : String) : Str)).length ≤ 2 := by split <;> decide
  rw [e1]
  by_cases h : ts = []
  · subst h
    have : (Str.join ", " []).length = 0 := rfl
    omega
  · have := join_length_add ts h
    omega
theorem txts_ok {g : D → Option Str} {B : Nat} : ∀ xs : List D, (∀ x, x ∈ xs → ∃ t, g x = some t ∧ t.length ≤ B) → ∃ ts, txts g xs = some ts ∧ piled ts ≤ xs.length * (B + 2)
  | [], _ => ⟨[], rfl, by simp [piled]⟩
  | x :: xs, h => by
    obtain ⟨t, e1, l1⟩ := h x (List.mem_cons_self ..)
    obtain ⟨ts, e2, l2⟩ := txts_ok xs fun y hy => h y (List.mem_cons_of_mem _ hy)
    refine ⟨t :: ts, by simp [txts, e1, e2], ?_⟩
    have e : (xs.length + 1) * (B + 2) = xs.length * (B + 2) + (B + 2) := Nat.succ_mul _ _
    rw [piled_cons, List.length_cons]
    omega
theorem ls_ok {g : D → Option Str} {B : Nat} {p : D} {ps : List D} (hp : Sq p ps) (h : ∀ x, x ∈ ps → ∃ t, g x = some t ∧ t.length ≤ B) : ∃ t, rpLs g p = some t ∧ t.length ≤ ps.length * (B + 2) + 3 := by
  obtain ⟨ts, e, l⟩ := txts_ok ps h
  rcases hp with rfl | rfl
  · cases ps with
    | nil => exact ⟨"[]", rfl, by have : (("[]" : String) : Str).length = 2 := rfl; omega⟩
    | cons x xs =>
      refine ⟨listText ts, ?_, ?_⟩
      · show (txts g (x :: xs)).map listText = _
        rw [e]; rfl
      · have := listText_le ts; omega
  · refine ⟨tupleText ts, ?_, ?_⟩
    · show (txts g ps).map tupleText = _
      rw [e]; rfl
    · have := tupleText_le ts; omega
theorem elt_txt {x : D} (h : EltT x) : ∃ t, rp0 x = some t ∧ t.length ≤ 4000 := by
  rcases h with ⟨t, rfl, b⟩ | ⟨p, q, rfl, bp, bq⟩
  · have n1 := num_ok (b.mono (by decide : 100 ≤ 1900))
    have l1 := lenT (b.mono (by decide : 100 ≤ 1900))
    have l2 : (Str.ofString (toString t)).length ≤ 1921 := l1
    refine ⟨Str.ofString (toString t), ?_, by omega⟩
    simp [rp0, rOrr, rpFl, n1]
  · have r := p_repr (bp.mono (by decide : 100 ≤ 1900)) (bq.mono (by decide : 100 ≤ 1900))
    have l1 : (Str.ofString (toString p)).length ≤ 1921 := lenT (bp.mono (by decide : 100 ≤ 1900))
    have l2 : (Str.ofString (toString q)).length ≤ 1921 := lenT (bq.mono (by decide : 100 ≤ 1900))
    have l3 : (Str.ofString "Ratio(").length = 6 := rfl
    have l4 : (Str.ofString ", ").length = 2 := rfl
    have l5 : (Str.ofString ")").length = 1 := rfl
    refine ⟨txtP p q, ?_, ?_⟩
    · show rOrr rpFl (rpOb 0 G_Ratio_repr) (R p q) = _
      have e : rpOb 0 G_Ratio_repr (R p q) = some (txtP p q) := by
        unfold rpOb
        simp only [if_true, r]
      unfold rOrr
      exact e
    · unfold txtP
      simp only [strLen_append]
      omega
theorem orr_r {g g' : D → Option Str} {x : D} (h : g x = none) : rOrr g g' x = g' x := by simp [rOrr, h]
theorem orr_l {g g' : D → Option Str} {x : D} {t : Str} (h : g x = some t) : rOrr g g' x = some t := by simp [rOrr, h]
theorem pls_all : ∀ {xs : List D}, (∀ x, x ∈ xs → pl x = true) → pls xs = true
  | [], _ => by simp [pls]
  | x :: xs, h => by simp [pls, h x (List.mem_cons_self ..), pls_all fun y hy => h y (List.mem_cons_of_mem _ hy)]
theorem elt_pl {x : D} (h : EltT x) : pl x = true := by
  rcases h with ⟨t, rfl, b⟩ | ⟨p, q, rfl, bp, bq⟩
  · simp [pl]
  · simp [pl, pls]
theorem sq_pl {d : D} {ds : List D} (h : Sq d ds) (he : ∀ x, x ∈ ds → pl x = true) : pl d = true := by
  rcases h with rfl | rfl
  · rw [pl]; exact pls_all he
  · rw [pl]; exact pls_all he
theorem p_degree (q : Int) (rows : List (List Int)) (hl : rows.length ≤ 1000) : G_Course_degree [crs q rows] = degO rows := by
  have e : fLc (fSq (fFld 1 0 (fV 0))) (gN 1) fYes (fLenN 1) [1] [.val (crs q rows), .un] = _ := lens_lc (f := rowR q) (g := fun ts => ts.map (mk q)) (fun _ => rfl) rows rfl rfl hl
  simp only [List.length_map] at e
  exact out1 (max_lens rows e)
/-- a list of numbers is printed -/
theorem nums_txt {ds : List D} (hl : ds.length ≤ 60) (h : ∀ x, x ∈ ds → EltT x) : ∃ t, funRp rp2 [.lst ds] = some (.str t) := by
  obtain ⟨t, e, l⟩ := ls_ok (g := rp2) (B := 4000) (p := .lst ds) (.inl rfl) (fun x hx => by
    obtain ⟨t, e, l⟩ := elt_txt (h x hx)
    exact ⟨t, orr_l (orr_l e), l⟩)
  have hpl : pl (.lst ds) = true := sq_pl (.inl rfl) fun x hx => elt_pl (h x hx)
  have : ds.length * 4002 ≤ 60 * 4002 := Nat.mul_le_mul_right _ hl
  have hb : t.length ≤ big := by unfold big; omega
  refine ⟨t, ?_⟩
  rw [funRp, if_pos hpl, e, Option.bind_some, if_pos hb]
theorem nuF_txt {q t : Int} (bq : Bd q 20) (bt : Bd t 100) : EltT (nuF q t) := by
  unfold nuF
  split
  · exact .inl ⟨t, rfl, bt⟩
  · exact .inr ⟨_, _, rfl, mk_bd bt, mk_bd2 (bq.mono (by decide))⟩
theorem gN4_str (t : Str) : gN4 (.str t) (.str t) = some (.bl false) := gOr_l (gOr_l (gOr_l (by simp [gNeF, litV, scal])))
def binL : Nat → List Int
  | 0 => [1] | 1 => [1, 1] | 2 => [1, 2, 1] | 3 => [1, 3, 3, 1] | _ => [1, 4, 6, 4, 1]
theorem p_binom {m : Nat} (hm : m ≤ 4) : G_law_binomials [.int (m : Int)] = some (.lst ((binL m).map D.int)) := by
  match m, hm with
  | 0, _ => rfl
  | 1, _ => rfl
  | 2, _ => rfl
  | 3, _ => rfl
  | 4, _ => rfl
end My
namespace My
open PySem PySem.Spec PyProof.Rows L2 ClX Dl
/-! the first half of the law: draws, numbers, what the course is -/
theorem call2s {F : List D → Option D} {fa fb : FE} {δ δ1 δ2 : Es} {a b r : D} (ha : fa δ = some (a, δ1)) (hb : fb δ1 = some (b, δ2)) (hF : F [a, b] = some r) : fCall F (gPos []) (fCons fa (fCons fb fNil)) fNil δ = some (r, δ2) := by
  simp only [fCall, fCons, fNil, ha, hb, Option.bind_some, Option.map_some, gPos, List.append_nil, hF]
theorem callK2 {F : List D → Option D} {fa fb : FE} {δ : Es} {a b r : D} (ha : fa δ = some (a, δ)) (hb : fb δ = some (b, δ)) (hF : F [b, a] = some r) : fCall F (gSel [1, 0]) fNil (fCons fa (fCons fb fNil)) δ = some (r, δ) := by
  simp only [fCall, fCons, fNil, ha, hb, Option.bind_some]
  show (F [b, a]).map _ = _
  rw [hF]; rfl
theorem cons3 {f g h : FE} {δ δ1 δ2 δ3 : Es} {a b c : D} (h1 : f δ = some (a, δ1)) (h2 : g δ1 = some (b, δ2)) (h3 : h δ2 = some (c, δ3)) : fCons f (fCons g (fCons h fNil)) δ = some ([a, b, c], δ3) := by
  simp only [fCons, h1, h2, h3, Option.bind_some, fNil]
theorem par3_eq {i j k : Nat} {fa : FA} {δ δ1 : Es} {a b c : D} (h : fa δ = some ([a, b, c], δ1)) : sPar3 i j k fa δ = some (.nx (((δ1.set i (.val a)).set j (.val b)).set k (.val c))) := by
  rw [sPar3, h]; rfl
theorem if_eq {c : FT} {f g : FE} {δ δ1 : Es} {b : Bool} (h : c δ = some (b, δ1)) : fIf c f g δ = if b = true then f δ1 else g δ1 := by
  rw [fIf, h]; rfl
abbrev SG (l : List D) (s1 s2 s3 s4 s5 s6 s7 s8 s9 s10 s11 s12 : Sl) : Es := [.own .pot l, s1, s2, s3, s4, s5, s6, s7, s8, s9, s10, s11, s12]
abbrev U : Sl := .un
def v1 : FS := sPar3 1 2 3 (fCons (fBin gAd (fC (.int 1)) (fCallP 0 G_law_draw (fCons (fC (.int 6)) fNil))) (fCons (fCallP 0 G_law_draw (fCons (fC (.int 5)) fNil)) (fCons (fCallP 0 G_law_pick (fCons (fFr (fLst (fCons (fC (.int 1)) (fCons (fC (.int 1)) (fCons (fC (.int 2)) fNil))))) fNil)) fNil)))
theorem y1 {l : List D} (P : Pot l) : ∃ (p m : Nat) (b : Int) (l' : List D), v1 (SG l U U U U U U U U U U U U) = some (.nx (SG l' (.val (.int (p : Int))) (.val (.int (m : Int))) (.val (.int b)) U U U U U U U U U)) ∧ 0 < p ∧ p ≤ 6 ∧ m ≤ 4 ∧ (0 < b ∧ Bd b 2) ∧ Pot l' := by
  obtain ⟨n1, l1, e1, a1, b1, P1⟩ := p_draw (n := 6) P (by decide) (bd_of 64 (by decide) (by decide) (by decide))
  obtain ⟨n2, l2, e2, a2, b2, P2⟩ := p_draw (n := 5) P1 (by decide) (bd_of 64 (by decide) (by decide) (by decide))
  obtain ⟨x, l3, e3, hx, P3⟩ := p_pick (ds := [.int 1, .int 1, .int 2]) P2 (by decide) (by decide)
  obtain ⟨b, rfl, hb⟩ : ∃ b : Int, x = .int b ∧ (0 < b ∧ Bd b 2) := by
    simp only [List.mem_cons, List.not_mem_nil, or_false] at hx
    rcases hx with rfl | rfl | rfl
    · exact ⟨1, rfl, by decide, by unfold Bd; decide⟩
    · exact ⟨1, rfl, by decide, by unfold Bd; decide⟩
    · exact ⟨2, rfl, by decide, by unfold Bd; decide⟩
  refine ⟨(1 + n1).toNat, n2.toNat, b, l3, ?_, by omega, by omega, by omega, hb, P3⟩
  have en1 : (((1 + n1).toNat : Nat) : Int) = 1 + n1 := by omega
  have en2 : ((n2.toNat : Nat) : Int) = n2 := by omega
  rw [en1, en2]
  have c1 : fBin gAd (fC (.int 1)) (fCallP 0 G_law_draw (fCons (fC (.int 6)) fNil)) (SG l U U U U U U U U U U U U) = some (.int (1 + n1), SG l1 U U U U U U U U U U U U) := bin_eq rfl (callP_eq rfl e1) (gOr_l rfl)
  have c2 : fCallP 0 G_law_draw (fCons (fC (.int 5)) fNil) (SG l1 U U U U U U U U U U U U) = some (.int n2, SG l2 U U U U U U U U U U U U) := callP_eq rfl e2
  have c3 : fCallP 0 G_law_pick (fCons (fFr (fLst (fCons (fC (.int 1)) (fCons (fC (.int 1)) (fCons (fC (.int 2)) fNil))))) fNil) (SG l2 U U U U U U U U U U U U) = some (.int b, SG l3 U U U U U U U U U U U U) := callP_eq rfl e3
  exact par3_eq (cons3 c1 c2 c3)
def nuB : FS := sApp 4 (fCall G_law_number (gPos []) (fCons (fBin gSu (fCallP 0 G_law_draw (fCons (fC (.int 13)) fNil)) (fC (.int 6))) (fCons (fV 3) fNil)) fNil)
theorem y3l {p m : D} {b : Int} (hb : 0 < b ∧ Bd b 2) : ∀ (ds l : List D) (P : Pot l) (acc : List Int) (s5 : Sl), acc.length + ds.length ≤ 1000 → ∃ l' us s5', loopF (gN 5) nuB ds (SG l (.val p) (.val m) (.val (.int b)) (.own .mine (acc.map (nuF b))) s5 U U U U U U U) = some (.nx (SG l' (.val p) (.val m) (.val (.int b)) (.own .mine ((acc ++ us).map (nuF b))) s5' U U U U U U U)) ∧ us.length = ds.length ∧ BdR us 4 ∧ Pot l'
  | [], l, P, acc, s5, _ => ⟨l, [], s5, by rw [List.append_nil]; rfl, rfl, fun t ht => by simp at ht, P⟩
  | d :: ds, l, P, acc, s5, h => by
    simp only [List.length_cons] at h
    obtain ⟨n, l1, e1, a1, b1, P1⟩ := p_draw (n := 13) P (by decide) (bd_of 64 (by decide) (by decide) (by decide))
    obtain ⟨l', us, s5', ih, hl, hu, P'⟩ := y3l (p := p) (m := m) hb ds l1 P1 (acc ++ [n - 6]) (.val d) (by simp; omega)
    have nb := p_number hb.1 (hb.2.mono (show 2 ≤ 20 by decide)) (n - 6)
    have c0 : fBin gSu (fCallP 0 G_law_draw (fCons (fC (.int 13)) fNil)) (fC (.int 6)) (SG l (.val p) (.val m) (.val (.int b)) (.own .mine (acc.map (nuF b))) (.val d) U U U U U U U) = some (.int (n - 6), SG l1 (.val p) (.val m) (.val (.int b)) (.own .mine (acc.map (nuF b))) (.val d) U U U U U U U) := bin_eq (callP_eq rfl e1) rfl (sub_int _ _)
    have c1 : fCall G_law_number (gPos []) (fCons (fBin gSu (fCallP 0 G_law_draw (fCons (fC (.int 13)) fNil)) (fC (.int 6))) (fCons (fV 3) fNil)) fNil (SG l (.val p) (.val m) (.val (.int b)) (.own .mine (acc.map (nuF b))) (.val d) U U U U U U U) = some (nuF b (n - 6), SG l1 (.val p) (.val m) (.val (.int b)) (.own .mine (acc.map (nuF b))) (.val d) U U U U U U U) := call2s c0 rfl nb
    have st : nuB (SG l (.val p) (.val m) (.val (.int b)) (.own .mine (acc.map (nuF b))) (.val d) U U U U U U U) = some (.nx (SG l1 (.val p) (.val m) (.val (.int b)) (.own .mine (acc.map (nuF b) ++ [nuF b (n - 6)])) (.val d) U U U U U U U)) := app_eq rfl c1 rfl (by unfold big; simp; omega)
    have ea : acc.map (nuF b) ++ [nuF b (n - 6)] = (acc ++ [n - 6]).map (nuF b) := by simp
    rw [ea] at st
    refine ⟨l', (n - 6) :: us, s5', ?_, by simp [hl], fun t ht => ?_, P'⟩
    · rw [loopF]
      show (nuB (SG l (.val p) (.val m) (.val (.int b)) (.own .mine (acc.map (nuF b))) (.val d) U U U U U U U)).bind _ = _
      rw [st, Option.bind_some]
      dsimp only
      rw [ih, List.append_assoc]
      rfl
    · rcases List.mem_cons.mp ht with rfl | ht
      · unfold Bd; omega
      · exact hu t ht
def v3 : FS := sFor (fRg1 (fCons (fBin gM4 (fV 1) (fV 2)) fNil)) (gN 5) nuB
theorem y3 {p m : Nat} {b : Int} (p6 : p ≤ 6) (m4 : m ≤ 4) (hb : 0 < b ∧ Bd b 2) {l : List D} (P : Pot l) : ∃ l' us s5, v3 (SG l (.val (.int (p : Int))) (.val (.int (m : Int))) (.val (.int b)) (.own .mine []) U U U U U U U U) = some (.nx (SG l' (.val (.int (p : Int))) (.val (.int (m : Int))) (.val (.int b)) (.own .mine (us.map (nuF b))) s5 U U U U U U U)) ∧ us.length = p * m ∧ BdR us 4 ∧ Pot l' := by
  have hpm : p * m ≤ 24 := Nat.mul_le_mul p6 m4
  have g : gM4 (.int (p : Int)) (.int (m : Int)) = some (.int ((p * m : Nat) : Int)) := by
    have := mul4_int (i := (p : Int)) (j := (m : Int)) (by have : Bd (p : Int) 4 := by unfold Bd; omega
                                                           exact this.mono (by decide)) (by have : Bd (m : Int) 4 := by unfold Bd; omega
                                                                                            exact this.mono (by decide))
    rw [this]
    push_cast
    rfl
  have a : fCons (fBin gM4 (fV 1) (fV 2)) fNil (SG l (.val (.int (p : Int))) (.val (.int (m : Int))) (.val (.int b)) (.own .mine []) U U U U U U U U) = some ([.int ((p * m : Nat) : Int)], SG l (.val (.int (p : Int))) (.val (.int (m : Int))) (.val (.int b)) (.own .mine []) U U U U U U U U) := cons1 (bin_eq rfl rfl g)
  have rg := rg1_int ((p * m : Nat) : Int) (by omega) (by omega) a
  rw [Int.toNat_natCast] at rg
  obtain ⟨l', us, s5, lp, hl, hu, P'⟩ := y3l (p := .int (p : Int)) (m := .int (m : Int)) hb (intsD 0 (p * m)) l P [] U (by rw [intsD_len]; simp; omega)
  rw [intsD_len] at hl
  refine ⟨l', us, s5, ?_, hl, hu, P'⟩
  rw [v3, sFor, rg]
  exact lp
theorem gN4_mk {q : Int} (hq : q ≠ 0) (s : Int) : gN4 (mk q s) (mk q s) = some (.bl false) := by
  have e := p_eq (nrm s q).1 (nrm s q).2 (nrm s q).1 (nrm s q).2
  rw [decide_eq_true rfl, decide_eq_true rfl] at e
  have n : gNeF (mk q s) (mk q s) = none := rfl
  have o : gOwnNe 0 G_Ratio_eq (mk q s) (mk q s) = some (.bl false) := by
    have c : isC (mk q s) = false := by simp [isC]
    show (if (0 : Nat) = 0 ∧ isC (mk q s) = false then (match G_Ratio_eq [mk q s, mk q s] with
      | some (.bl b) => some (D.bl (!b))
      | _ => none) else none) = _
    rw [if_pos ⟨rfl, c⟩, e]
    rfl
  exact gOr_l (gOr_l ((gOr_r n).trans o))
end My
namespace My
open PySem PySem.Spec PyProof.Rows L2 ClX Dl
/-! what the grown course is -/
structure Kg (p m : Nat) (b : Int) (us : List Int) : Prop where
  hp : 0 < p
  p12 : p ≤ 12
  m4 : m ≤ 4
  hb : 0 < b
  bb : Bd b 2
  hl : us.length = p * m
  bu : BdR us 20
abbrev CG (p m : Nat) (b : Int) (us : List Int) : D := crs (QQ (p : Int) b) (FF (grR p m us))
section
variable {p m : Nat} {b : Int} {us : List Int}
theorem Kg.pos (K : Kg p m b us) : 0 < (grR p m us).length := by
  rw [List.length_map, List.length_range]
  exact K.hp
theorem Kg.hc (K : Kg p m b us) : 0 < 6 * (p : Int) * p * p := by
  have := K.hp
  exact Int.mul_pos (Int.mul_pos (Int.mul_pos (by decide) (by omega)) (by omega)) (by omega)
theorem Kg.hQ (K : Kg p m b us) : 0 < QQ (p : Int) b := Int.mul_pos K.hc K.hb
theorem Kg.bp (K : Kg p m b us) : Bd (p : Int) 4 := by
  have := K.p12
  unfold Bd; omega
theorem Kg.bQ (K : Kg p m b us) : Bd (QQ (p : Int) b) 20 := by
  have := K.hp
  exact (mo_ok (l := 0) (p := (p : Int)) (by omega) K.bp (by unfold Bd; decide) K.hb K.bb).bQ
theorem Kg.gbd (K : Kg p m b us) {l : Nat} (h : l < p) : BdR (gr p m us l) 94 := by
  have := K.hp
  have := K.p12
  have m4 := K.m4
  have bl : Bd (l : Int) 4 := by unfold Bd; omega
  have M := mo_ok (l := (l : Int)) (p := (p : Int)) (by omega) K.bp bl K.hb K.bb
  have bd := mo_bd M (dif m (col us p m l)) 0 [] (by rw [dif_len]; omega) ((dif_bd m (col_bd K.bu p m l)).mono (by omega)) (fun t ht => by simp at ht)
  rw [dif_len] at bd
  exact bd.mono (by omega)
theorem Kg.mem (K : Kg p m b us) : ∀ r, r ∈ FF (grR p m us) → r.length ≤ 12 ∧ ∀ t, t ∈ r → Bd t 100 := fun r hr => by
  have h1 := least_mem (R := (grR p m us).map trim) (by rw [List.length_map]; exact K.pos) hr
  obtain ⟨s, hs, rfl⟩ := List.mem_map.mp h1
  obtain ⟨l, hlp, rfl⟩ := List.mem_map.mp hs
  have a := trim_len (gr p m us l)
  have c := gr_len p m us l
  have := K.m4
  exact ⟨by omega, fun t ht => (K.gbd (List.mem_range.mp hlp) t (trim_mem ht)).mono (by decide)⟩
theorem Kg.fpos (K : Kg p m b us) : 0 < (FF (grR p m us)).length := (least_len (R := (grR p m us).map trim) (by rw [List.length_map]; exact K.pos)).1
theorem Kg.at (K : Kg p m b us) {w : Int} (bw : Bd w 100) : G_Course_at [CG p m b us, .int w] = some (My.mk (QQ (p : Int) b) (hw (grR p m us) w)) := by
  have e := p_at K.hQ K.bQ bw K.fpos K.mem
  rw [← hw_ff K.pos]
  exact e
theorem Kg.row (K : Kg p m b us) (w : Int) : rowAt (grR p m us) w = gr p m us (w % (p : Int)).toNat := rowAt_range K.hp (gr p m us) w
/-- the told worths -/
theorem Kg.told (K : Kg p m b us) {i : Nat} (hi : i < p * m) : hw (grR p m us) (i : Int) = 6 * (p : Int) * p * p * (us[i]?.getD 0) := by
  have hp := K.hp
  have hj : i / p < m := by
    rw [Nat.div_lt_iff_lt_mul hp, Nat.mul_comm]
    exact hi
  have e := gr_at K.m4 us (l := i % p) (j := i / p) (p := p) hj
  have e1 : ((i % p : Nat) : Int) + (p : Int) * ((i / p : Nat) : Int) = (i : Int) := by
    have := Nat.mod_add_div i p
    have h2 : ((i % p + p * (i / p) : Nat) : Int) = (i : Int) := by rw [this]
    push_cast at h2 ⊢
    exact h2
  have e2 : i % p + p * (i / p) = i := Nat.mod_add_div i p
  rw [e1, e2] at e
  unfold hw
  rw [K.row]
  have e3 : ((i : Int) % (p : Int)).toNat = i % p := by omega
  rw [e3]
  exact e
theorem Kg.scale (K : Kg p m b us) (t : Int) : My.mk (QQ (p : Int) b) (6 * (p : Int) * p * p * t) = My.mk b t := (mk_scale K.hb K.hc).symm
theorem Kg.per (K : Kg p m b us) : (p : Int) % ((FF (grR p m us)).length : Int) = 0 := by
  have h := ff_dvd K.pos
  rw [List.length_map, List.length_range] at h
  exact Int.emod_eq_zero_of_dvd (Int.natCast_dvd_natCast.mpr h)
theorem Kg.deg (K : Kg p m b us) : ∃ d : Nat, degO (FF (grR p m us)) = some (.int ((d : Int) - 1)) ∧ d ≤ m := by
  obtain ⟨d, e, _, r, hr, hd⟩ := deg_spec K.fpos
  refine ⟨d, e, ?_⟩
  have h1 := least_mem (R := (grR p m us).map trim) (by rw [List.length_map]; exact K.pos) hr
  obtain ⟨s, hs, rfl⟩ := List.mem_map.mp h1
  obtain ⟨l, _, rfl⟩ := List.mem_map.mp hs
  have a := trim_len (gr p m us l)
  have c := gr_len p m us l
  omega
theorem Kg.grown (K : Kg p m b us) {d : D} {ds : List D} (hd : Sq d ds) (hn : Nums b us ds) : G_grown [.int (p : Int), d] = some (CG p m b us) := p_grown K.hp K.p12 K.m4 K.hb K.bb hd hn K.bu K.hl
theorem Kg.hwbd (K : Kg p m b us) {w : Int} (bw : Bd w 100) : Bd (hw (grR p m us) w) 500 := by
  have hp := K.hp
  have hlt : (w % (p : Int)).toNat < p := by
    have h1 := Int.emod_nonneg w (show (p : Int) ≠ 0 by omega)
    have h2 := Int.emod_lt_of_pos w (show 0 < (p : Int) by omega)
    omega
  unfold hw
  rw [K.row]
  have g := K.gbd hlt
  have gl := gr_len p m us (w % (p : Int)).toNat
  have := K.m4
  rw [hor4 w (by omega)]
  have c := fun j => g.cf j
  have w2 := bw.mul bw
  have w3 := w2.mul bw
  have b0 : Bd (cf (gr p m us (w % (p : Int)).toNat) 0) 400 := (c 0).mono (by decide)
  have b1 := ((c 1).mul bw).mono (show 94 + 100 ≤ 400 by decide)
  have b2 := ((c 2).mul w2).mono (show 94 + (100 + 100) ≤ 401 by decide)
  have b3 := ((c 3).mul w3).mono (show 94 + (100 + 100 + 100) ≤ 402 by decide)
  exact (((b0.add b1).add b2).add b3).mono (by decide)
end
/-! differences -/
def alt (V : Nat → Int) : Nat → List Int → Int
  | _, [] => 0
  | i, c :: cs => V i * (if i % 2 = 0 then c else 0 - c) + alt V (i + 1) cs
theorem alt_zero {m : Nat} (hm : m ≤ 4) {r : List Int} (hr : r.length ≤ m) (w p : Int) : alt (fun i => hor (w + (i : Int) * p) r) 0 (binL m) = 0 := by
  have z : ∀ j, m ≤ j → cf r j = 0 := fun j hj => cf_ge (by omega)
  have h4 : ∀ x, hor x r = cf r 0 + cf r 1 * x + cf r 2 * (x * x) + cf r 3 * (x * x * x) := fun x => hor4 x (by omega)
  match m, hm with
  | 0, _ =>
    have z0 := z 0 (by omega)
    have z1 := z 1 (by omega)
    have z2 := z 2 (by omega)
    have z3 := z 3 (by omega)
    simp [alt, binL, h4, z0, z1, z2, z3]
  | 1, _ =>
    have z1 := z 1 (by omega)
    have z2 := z 2 (by omega)
    have z3 := z 3 (by omega)
    simp [alt, binL, h4, z1, z2, z3]; try grind
  | 2, _ =>
    have z2 := z 2 (by omega)
    have z3 := z 3 (by omega)
    simp [alt, binL, h4, z2, z3]; grind
  | 3, _ =>
    have z3 := z 3 (by omega)
    simp [alt, binL, h4, z3]; grind
  | 4, _ => simp [alt, binL, h4]; grind
end My
namespace My
open PySem PySem.Spec PyProof.Rows L2 ClX Dl
/-! the steps of the first half -/
def en : Nat → List D → List D
  | _, [] => []
  | i, x :: xs => .tup [.int (i : Int), x] :: en (i + 1) xs
theorem en_idx : ∀ (xs : List D) (i : Nat), xs.mapIdx (fun j x => D.tup [.int ((i + j : Nat) : Int), x]) = en i xs
  | [], _ => rfl
  | x :: xs, i => by
    rw [List.mapIdx_cons, en, ← en_idx xs (i + 1)]
    have e : (fun j x => D.tup [.int ((i + (j + 1) : Nat) : Int), x]) = fun j x => D.tup [.int ((i + 1 + j : Nat) : Int), x] := by
      funext j x
      rw [show i + (j + 1) = i + 1 + j by omega]
    rw [e]
    rfl
theorem enumD_en (xs : List D) : enumD xs = en 0 xs := by
  rw [← en_idx xs 0]
  unfold enumD
  congr 1
  funext j x
  rw [Nat.zero_add]
section
variable {p m : Nat} {b : Int} {us : List Int}
theorem add_nu {b u : Int} (hb : 0 < b) (bb : Bd b 10) (bu : Bd u 100) : gAd (My.mk b 0) (nuF b u) = some (My.mk b u) := by
  by_cases h : b = 1
  · subst h
    have a := p_addI (p := (nrm 0 1).1) (q := (nrm 0 1).2) (i := u) (by decide) (by unfold Bd; decide) (by unfold Bd; decide) (bu.mono (by decide))
    have e : mkR ((nrm 0 1).1 + u * (nrm 0 1).2) (nrm 0 1).2 = My.mk 1 u := by
      have e1 : (nrm 0 1).1 = 0 := by decide
      have e2 : (nrm 0 1).2 = 1 := by decide
      rw [e1, e2, Int.zero_add, Int.mul_one]
    rw [e] at a
    rw [nuF, if_pos rfl]
    have n : gAdd0 (My.mk 1 0) (.int u) = none := rfl
    refine (gOr_r n).trans ?_
    show (if (0 : Nat) = 0 then G_Ratio_add [My.mk 1 0, .int u] else none) = _
    rw [if_pos rfl]
    exact a
  · have a := add_mk (s := 0) (t := u) hb (bb.mono (by decide)) (by unfold Bd; exact Nat.two_pow_pos _) (bu.mono (by decide))
    rw [Int.zero_add] at a
    rw [nuF, if_neg h]
    exact a
abbrev SH (p m : Nat) (b : Int) (us : List Int) (l : List D) (t : Str) (s5 s8 s9 s10 s11 s12 : Sl) : Es := SG l (.val (.int (p : Int))) (.val (.int (m : Int))) (.val (.int b)) (.val (.lst (us.map (nuF b)))) s5 (.val (.str t)) (.val (CG p m b us)) s8 s9 s10 s11 s12
def v4 : FS := sSet 6 (fFun (funRp rp2) (fCons (fV 4) fNil))
def v5a : FE := fIf (fB (fBin gE4 (fCallP 0 G_law_draw (fCons (fC (.int 2)) fNil)) (fC (.int 0)))) (fFun funTup (fCons (fV 4) fNil)) (fV 4)
def v5 : FS := sSet 7 (fCall G_grown (gPos []) (fCons (fV 1) (fCons v5a fNil)) fNil)
theorem y4 {l : List D} {s5 : Sl} {t : Str} (h : funRp rp2 [.lst (us.map (nuF b))] = some (.str t)) : v4 (SG l (.val (.int (p : Int))) (.val (.int (m : Int))) (.val (.int b)) (.own .mine (us.map (nuF b))) s5 U U U U U U U) = some (.nx (SG l (.val (.int (p : Int))) (.val (.int (m : Int))) (.val (.int b)) (.val (.lst (us.map (nuF b)))) s5 (.val (.str t)) U U U U U U)) := by
  have a : fV 4 (SG l (.val (.int (p : Int))) (.val (.int (m : Int))) (.val (.int b)) (.own .mine (us.map (nuF b))) s5 U U U U U U U) = some (.lst (us.map (nuF b)), SG l (.val (.int (p : Int))) (.val (.int (m : Int))) (.val (.int b)) (.val (.lst (us.map (nuF b)))) s5 U U U U U U U) := rfl
  exact set_eq (fun_eq a h)
theorem y5 (K : Kg p m b us) {l : List D} (P : Pot l) {s5 : Sl} {t : Str} : ∃ l', v5 (SG l (.val (.int (p : Int))) (.val (.int (m : Int))) (.val (.int b)) (.val (.lst (us.map (nuF b)))) s5 (.val (.str t)) U U U U U U) = some (.nx (SH p m b us l' t s5 U U U U U)) ∧ Pot l' := by
  obtain ⟨n, l1, e1, a1, b1, P1⟩ := p_draw (n := 2) P (by decide) (bd_of 64 (by decide) (by decide) (by decide))
  refine ⟨l1, ?_, P1⟩
  have c : fB (fBin gE4 (fCallP 0 G_law_draw (fCons (fC (.int 2)) fNil)) (fC (.int 0))) (SG l (.val (.int (p : Int))) (.val (.int (m : Int))) (.val (.int b)) (.val (.lst (us.map (nuF b)))) s5 (.val (.str t)) U U U U U U) = some (decide (n = 0), SG l1 (.val (.int (p : Int))) (.val (.int (m : Int))) (.val (.int b)) (.val (.lst (us.map (nuF b)))) s5 (.val (.str t)) U U U U U U) := fB_eq (bin_eq (callP_eq rfl e1) rfl (gE4_int n 0))
  have d : ∃ d, Sq d (us.map (nuF b)) ∧ v5a (SG l (.val (.int (p : Int))) (.val (.int (m : Int))) (.val (.int b)) (.val (.lst (us.map (nuF b)))) s5 (.val (.str t)) U U U U U U) = some (d, SG l1 (.val (.int (p : Int))) (.val (.int (m : Int))) (.val (.int b)) (.val (.lst (us.map (nuF b)))) s5 (.val (.str t)) U U U U U U) := by
    rw [v5a, if_eq c]
    by_cases h : n = 0
    · rw [decide_eq_true h, if_pos rfl]
      exact ⟨.tup (us.map (nuF b)), .inr rfl, rfl⟩
    · rw [decide_eq_false h, if_neg Bool.false_ne_true]
      exact ⟨.lst (us.map (nuF b)), .inl rfl, rfl⟩
  obtain ⟨d, hd, ed⟩ := d
  exact set_eq (call2s (fa := fV 1) rfl ed (K.grown hd (nuF_nums b us)))
def v6 : FS := sIf (fOr (fB (fBin gN4 (fBin (gI okPos fun i j => .int (i % j)) (fV 1) (fProp 1 G_Course_period (fV 7))) (fC (.int 0)))) (fOr (fB (fBin (gI0 fun i j => .bl (decide (j ≤ i))) (fProp 1 G_Course_degree (fV 7)) (fV 2))) (fB (fBin gN4 (fFun (funRp rp2) (fCons (fV 4) fNil)) (fV 6))))) (sRet (fC (.bl false))) sNil
theorem y6 (K : Kg p m b us) {l : List D} {s5 : Sl} {t : Str} (h : funRp rp2 [.lst (us.map (nuF b))] = some (.str t)) : v6 (SH p m b us l t s5 U U U U U) = some (.nx (SH p m b us l t s5 U U U U U)) := by
  have fp := K.fpos
  have c1 : fProp 1 G_Course_period (fV 7) (SH p m b us l t s5 U U U U U) = some (.int (FF (grR p m us)).length, SH p m b us l t s5 U U U U U) := prop_eq rfl (p_period _ _)
  have k1 : okPos (p : Int) ((FF (grR p m us)).length : Int) = true := okPos_of (by omega)
  have g1 : (gI okPos fun i j => .int (i % j)) (.int (p : Int)) (.int ((FF (grR p m us)).length : Int)) = some (.int 0) := by
    show (if okPos (p : Int) ((FF (grR p m us)).length : Int) = true then some (D.int ((p : Int) % ((FF (grR p m us)).length : Int))) else none) = _
    rw [if_pos k1, K.per]
  have c2 : fBin (gI okPos fun i j => .int (i % j)) (fV 1) (fProp 1 G_Course_period (fV 7)) (SH p m b us l t s5 U U U U U) = some (.int 0, SH p m b us l t s5 U U U U U) := bin_eq rfl c1 g1
  obtain ⟨d, ed, hd⟩ := K.deg
  have ll : (FF (grR p m us)).length ≤ 1000 := by
    have h := ff_dvd K.pos
    rw [List.length_map, List.length_range] at h
    have := Nat.le_of_dvd K.hp h
    have := K.p12
    omega
  have pd := p_degree (QQ (p : Int) b) (FF (grR p m us)) ll
  rw [ed] at pd
  have c3 : fProp 1 G_Course_degree (fV 7) (SH p m b us l t s5 U U U U U) = some (.int ((d : Int) - 1), SH p m b us l t s5 U U U U U) := prop_eq rfl pd
  have g2 : (gI0 fun i j => .bl (decide (j ≤ i))) (.int ((d : Int) - 1)) (.int (m : Int)) = some (.bl false) := by
    show some (D.bl (decide ((m : Int) ≤ (d : Int) - 1))) = _
    rw [decide_eq_false (by omega)]
  have c4 : fFun (funRp rp2) (fCons (fV 4) fNil) (SH p m b us l t s5 U U U U U) = some (.str t, SH p m b us l t s5 U U U U U) := fun_eq rfl h
  exact sIf_f ((or_f (fB_eq (bin_eq c2 rfl (gN4_int 0)))).trans ((or_f (fB_eq (bin_eq c3 rfl g2))).trans (fB_eq (bin_eq c4 rfl (gN4_str t)))))
def v7b : FS := sIf (fB (fBin gN4 (fMeth 1 G_Course_at (gPos []) (fV 7) (fCons (fV 5) fNil) fNil) (fBin gAd (fMake 0 G_Ratio_init (gPos [.int 1]) (fCons (fC (.int 0)) fNil) fNil) (fV 8)))) (sRet (fC (.bl false))) sNil
def v7 : FS := sFor (fEnum (fCons (fV 4) fNil)) (gT 2 (gsCons (gN 5) (gsCons (gN 8) gsNil))) v7b
theorem y7l (K : Kg p m b us) {l : List D} {t : Str} : ∀ (vs : List Int) (i : Nat) (s5 s8 : Sl), i + vs.length = p * m → (∀ j, j < vs.length → us[i + j]?.getD 0 = vs[j]?.getD 0) → BdR vs 20 → ∃ s5' s8', loopF (gT 2 (gsCons (gN 5) (gsCons (gN 8) gsNil))) v7b (en i (vs.map (nuF b))) (SH p m b us l t s5 s8 U U U U) = some (.nx (SH p m b us l t s5' s8' U U U U))
  | [], i, s5, s8, _, _, _ => ⟨s5, s8, rfl⟩
  | v :: vs, i, s5, s8, hi, hj, hv => by
    simp only [List.length_cons] at hi
    obtain ⟨s5', s8', ih⟩ := y7l K (l := l) (t := t) vs (i + 1) (.val (.int (i : Int))) (.val (nuF b v)) (by omega) (fun j h => by
      have := hj (j + 1) (by simp; omega)
      rw [show i + (j + 1) = i + 1 + j by omega] at this
      simpa using this) (fun u hu => hv u (List.mem_cons_of_mem _ hu))
    refine ⟨s5', s8', ?_⟩
    have hpm : p * m ≤ 48 := Nat.mul_le_mul K.p12 K.m4
    have bi : Bd (i : Int) 100 := by
      have : Bd (i : Int) 6 := by unfold Bd; omega
      exact this.mono (by decide)
    have a := K.at bi
    rw [K.told (i := i) (by omega), K.scale] at a
    have e0 := hj 0 (by simp)
    simp only [Nat.add_zero, List.getElem?_cons_zero, Option.getD_some] at e0
    rw [e0] at a
    have c1 : fMeth 1 G_Course_at (gPos []) (fV 7) (fCons (fV 5) fNil) fNil (SH p m b us l t (.val (.int (i : Int))) (.val (nuF b v)) U U U U) = some (My.mk b v, SH p m b us l t (.val (.int (i : Int))) (.val (nuF b v)) U U U U) := meth1 rfl rfl a
    have c2 : fBin gAd (fMake 0 G_Ratio_init (gPos [.int 1]) (fCons (fC (.int 0)) fNil) fNil) (fV 8) (SH p m b us l t (.val (.int (i : Int))) (.val (nuF b v)) U U U U) = some (My.mk b v, SH p m b us l t (.val (.int (i : Int))) (.val (nuF b v)) U U U U) := bin_eq (by rw [ratio0 K.hb]) rfl (add_nu K.hb (K.bb.mono (by decide)) ((hv v (List.mem_cons_self ..)).mono (by decide)))
    have st : v7b (SH p m b us l t (.val (.int (i : Int))) (.val (nuF b v)) U U U U) = some (.nx (SH p m b us l t (.val (.int (i : Int))) (.val (nuF b v)) U U U U)) := sIf_f (fB_eq (bin_eq c1 c2 (gN4_mk (Int.ne_of_gt K.hb) v)))
    have tg : gT 2 (gsCons (gN 5) (gsCons (gN 8) gsNil)) (.tup [.int (i : Int), nuF b v]) (SH p m b us l t s5 s8 U U U U) = some (SH p m b us l t (.val (.int (i : Int))) (.val (nuF b v)) U U U U) := rfl
    rw [List.map_cons, en, loopF, tg, Option.bind_some, st, Option.bind_some]
    exact ih
theorem y7 (K : Kg p m b us) {l : List D} {t : Str} {s5 : Sl} : ∃ s5' s8', v7 (SH p m b us l t s5 U U U U U) = some (.nx (SH p m b us l t s5' s8' U U U U)) := by
  obtain ⟨s5', s8', lp⟩ := y7l K (l := l) (t := t) us 0 s5 U (by rw [Nat.zero_add]; exact K.hl) (fun j _ => by rw [Nat.zero_add]) K.bu
  refine ⟨s5', s8', ?_⟩
  have z : fEnum (fCons (fV 4) fNil) (SH p m b us l t s5 U U U U U) = some (enumD (us.map (nuF b)), SH p m b us l t s5 U U U U U) := rfl
  rw [v7, sFor, z, enumD_en]
  exact lp
end
end My
namespace My
open PySem PySem.Spec PyProof.Rows L2 ClX Dl
/-! differences are nought, the end of the first half -/
section
variable {p m : Nat} {b : Int} {us : List Int}
def v8f : FE := fIf (fB (fBin gE4 (fBin (gI okPos fun i j => .int (i % j)) (fV 5) (fC (.int 2))) (fC (.int 0)))) (fV 12) (fBin gSu (fC (.int 0)) (fV 12))
def v8s : FS := sSet 11 (fBin gAd (fV 11) (fBin gM4 (fMeth 1 G_Course_at (gPos []) (fV 7) (fCons (fBin gAd (fV 10) (fBin gM4 (fV 5) (fV 1))) fNil) fNil) v8f))
def sg (i : Nat) (c : Int) : Int := if i % 2 = 0 then c else 0 - c
theorem v8f_eq {l : List D} {t : Str} {s8 s9 s10 s11 : Sl} (i : Nat) (c : Int) : v8f (SH p m b us l t (.val (.int (i : Int))) s8 s9 s10 s11 (.val (.int c))) = some (.int (sg i c), SH p m b us l t (.val (.int (i : Int))) s8 s9 s10 s11 (.val (.int c))) := by
  have k : okPos (i : Int) 2 = true := okPos_of (by decide)
  have g : (gI okPos fun i j => .int (i % j)) (.int (i : Int)) (.int 2) = some (.int ((i : Int) % 2)) := by
    show (if okPos (i : Int) 2 = true then some (D.int ((i : Int) % 2)) else none) = _
    rw [if_pos k]
  have a : fBin (gI okPos fun i j => .int (i % j)) (fV 5) (fC (.int 2)) (SH p m b us l t (.val (.int (i : Int))) s8 s9 s10 s11 (.val (.int c))) = some (.int ((i : Int) % 2), SH p m b us l t (.val (.int (i : Int))) s8 s9 s10 s11 (.val (.int c))) := bin_eq rfl rfl g
  have c1 := fB_eq (bin_eq (fb := fC (.int 0)) a rfl (gE4_int ((i : Int) % 2) 0))
  rw [v8f, if_eq c1]
  unfold sg
  by_cases h : i % 2 = 0
  · rw [decide_eq_true (show (i : Int) % 2 = 0 by omega), if_pos rfl, if_pos h]
    rfl
  · rw [decide_eq_false (show ¬ (i : Int) % 2 = 0 by omega), if_neg Bool.false_ne_true, if_neg h]
    exact bin_eq rfl rfl (sub_int 0 c)
theorem sg_bd {i : Nat} {c : Int} {n : Nat} (h : Bd c n) : Bd (sg i c) n := by
  unfold sg Bd at *
  split <;> omega
abbrev Vw (p m : Nat) (us : List Int) (w : Int) (i : Nat) : Int := hw (grR p m us) (w + (i : Int) * (p : Int))
theorem y8l (K : Kg p m b us) {l : List D} {t : Str} {s8 s9 : Sl} {w : Int} (bw : Bd w 97) : ∀ (cs : List Int) (i : Nat) (T : Int) (s5 s12 : Sl), i + cs.length ≤ 5 → BdR cs 8 → Bd T (600 + i) → ∃ s5' s12', loopF (gT 2 (gsCons (gN 5) (gsCons (gN 12) gsNil))) v8s (en i (cs.map D.int)) (SH p m b us l t s5 s8 s9 (.val (.int w)) (.val (My.mk (QQ (p : Int) b) T)) s12) = some (.nx (SH p m b us l t s5' s8 s9 (.val (.int w)) (.val (My.mk (QQ (p : Int) b) (T + alt (Vw p m us w) i cs))) s12'))
  | [], i, T, s5, s12, _, _, _ => ⟨s5, s12, by rw [alt, Int.add_zero]; rfl⟩
  | c :: cs, i, T, s5, s12, hi, hc, hT => by
    simp only [List.length_cons] at hi
    have p12 := K.p12
    have bi : Bd (i : Int) 3 := by unfold Bd; omega
    have bip : Bd ((i : Int) * (p : Int)) 97 := (bi.mul K.bp).mono (by decide)
    have bx : Bd (w + (i : Int) * (p : Int)) 100 := (bw.add bip).mono (by decide)
    have a := K.at bx
    have bc := sg_bd (i := i) (hc c (List.mem_cons_self ..))
    have bV := K.hwbd bx
    have bVx : Bd (Vw p m us w i * sg i c) (600 + i) := (bV.mul bc).mono (by omega)
    obtain ⟨s5', s12', ih⟩ := y8l K (l := l) (t := t) (s8 := s8) (s9 := s9) bw cs (i + 1) (T + Vw p m us w i * sg i c) (.val (.int (i : Int))) (.val (.int c)) (by omega) (fun u hu => hc u (List.mem_cons_of_mem _ hu)) (hT.add bVx)
    refine ⟨s5', s12', ?_⟩
    have g1 : gM4 (.int (i : Int)) (.int (p : Int)) = some (.int ((i : Int) * (p : Int))) := mul4_int (bi.mono (by decide)) (K.bp.mono (by decide))
    have g2 : gAd (.int w) (.int ((i : Int) * (p : Int))) = some (.int (w + (i : Int) * (p : Int))) := gOr_l rfl
    have c1 : fBin gAd (fV 10) (fBin gM4 (fV 5) (fV 1)) (SH p m b us l t (.val (.int (i : Int))) s8 s9 (.val (.int w)) (.val (My.mk (QQ (p : Int) b) T)) (.val (.int c))) = some (.int (w + (i : Int) * (p : Int)), SH p m b us l t (.val (.int (i : Int))) s8 s9 (.val (.int w)) (.val (My.mk (QQ (p : Int) b) T)) (.val (.int c))) := bin_eq rfl (bin_eq rfl rfl g1) g2
    have c2 : fMeth 1 G_Course_at (gPos []) (fV 7) (fCons (fBin gAd (fV 10) (fBin gM4 (fV 5) (fV 1))) fNil) fNil (SH p m b us l t (.val (.int (i : Int))) s8 s9 (.val (.int w)) (.val (My.mk (QQ (p : Int) b) T)) (.val (.int c))) = some (My.mk (QQ (p : Int) b) (Vw p m us w i), SH p m b us l t (.val (.int (i : Int))) s8 s9 (.val (.int w)) (.val (My.mk (QQ (p : Int) b) T)) (.val (.int c))) := meth1 rfl c1 a
    have c3 := bin_eq c2 (v8f_eq (p := p) (m := m) (b := b) (us := us) (l := l) (t := t) (s8 := s8) (s9 := s9) (s10 := .val (.int w)) (s11 := .val (My.mk (QQ (p : Int) b) T)) i c) (mulI_mk K.hQ (K.bQ.mono (by decide)) (bV.mono (by decide)) (bc.mono (by decide)))
    have c0 : fV 11 (SH p m b us l t (.val (.int (i : Int))) s8 s9 (.val (.int w)) (.val (My.mk (QQ (p : Int) b) T)) (.val (.int c))) = some (My.mk (QQ (p : Int) b) T, SH p m b us l t (.val (.int (i : Int))) s8 s9 (.val (.int w)) (.val (My.mk (QQ (p : Int) b) T)) (.val (.int c))) := rfl
    have c4 := bin_eq (g := gAd) c0 c3 (add_mk K.hQ (K.bQ.mono (by decide)) (hT.mono (by omega)) (bVx.mono (by omega)))
    have st : v8s (SH p m b us l t (.val (.int (i : Int))) s8 s9 (.val (.int w)) (.val (My.mk (QQ (p : Int) b) T)) (.val (.int c))) = some (.nx (SH p m b us l t (.val (.int (i : Int))) s8 s9 (.val (.int w)) (.val (My.mk (QQ (p : Int) b) (T + Vw p m us w i * sg i c))) (.val (.int c)))) := set_eq c4
    have tg : gT 2 (gsCons (gN 5) (gsCons (gN 12) gsNil)) (.tup [.int (i : Int), .int c]) (SH p m b us l t s5 s8 s9 (.val (.int w)) (.val (My.mk (QQ (p : Int) b) T)) s12) = some (SH p m b us l t (.val (.int (i : Int))) s8 s9 (.val (.int w)) (.val (My.mk (QQ (p : Int) b) T)) (.val (.int c))) := rfl
    rw [List.map_cons, en, loopF, tg, Option.bind_some, st, Option.bind_some]
    dsimp only
    rw [ih, alt]
    have e : T + Vw p m us w i * sg i c + alt (Vw p m us w) (i + 1) cs = T + (Vw p m us w i * (if i % 2 = 0 then c else 0 - c) + alt (Vw p m us w) (i + 1) cs) := by
      unfold sg
      rw [Int.add_assoc]
    rw [e]
theorem Kg.alt0 (K : Kg p m b us) (w : Int) : alt (Vw p m us w) 0 (binL m) = 0 := by
  have e : Vw p m us w = fun i : Nat => hor (w + (i : Int) * (p : Int)) (gr p m us (w % (p : Int)).toNat) := by
    funext i
    show hw (grR p m us) (w + (i : Int) * (p : Int)) = _
    unfold hw
    rw [K.row, Int.add_mul_emod_self_right]
  rw [e]
  exact alt_zero K.m4 (gr_len p m us _) w (p : Int)
theorem bin_bd (m : Nat) : BdR (binL m) 8 ∧ (binL m).length ≤ 5 := by
  unfold binL
  split <;> refine ⟨fun t ht => ?_, by decide⟩ <;> simp only [List.mem_cons, List.not_mem_nil, or_false] at ht <;> (unfold Bd; omega)
def v8a : FS := sPar 10 11 (fCons (fCallP 0 G_law_whole fNil) (fCons (fMake 0 G_Ratio_init (gPos [.int 1]) (fCons (fC (.int 0)) fNil) fNil) fNil))
def v8b : FS := sFor (fEnum (fCons (fCall G_law_binomials (gPos []) (fCons (fV 2) fNil) fNil) fNil)) (gT 2 (gsCons (gN 5) (gsCons (gN 12) gsNil))) v8s
def v8c : FS := sIf (fB (fBin gN4 (fV 11) (fMake 0 G_Ratio_init (gPos [.int 1]) (fCons (fC (.int 0)) fNil) fNil))) (sRet (fC (.bl false))) sNil
def v8t : FS := sSeq v8a (sSeq v8b v8c)
theorem y8t (K : Kg p m b us) {l : List D} (P : Pot l) {t : Str} {s5 s8 s9 s10 s11 s12 : Sl} : ∃ l' s5' s10' s11' s12', v8t (SH p m b us l t s5 s8 s9 s10 s11 s12) = some (.nx (SH p m b us l' t s5' s8 s9 s10' s11' s12')) ∧ Pot l' := by
  obtain ⟨w, l1, e1, bw, P1⟩ := p_lwhole P
  have c1 : v8a (SH p m b us l t s5 s8 s9 s10 s11 s12) = some (.nx (SH p m b us l1 t s5 s8 s9 (.val (.int w)) (.val (My.mk (QQ (p : Int) b) 0)) s12)) := by
    have a : fCallP 0 G_law_whole fNil (SH p m b us l t s5 s8 s9 s10 s11 s12) = some (.int w, SH p m b us l1 t s5 s8 s9 s10 s11 s12) := callP_eq rfl e1
    have r0 : fMake 0 G_Ratio_init (gPos [.int 1]) (fCons (fC (.int 0)) fNil) fNil (SH p m b us l1 t s5 s8 s9 s10 s11 s12) = some (My.mk (QQ (p : Int) b) 0, SH p m b us l1 t s5 s8 s9 s10 s11 s12) := by rw [ratio0 K.hQ]
    exact par_eq (cons2 a r0)
  have hb := bin_bd m
  obtain ⟨s5', s12', lp⟩ := y8l K (l := l1) (t := t) (s8 := s8) (s9 := s9) bw (binL m) 0 0 s5 s12 (by omega) hb.1 (by unfold Bd; exact Nat.two_pow_pos _)
  rw [K.alt0 w, Int.zero_add] at lp
  refine ⟨l1, s5', .val (.int w), .val (My.mk (QQ (p : Int) b) 0), s12', ?_, P1⟩
  have c2 : v8b (SH p m b us l1 t s5 s8 s9 (.val (.int w)) (.val (My.mk (QQ (p : Int) b) 0)) s12) = some (.nx (SH p m b us l1 t s5' s8 s9 (.val (.int w)) (.val (My.mk (QQ (p : Int) b) 0)) s12')) := by
    have a : fCall G_law_binomials (gPos []) (fCons (fV 2) fNil) fNil (SH p m b us l1 t s5 s8 s9 (.val (.int w)) (.val (My.mk (QQ (p : Int) b) 0)) s12) = some (.lst ((binL m).map D.int), SH p m b us l1 t s5 s8 s9 (.val (.int w)) (.val (My.mk (QQ (p : Int) b) 0)) s12) := call1 rfl (p_binom K.m4)
    have z : fEnum (fCons (fCall G_law_binomials (gPos []) (fCons (fV 2) fNil) fNil) fNil) (SH p m b us l1 t s5 s8 s9 (.val (.int w)) (.val (My.mk (QQ (p : Int) b) 0)) s12) = some (enumD ((binL m).map D.int), SH p m b us l1 t s5 s8 s9 (.val (.int w)) (.val (My.mk (QQ (p : Int) b) 0)) s12) := by
      rw [fEnum, cons1 a]
      rfl
    rw [v8b, sFor, z, enumD_en]
    exact lp
  have c3 : v8c (SH p m b us l1 t s5' s8 s9 (.val (.int w)) (.val (My.mk (QQ (p : Int) b) 0)) s12') = some (.nx (SH p m b us l1 t s5' s8 s9 (.val (.int w)) (.val (My.mk (QQ (p : Int) b) 0)) s12')) := by
    have r0 : fMake 0 G_Ratio_init (gPos [.int 1]) (fCons (fC (.int 0)) fNil) fNil (SH p m b us l1 t s5' s8 s9 (.val (.int w)) (.val (My.mk (QQ (p : Int) b) 0)) s12') = some (My.mk (QQ (p : Int) b) 0, SH p m b us l1 t s5' s8 s9 (.val (.int w)) (.val (My.mk (QQ (p : Int) b) 0)) s12') := by rw [ratio0 K.hQ]
    have v0 : fV 11 (SH p m b us l1 t s5' s8 s9 (.val (.int w)) (.val (My.mk (QQ (p : Int) b) 0)) s12') = some (My.mk (QQ (p : Int) b) 0, SH p m b us l1 t s5' s8 s9 (.val (.int w)) (.val (My.mk (QQ (p : Int) b) 0)) s12') := rfl
    exact sIf_f (fB_eq (bin_eq v0 r0 (gN4_mk (Int.ne_of_gt K.hQ) 0)))
  rw [v8t, seq_nx c1, seq_nx c2, c3]
def v8 : FS := sFor (fRg1 (fCons (fC (.int 3)) fNil)) (gN 9) v8t
theorem y8m (K : Kg p m b us) {t : Str} {s8 : Sl} : ∀ (ds l : List D) (P : Pot l) (s5 s9 s10 s11 s12 : Sl), ∃ l' s5' s9' s10' s11' s12', loopF (gN 9) v8t ds (SH p m b us l t s5 s8 s9 s10 s11 s12) = some (.nx (SH p m b us l' t s5' s8 s9' s10' s11' s12')) ∧ Pot l'
  | [], l, P, s5, s9, s10, s11, s12 => ⟨l, s5, s9, s10, s11, s12, rfl, P⟩
  | d :: ds, l, P, s5, s9, s10, s11, s12 => by
    obtain ⟨l1, r5, r10, r11, r12, c, P1⟩ := y8t K P (t := t) (s5 := s5) (s8 := s8) (s9 := .val d) (s10 := s10) (s11 := s11) (s12 := s12)
    obtain ⟨l', q5, q9, q10, q11, q12, ih, P'⟩ := y8m K (t := t) (s8 := s8) ds l1 P1 r5 (.val d) r10 r11 r12
    refine ⟨l', q5, q9, q10, q11, q12, ?_, P'⟩
    rw [loopF]
    show (v8t (SH p m b us l t s5 s8 (.val d) s10 s11 s12)).bind _ = _
    rw [c]
    exact ih
theorem y8 (K : Kg p m b us) {t : Str} {s5 s8 : Sl} {l : List D} (P : Pot l) : ∃ l' s5' s9' s10' s11' s12', v8 (SH p m b us l t s5 s8 U U U U) = some (.nx (SH p m b us l' t s5' s8 s9' s10' s11' s12')) ∧ Pot l' := by
  obtain ⟨l', q5, q9, q10, q11, q12, lp, P'⟩ := y8m K (t := t) (s8 := s8) (intsD 0 (3 : Int).toNat) l P s5 U U U U
  refine ⟨l', q5, q9, q10, q11, q12, ?_, P'⟩
  have rg := rg1_int 3 (by decide) (by decide) (fa := fCons (fC (.int 3)) fNil) (δ := SH p m b us l t s5 s8 U U U U) (δ1 := SH p m b us l t s5 s8 U U U U) rfl
  rw [v8, sFor, rg]
  exact lp
def v9 : FS := sRet (fBin gE4 (fCall G_grown (gSel [1, 0]) fNil (fCons (fV 4) (fCons (fV 1) fNil))) (fV 7))
theorem y9 (K : Kg p m b us) {t : Str} {s5 s8 s9 s10 s11 s12 : Sl} {l : List D} : v9 (SH p m b us l t s5 s8 s9 s10 s11 s12) = some (.rt (.bl true) (SH p m b us l t s5 s8 s9 s10 s11 s12)) := by
  have c1 : fCall G_grown (gSel [1, 0]) fNil (fCons (fV 4) (fCons (fV 1) fNil)) (SH p m b us l t s5 s8 s9 s10 s11 s12) = some (CG p m b us, SH p m b us l t s5 s8 s9 s10 s11 s12) := callK2 rfl rfl (K.grown (.inl rfl) (nuF_nums b us))
  have g := gE4_crs K.hQ (FF (grR p m us)) (FF (grR p m us))
  rw [decide_eq_true rfl] at g
  rw [v9, sRet, bin_eq c1 rfl g]
  rfl
end
theorem grown_is : g_law_grown_right = sSeq v1 (sSeq (sOwn 4 (fLst fNil)) (sSeq v3 (sSeq v4 (sSeq v5 (sSeq v6 (sSeq v7 (sSeq v8 v9))))))) := rfl
theorem p_grown_right {l : List D} (P : Pot l) : ∃ l', G_law_grown_right l [] = some (.bl true, l') ∧ Pot l' := by
  obtain ⟨p, m, b, l1, e1, hp, p6, m4, hb, P1⟩ := y1 P
  have e2 : sOwn 4 (fLst fNil) (SG l1 (.val (.int (p : Int))) (.val (.int (m : Int))) (.val (.int b)) U U U U U U U U U) = some (.nx (SG l1 (.val (.int (p : Int))) (.val (.int (m : Int))) (.val (.int b)) (.own .mine []) U U U U U U U U)) := rfl
  obtain ⟨l3, us, s5, e3, hl, bu, P3⟩ := y3 p6 m4 hb P1
  have K : Kg p m b us := ⟨hp, by omega, m4, hb.1, hb.2, hl, bu.mono (by decide)⟩
  have hpm : p * m ≤ 24 := Nat.mul_le_mul p6 m4
  obtain ⟨t, ht⟩ := nums_txt (ds := us.map (nuF b)) (by rw [List.length_map]; omega) (fun x hx => by
    obtain ⟨u, hu, rfl⟩ := List.mem_map.mp hx
    exact nuF_txt (hb.2.mono (by decide)) ((bu u hu).mono (by decide)))
  have e4 := y4 (p := p) (m := m) (b := b) (us := us) (l := l3) (s5 := s5) ht
  obtain ⟨l5, e5, P5⟩ := y5 K P3 (s5 := s5) (t := t)
  have e6 := y6 K (l := l5) (s5 := s5) ht
  obtain ⟨r5, r8, e7⟩ := y7 K (l := l5) (t := t) (s5 := s5)
  obtain ⟨l8, q5, q9, q10, q11, q12, e8, P8⟩ := y8 K (t := t) (s5 := r5) (s8 := r8) P5
  have e9 := y9 K (t := t) (s5 := q5) (s8 := r8) (s9 := q9) (s10 := q10) (s11 := q11) (s12 := q12) (l := l8)
  refine ⟨l8, ?_, P8⟩
  show (g_law_grown_right (SG l U U U U U U U U U U U U)).bind endP = _
  rw [grown_is, seq_nx e1, seq_nx e2, seq_nx e3, seq_nx e4, seq_nx e5, seq_nx e6, seq_nx e7, seq_nx e8, e9]
  rfl
end My
namespace My
open PySem PySem.Spec PyProof.Rows L2 ClX Dl
theorem all_mk {l : PySem.W.OpenLaw} {w : World} {K : PySem.W.Frag} {h : Heap} {mg : Str → Option Value} {fa : Addr} (X : K.In h) (G : h.Ns mainGlobals mg) (hfa : mg "law" = some (.ref fa))
    {C_Ratio C_Course a_law_pot a_law_draw a_law_pick a_law_whole a_is_integer a_is_count a_is_list a_Ratio_init a_as_ratio a_law_number a_law_binomials a_law_course a_law_worth a_Ratio_sign a_Ratio_eq a_law_form a_law_degree a_Ratio_repr a_Ratio_add a_Ratio_mul a_is_number a_are_numbers a_check_whole a_worth p_Ratio_sign a_trimmed a_least a_are_parts a_Course_init a_Course_period a_Course_degree a_Course_at a_Course_eq a_summed a_Ratio_rmul a_multiplied a_times_sum a_Ratio_sub a_counting a_made_of a_differences_of a_grown a_law_made p_Course_period p_Course_degree a_law_grown_right a_law_right a_law ar_Ratio_add ar_Ratio_mul ab_Ratio_rmul ar_Ratio_sub da_Ratio_init : Addr}
    {tk_mi_MOST_PARTS tk_mi_MOST_NUMBERS tk_mi_MOST_GROWN tk_mi_MOST_ROUNDS dt0_Ratio_init : Tok}
    {rs_Ratio_sign rs_Course_period rs_Course_degree : List Value}
    {v1_Ratio_add v2_Ratio_add v1_Ratio_mul v2_Ratio_mul v1_Ratio_sub v2_Ratio_sub : Option Value}
    {od_law_pot an_law_pot od_law_draw an_law_draw od_law_pick an_law_pick od_law_whole an_law_whole od_is_integer an_is_integer od_is_count an_is_count od_is_list an_is_list od_Ratio_init an_Ratio_init od_as_ratio an_as_ratio od_law_number an_law_number od_law_binomials an_law_binomials od_law_course an_law_course od_law_worth an_law_worth od_Ratio_sign an_Ratio_sign od_Ratio_eq an_Ratio_eq od_law_form an_law_form od_law_degree an_law_degree od_Ratio_repr an_Ratio_repr od_Ratio_add an_Ratio_add od_Ratio_mul an_Ratio_mul od_is_number an_is_number od_are_numbers an_are_numbers od_check_whole an_check_whole od_worth an_worth od_trimmed an_trimmed od_least an_least od_are_parts an_are_parts od_Course_init an_Course_init od_Course_period an_Course_period od_Course_degree an_Course_degree od_Course_at an_Course_at od_Course_eq an_Course_eq od_summed an_summed od_Ratio_rmul an_Ratio_rmul od_multiplied an_multiplied od_times_sum an_times_sum od_Ratio_sub an_Ratio_sub od_counting an_counting od_made_of an_made_of od_differences_of an_differences_of od_grown an_grown od_law_made an_law_made od_law_grown_right an_law_grown_right od_law_right an_law_right od_law an_law : Option Addr}
    {sl_law_pot sl_law_draw sl_law_pick sl_law_whole sl_is_integer sl_is_count sl_is_list sl_Ratio_init sl_as_ratio sl_law_number sl_law_binomials sl_law_course sl_law_worth sl_Ratio_sign sl_Ratio_eq sl_law_form sl_law_degree sl_Ratio_repr sl_Ratio_add sl_Ratio_mul sl_is_number sl_are_numbers sl_check_whole sl_worth sl_trimmed sl_least sl_are_parts sl_Course_init sl_Course_period sl_Course_degree sl_Course_at sl_Course_eq sl_summed sl_Ratio_rmul sl_multiplied sl_times_sum sl_Ratio_sub sl_counting sl_made_of sl_differences_of sl_grown sl_law_made sl_law_grown_right sl_law_right sl_law : Array (Option Value)}
    {oc_law_pot kV_law_pot dc_law_pot pm_law_pot cd_law_pot ct_law_pot oc_law_draw kV_law_draw dc_law_draw pm_law_draw cd_law_draw ct_law_draw oc_law_pick kV_law_pick dc_law_pick pm_law_pick cd_law_pick ct_law_pick oc_law_whole kV_law_whole dc_law_whole pm_law_whole cd_law_whole ct_law_whole oc_is_integer kV_is_integer dc_is_integer pm_is_integer cd_is_integer ct_is_integer oc_is_count kV_is_count dc_is_count pm_is_count cd_is_count ct_is_count oc_is_list kV_is_list dc_is_list pm_is_list cd_is_list ct_is_list oc_Ratio_init kV_Ratio_init dc_Ratio_init pm_Ratio_init cd_Ratio_init ct_Ratio_init oc_as_ratio kV_as_ratio dc_as_ratio pm_as_ratio cd_as_ratio ct_as_ratio oc_law_number kV_law_number dc_law_number pm_law_number cd_law_number ct_law_number oc_law_binomials kV_law_binomials dc_law_binomials pm_law_binomials cd_law_binomials ct_law_binomials oc_law_course kV_law_course dc_law_course pm_law_course cd_law_course ct_law_course oc_law_worth kV_law_worth dc_law_worth pm_law_worth cd_law_worth ct_law_worth oc_Ratio_sign kV_Ratio_sign dc_Ratio_sign pm_Ratio_sign cd_Ratio_sign ct_Ratio_sign oc_Ratio_eq kV_Ratio_eq dc_Ratio_eq pm_Ratio_eq cd_Ratio_eq ct_Ratio_eq oc_law_form kV_law_form dc_law_form pm_law_form cd_law_form ct_law_form oc_law_degree kV_law_degree dc_law_degree pm_law_degree cd_law_degree ct_law_degree oc_Ratio_repr kV_Ratio_repr dc_Ratio_repr pm_Ratio_repr cd_Ratio_repr ct_Ratio_repr oc_Ratio_add kV_Ratio_add dc_Ratio_add pm_Ratio_add cd_Ratio_add ct_Ratio_add oc_Ratio_mul kV_Ratio_mul dc_Ratio_mul pm_Ratio_mul cd_Ratio_mul ct_Ratio_mul oc_is_number kV_is_number dc_is_number pm_is_number cd_is_number ct_is_number oc_are_numbers kV_are_numbers dc_are_numbers pm_are_numbers cd_are_numbers ct_are_numbers oc_check_whole kV_check_whole dc_check_whole pm_check_whole cd_check_whole ct_check_whole oc_worth kV_worth dc_worth pm_worth cd_worth ct_worth oc_trimmed kV_trimmed dc_trimmed pm_trimmed cd_trimmed ct_trimmed oc_least kV_least dc_least pm_least cd_least ct_least oc_are_parts kV_are_parts dc_are_parts pm_are_parts cd_are_parts ct_are_parts oc_Course_init kV_Course_init dc_Course_init pm_Course_init cd_Course_init ct_Course_init oc_Course_period kV_Course_period dc_Course_period pm_Course_period cd_Course_period ct_Course_period oc_Course_degree kV_Course_degree dc_Course_degree pm_Course_degree cd_Course_degree ct_Course_degree oc_Course_at kV_Course_at dc_Course_at pm_Course_at cd_Course_at ct_Course_at oc_Course_eq kV_Course_eq dc_Course_eq pm_Course_eq cd_Course_eq ct_Course_eq oc_summed kV_summed dc_summed pm_summed cd_summed ct_summed oc_Ratio_rmul kV_Ratio_rmul dc_Ratio_rmul pm_Ratio_rmul cd_Ratio_rmul ct_Ratio_rmul oc_multiplied kV_multiplied dc_multiplied pm_multiplied cd_multiplied ct_multiplied oc_times_sum kV_times_sum dc_times_sum pm_times_sum cd_times_sum ct_times_sum oc_Ratio_sub kV_Ratio_sub dc_Ratio_sub pm_Ratio_sub cd_Ratio_sub ct_Ratio_sub oc_counting kV_counting dc_counting pm_counting cd_counting ct_counting oc_made_of kV_made_of dc_made_of pm_made_of cd_made_of ct_made_of oc_differences_of kV_differences_of dc_differences_of pm_differences_of cd_differences_of ct_differences_of oc_grown kV_grown dc_grown pm_grown cd_grown ct_grown oc_law_made kV_law_made dc_law_made pm_law_made cd_law_made ct_law_made oc_law_grown_right kV_law_grown_right dc_law_grown_right pm_law_grown_right cd_law_grown_right ct_law_grown_right oc_law_right kV_law_right dc_law_right pm_law_right cd_law_right ct_law_right oc_law kV_law dc_law pm_law cd_law ct_law : Value}
    {do_Ratio_init : Obj}
    {dm_Ratio_init : Nat}
    (h_n_max : PySem.W.nsIn K mainGlobals "max" = some none)
    (h_n_len : PySem.W.nsIn K mainGlobals "len" = some none)
    (h_n_abs : PySem.W.nsIn K mainGlobals "abs" = some none)
    (h_n_sum : PySem.W.nsIn K mainGlobals "sum" = some none)
    (h_n_divmod : PySem.W.nsIn K mainGlobals "divmod" = some none)
    (h_m_law_draw : PySem.W.nsIn K mainGlobals "_law_draw" = some (some (.ref a_law_draw)))
    (h_m_law_pick : PySem.W.nsIn K mainGlobals "_law_pick" = some (some (.ref a_law_pick)))
    (h_n_isinstance : PySem.W.nsIn K mainGlobals "isinstance" = some none)
    (h_n_int : PySem.W.nsIn K mainGlobals "int" = some none)
    (h_n_bool : PySem.W.nsIn K mainGlobals "bool" = some none)
    (h_m_is_integer : PySem.W.nsIn K mainGlobals "is_integer" = some (some (.ref a_is_integer)))
    (h_n_list : PySem.W.nsIn K mainGlobals "list" = some none)
    (h_n_tuple : PySem.W.nsIn K mainGlobals "tuple" = some none)
    (h_m_gcd : PySem.W.nsIn K mainGlobals "gcd" = some (some (.builtin "math.gcd")))
    (h_m_Ratio : PySem.W.nsIn K mainGlobals "Ratio" = some (some (.ref C_Ratio)))
    (h_n_range : PySem.W.nsIn K mainGlobals "range" = some none)
    (h_n_zip : PySem.W.nsIn K mainGlobals "zip" = some none)
    (h_m_law_form : PySem.W.nsIn K mainGlobals "_law_form" = some (some (.ref a_law_form)))
    (h_m_as_ratio : PySem.W.nsIn K mainGlobals "as_ratio" = some (some (.ref a_as_ratio)))
    (h_m_is_list : PySem.W.nsIn K mainGlobals "is_list" = some (some (.ref a_is_list)))
    (h_m_is_number : PySem.W.nsIn K mainGlobals "is_number" = some (some (.ref a_is_number)))
    (h_n_all : PySem.W.nsIn K mainGlobals "all" = some none)
    (h_n_enumerate : PySem.W.nsIn K mainGlobals "enumerate" = some none)
    (h_m_are_numbers : PySem.W.nsIn K mainGlobals "are_numbers" = some (some (.ref a_are_numbers)))
    (h_m_are_parts : PySem.W.nsIn K mainGlobals "_are_parts" = some (some (.ref a_are_parts)))
    (h_m_least : PySem.W.nsIn K mainGlobals "_least" = some (some (.ref a_least)))
    (h_m_trimmed : PySem.W.nsIn K mainGlobals "_trimmed" = some (some (.ref a_trimmed)))
    (h_m_check_whole : PySem.W.nsIn K mainGlobals "check_whole" = some (some (.ref a_check_whole)))
    (h_m_worth : PySem.W.nsIn K mainGlobals "worth" = some (some (.ref a_worth)))
    (h_m_Course : PySem.W.nsIn K mainGlobals "Course" = some (some (.ref C_Course)))
    (h_m_summed : PySem.W.nsIn K mainGlobals "summed" = some (some (.ref a_summed)))
    (h_m_multiplied : PySem.W.nsIn K mainGlobals "multiplied" = some (some (.ref a_multiplied)))
    (h_m_times_sum : PySem.W.nsIn K mainGlobals "_times_sum" = some (some (.ref a_times_sum)))
    (h_m_is_count : PySem.W.nsIn K mainGlobals "is_count" = some (some (.ref a_is_count)))
    (h_m_made_of : PySem.W.nsIn K mainGlobals "made_of" = some (some (.ref a_made_of)))
    (h_m_counting : PySem.W.nsIn K mainGlobals "counting" = some (some (.ref a_counting)))
    (h_m_differences_of : PySem.W.nsIn K mainGlobals "differences_of" = some (some (.ref a_differences_of)))
    (h_m_law_number : PySem.W.nsIn K mainGlobals "_law_number" = some (some (.ref a_law_number)))
    (h_n_repr : PySem.W.nsIn K mainGlobals "repr" = some none)
    (h_m_grown : PySem.W.nsIn K mainGlobals "grown" = some (some (.ref a_grown)))
    (h_m_law_whole : PySem.W.nsIn K mainGlobals "_law_whole" = some (some (.ref a_law_whole)))
    (h_m_law_binomials : PySem.W.nsIn K mainGlobals "_law_binomials" = some (some (.ref a_law_binomials)))
    (h_m_law_grown_right : PySem.W.nsIn K mainGlobals "_law_grown_right" = some (some (.ref a_law_grown_right)))
    (h_m_law_course : PySem.W.nsIn K mainGlobals "_law_course" = some (some (.ref a_law_course)))
    (h_m_law_degree : PySem.W.nsIn K mainGlobals "_law_degree" = some (some (.ref a_law_degree)))
    (h_m_law_worth : PySem.W.nsIn K mainGlobals "_law_worth" = some (some (.ref a_law_worth)))
    (h_m_law_made : PySem.W.nsIn K mainGlobals "_law_made" = some (some (.ref a_law_made)))
    (h_m_law_right : PySem.W.nsIn K mainGlobals "_law_right" = some (some (.ref a_law_right)))
    (h_m_law_pot : PySem.W.nsIn K mainGlobals "_law_pot" = some (some (.ref a_law_pot)))
    (h_mi_MOST_PARTS : PySem.W.nsIn K mainGlobals "MOST_PARTS" = some (some (.int 60 tk_mi_MOST_PARTS)))
    (h_mi_MOST_NUMBERS : PySem.W.nsIn K mainGlobals "MOST_NUMBERS" = some (some (.int 8 tk_mi_MOST_NUMBERS)))
    (h_mi_MOST_GROWN : PySem.W.nsIn K mainGlobals "MOST_GROWN" = some (some (.int 12 tk_mi_MOST_GROWN)))
    (h_mi_MOST_ROUNDS : PySem.W.nsIn K mainGlobals "MOST_ROUNDS" = some (some (.int 5 tk_mi_MOST_ROUNDS)))
    (h_law : PySem.W.nsIn K mainGlobals "law" = some (some (.ref a_law)))
    (mk1_mk_Ratio : PySem.W.makesIn K C_Ratio = true)
    (f_Ratio_init : PySem.W.findIn K (.ref C_Ratio) "__init__" = some (some (.ref a_Ratio_init)))
    (g_Ratio_init : PySem.W.isFn K (.ref a_Ratio_init) = true)
    (mk2_mk_Ratio : PySem.W.keepIn K (.ref C_Ratio) = true)
    (f_Ratio_sign : PySem.W.findIn K (.ref C_Ratio) "sign" = some (some (.ref p_Ratio_sign)))
    (pg_Ratio_sign : PySem.W.specialIn K (.ref p_Ratio_sign) "__get__" = some (some (.builtin "property.__get__")))
    (pt_Ratio_sign : PySem.W.takesIn K (.ref p_Ratio_sign) = some true)
    (pc_Ratio_sign : PySem.W.recIn K p_Ratio_sign "property" = some (.ref a_Ratio_sign :: rs_Ratio_sign))
    (mk1_mk_Course : PySem.W.makesIn K C_Course = true)
    (f_Course_init : PySem.W.findIn K (.ref C_Course) "__init__" = some (some (.ref a_Course_init)))
    (g_Course_init : PySem.W.isFn K (.ref a_Course_init) = true)
    (mk2_mk_Course : PySem.W.keepIn K (.ref C_Course) = true)
    (f_Course_period : PySem.W.findIn K (.ref C_Course) "period" = some (some (.ref p_Course_period)))
    (pg_Course_period : PySem.W.specialIn K (.ref p_Course_period) "__get__" = some (some (.builtin "property.__get__")))
    (pt_Course_period : PySem.W.takesIn K (.ref p_Course_period) = some true)
    (pc_Course_period : PySem.W.recIn K p_Course_period "property" = some (.ref a_Course_period :: rs_Course_period))
    (f_Course_degree : PySem.W.findIn K (.ref C_Course) "degree" = some (some (.ref p_Course_degree)))
    (pg_Course_degree : PySem.W.specialIn K (.ref p_Course_degree) "__get__" = some (some (.builtin "property.__get__")))
    (pt_Course_degree : PySem.W.takesIn K (.ref p_Course_degree) = some true)
    (pc_Course_degree : PySem.W.recIn K p_Course_degree "property" = some (.ref a_Course_degree :: rs_Course_degree))
    (f_Course_at : PySem.W.findIn K (.ref C_Course) "at" = some (some (.ref a_Course_at)))
    (g_Course_at : PySem.W.isFn K (.ref a_Course_at) = true)
    (ca_ca_C_Ratio : PySem.W.findIn K (.ref C_Ratio) "__class__" = some (some (.builtin "object.__class__")))
    (ca_cn : PySem.W.specialIn K (.builtin "object.__class__") "__get__" = some (some (.builtin "getset_descriptor.__get__")))
    (ca_ct : PySem.W.takesIn K (.builtin "object.__class__") = some true)
    (ca_cm_C_Ratio : PySem.W.mroIn K C_Ratio (.type "object") = some true)
    (cl1_C_Ratio : PySem.W.plainGet K C_Ratio Str.empty = true)
    (cl2_C_Ratio : PySem.W.hasDictIn K C_Ratio = true)
    (cl3_C_Ratio : PySem.W.plainOver K C_Ratio = true)
    (cl4_C_Ratio : PySem.W.findIn K (.ref C_Ratio) "__setattr__" = some (some (.builtin "object.__setattr__")))
    (ca_ca_C_Course : PySem.W.findIn K (.ref C_Course) "__class__" = some (some (.builtin "object.__class__")))
    (ca_cm_C_Course : PySem.W.mroIn K C_Course (.type "object") = some true)
    (cl1_C_Course : PySem.W.plainGet K C_Course Str.empty = true)
    (cl2_C_Course : PySem.W.hasDictIn K C_Course = true)
    (cl3_C_Course : PySem.W.plainOver K C_Course = true)
    (cl4_C_Course : PySem.W.findIn K (.ref C_Course) "__setattr__" = some (some (.builtin "object.__setattr__")))
    (i_int_obj_C_Ratio : PySem.W.subIn K (.ref C_Ratio) (.type "int") = some false)
    (i_int_obj_C_Course : PySem.W.subIn K (.ref C_Course) (.type "int") = some false)
    (i_bool_obj_C_Ratio : PySem.W.subIn K (.ref C_Ratio) (.type "bool") = some false)
    (i_bool_obj_C_Course : PySem.W.subIn K (.ref C_Course) (.type "bool") = some false)
    (i_list_obj_C_Ratio : PySem.W.subIn K (.ref C_Ratio) (.type "list") = some false)
    (i_list_obj_C_Course : PySem.W.subIn K (.ref C_Course) (.type "list") = some false)
    (i_tuple_obj_C_Ratio : PySem.W.subIn K (.ref C_Ratio) (.type "tuple") = some false)
    (i_tuple_obj_C_Course : PySem.W.subIn K (.ref C_Course) (.type "tuple") = some false)
    (h_na_Ratio_top : PySem.W.findIn K (.ref C_Ratio) "_top" = some none)
    (h_na_Ratio_bottom : PySem.W.findIn K (.ref C_Ratio) "_bottom" = some none)
    (ic_C_Ratio : PySem.W.isClsIn K C_Ratio = true)
    (it_C_Ratio : PySem.W.typeIn K (.ref C_Ratio) = some (.type "type"))
    (i_Ratio_NoneType : PySem.W.subIn K (.type "NoneType") (.ref C_Ratio) = some false)
    (i_Ratio_bool : PySem.W.subIn K (.type "bool") (.ref C_Ratio) = some false)
    (i_Ratio_int : PySem.W.subIn K (.type "int") (.ref C_Ratio) = some false)
    (i_Ratio_str : PySem.W.subIn K (.type "str") (.ref C_Ratio) = some false)
    (i_Ratio_list : PySem.W.subIn K (.type "list") (.ref C_Ratio) = some false)
    (i_Ratio_tuple : PySem.W.subIn K (.type "tuple") (.ref C_Ratio) = some false)
    (ne_C_Course_C_Ratio : (C_Course == C_Ratio) = false)
    (so_C_Course_C_Ratio : PySem.W.subIn K (.ref C_Course) (.ref C_Ratio) = some false)
    (h_e_Ratio_eq : PySem.W.findIn K (.ref C_Ratio) "__eq__" = some (some (.ref a_Ratio_eq)))
    (h_ef_Ratio_eq : PySem.W.isFn K (.ref a_Ratio_eq) = true)
    (tp_Ratio_NoneType : PySem.W.notFirst K C_Ratio (.type "NoneType") = true)
    (tp_Ratio_bool : PySem.W.notFirst K C_Ratio (.type "bool") = true)
    (tp_Ratio_int : PySem.W.notFirst K C_Ratio (.type "int") = true)
    (tp_Ratio_str : PySem.W.notFirst K C_Ratio (.type "str") = true)
    (tp_Ratio_list : PySem.W.notFirst K C_Ratio (.type "list") = true)
    (tp_Ratio_tuple : PySem.W.notFirst K C_Ratio (.type "tuple") = true)
    (tp_Ratio_obj_C_Ratio : PySem.W.notFirst K C_Ratio (.ref C_Ratio) = true)
    (tp_Ratio_obj_C_Course : PySem.W.notFirst K C_Ratio (.ref C_Course) = true)
    (h_ne_Ratio_eq : PySem.W.findIn K (.ref C_Ratio) "__ne__" = some (some (.builtin "object.__ne__")))
    (h_ob_Ratio : PySem.W.subIn K (.ref C_Ratio) (.type "object") = some true)
    (h_s_Ratio_repr : PySem.W.findIn K (.ref C_Ratio) "__repr__" = some (some (.ref a_Ratio_repr)))
    (h_sf_Ratio_repr : PySem.W.isFn K (.ref a_Ratio_repr) = true)
    (sf_C_Ratio : PySem.W.selfFirst K C_Ratio = true)
    (f_Ratio_add : PySem.W.findIn K (.ref C_Ratio) "__add__" = some (some (.ref a_Ratio_add)))
    (g_Ratio_add : PySem.W.isFn K (.ref a_Ratio_add) = true)
    (fr_Ratio_add : PySem.W.findIn K (.ref C_Ratio) "__radd__" = some (some (.ref ar_Ratio_add)))
    (i1_Ratio_add : PySem.W.findIn K (.type "int") "__add__" = some v1_Ratio_add)
    (i2_Ratio_add : PySem.W.findIn K (.type "int") "__radd__" = some v2_Ratio_add)
    (is_C_Ratio : PySem.W.subIn K (.type "int") (.ref C_Ratio) = some false)
    (f_Ratio_mul : PySem.W.findIn K (.ref C_Ratio) "__mul__" = some (some (.ref a_Ratio_mul)))
    (g_Ratio_mul : PySem.W.isFn K (.ref a_Ratio_mul) = true)
    (fr_Ratio_mul : PySem.W.findIn K (.ref C_Ratio) "__rmul__" = some (some (.ref ar_Ratio_mul)))
    (i1_Ratio_mul : PySem.W.findIn K (.type "int") "__mul__" = some v1_Ratio_mul)
    (i2_Ratio_mul : PySem.W.findIn K (.type "int") "__rmul__" = some v2_Ratio_mul)
    (h_na_Course_parts : PySem.W.findIn K (.ref C_Course) "_parts" = some none)
    (ic_C_Course : PySem.W.isClsIn K C_Course = true)
    (it_C_Course : PySem.W.typeIn K (.ref C_Course) = some (.type "type"))
    (i_Course_NoneType : PySem.W.subIn K (.type "NoneType") (.ref C_Course) = some false)
    (i_Course_bool : PySem.W.subIn K (.type "bool") (.ref C_Course) = some false)
    (i_Course_int : PySem.W.subIn K (.type "int") (.ref C_Course) = some false)
    (i_Course_str : PySem.W.subIn K (.type "str") (.ref C_Course) = some false)
    (i_Course_list : PySem.W.subIn K (.type "list") (.ref C_Course) = some false)
    (i_Course_tuple : PySem.W.subIn K (.type "tuple") (.ref C_Course) = some false)
    (ne_C_Ratio_C_Course : (C_Ratio == C_Course) = false)
    (so_C_Ratio_C_Course : PySem.W.subIn K (.ref C_Ratio) (.ref C_Course) = some false)
    (fb_Ratio_rmul : PySem.W.findIn K (.ref C_Ratio) "__mul__" = some (some (.ref ab_Ratio_rmul)))
    (f_Ratio_rmul : PySem.W.findIn K (.ref C_Ratio) "__rmul__" = some (some (.ref a_Ratio_rmul)))
    (g_Ratio_rmul : PySem.W.isFn K (.ref a_Ratio_rmul) = true)
    (si_C_Ratio : PySem.W.subIn K (.ref C_Ratio) (.type "int") = some false)
    (f_Ratio_sub : PySem.W.findIn K (.ref C_Ratio) "__sub__" = some (some (.ref a_Ratio_sub)))
    (g_Ratio_sub : PySem.W.isFn K (.ref a_Ratio_sub) = true)
    (fr_Ratio_sub : PySem.W.findIn K (.ref C_Ratio) "__rsub__" = some (some (.ref ar_Ratio_sub)))
    (i1_Ratio_sub : PySem.W.findIn K (.type "int") "__sub__" = some v1_Ratio_sub)
    (i2_Ratio_sub : PySem.W.findIn K (.type "int") "__rsub__" = some v2_Ratio_sub)
    (h_e_Course_eq : PySem.W.findIn K (.ref C_Course) "__eq__" = some (some (.ref a_Course_eq)))
    (h_ef_Course_eq : PySem.W.isFn K (.ref a_Course_eq) = true)
    (tp_Course_NoneType : PySem.W.notFirst K C_Course (.type "NoneType") = true)
    (tp_Course_bool : PySem.W.notFirst K C_Course (.type "bool") = true)
    (tp_Course_int : PySem.W.notFirst K C_Course (.type "int") = true)
    (tp_Course_str : PySem.W.notFirst K C_Course (.type "str") = true)
    (tp_Course_list : PySem.W.notFirst K C_Course (.type "list") = true)
    (tp_Course_tuple : PySem.W.notFirst K C_Course (.type "tuple") = true)
    (tp_Course_obj_C_Ratio : PySem.W.notFirst K C_Course (.ref C_Ratio) = true)
    (tp_Course_obj_C_Course : PySem.W.notFirst K C_Course (.ref C_Course) = true)
    (h_ne_Course_eq : PySem.W.findIn K (.ref C_Course) "__ne__" = some (some (.builtin "object.__ne__")))
    (h_ob_Course : PySem.W.subIn K (.ref C_Course) (.type "object") = some true)
    (l_law_pot : K.lookup a_law_pot = some ⟨oc_law_pot, od_law_pot, .func (PySem.W.fnOf "_law_pot" "_law_pot" (defArgs s_law_pot) (defBody s_law_pot) (defScope s_law_pot) .none kV_law_pot dc_law_pot pm_law_pot an_law_pot cd_law_pot ct_law_pot), sl_law_pot⟩)
    (c_law_pot : PySem.W.codeIn K cd_law_pot "_law_pot" = true)
    (k_law_pot : PySem.W.keepIn K (.ref a_law_pot) = true)
    (l_law_draw : K.lookup a_law_draw = some ⟨oc_law_draw, od_law_draw, .func (PySem.W.fnOf "_law_draw" "_law_draw" (defArgs s_law_draw) (defBody s_law_draw) (defScope s_law_draw) .none kV_law_draw dc_law_draw pm_law_draw an_law_draw cd_law_draw ct_law_draw), sl_law_draw⟩)
    (c_law_draw : PySem.W.codeIn K cd_law_draw "_law_draw" = true)
    (k_law_draw : PySem.W.keepIn K (.ref a_law_draw) = true)
    (l_law_pick : K.lookup a_law_pick = some ⟨oc_law_pick, od_law_pick, .func (PySem.W.fnOf "_law_pick" "_law_pick" (defArgs s_law_pick) (defBody s_law_pick) (defScope s_law_pick) .none kV_law_pick dc_law_pick pm_law_pick an_law_pick cd_law_pick ct_law_pick), sl_law_pick⟩)
    (c_law_pick : PySem.W.codeIn K cd_law_pick "_law_pick" = true)
    (k_law_pick : PySem.W.keepIn K (.ref a_law_pick) = true)
    (l_law_whole : K.lookup a_law_whole = some ⟨oc_law_whole, od_law_whole, .func (PySem.W.fnOf "_law_whole" "_law_whole" (defArgs s_law_whole) (defBody s_law_whole) (defScope s_law_whole) .none kV_law_whole dc_law_whole pm_law_whole an_law_whole cd_law_whole ct_law_whole), sl_law_whole⟩)
    (c_law_whole : PySem.W.codeIn K cd_law_whole "_law_whole" = true)
    (k_law_whole : PySem.W.keepIn K (.ref a_law_whole) = true)
    (l_is_integer : K.lookup a_is_integer = some ⟨oc_is_integer, od_is_integer, .func (PySem.W.fnOf "is_integer" "is_integer" (defArgs s_is_integer) (defBody s_is_integer) (defScope s_is_integer) .none kV_is_integer dc_is_integer pm_is_integer an_is_integer cd_is_integer ct_is_integer), sl_is_integer⟩)
    (c_is_integer : PySem.W.codeIn K cd_is_integer "is_integer" = true)
    (k_is_integer : PySem.W.keepIn K (.ref a_is_integer) = true)
    (l_is_count : K.lookup a_is_count = some ⟨oc_is_count, od_is_count, .func (PySem.W.fnOf "is_count" "is_count" (defArgs s_is_count) (defBody s_is_count) (defScope s_is_count) .none kV_is_count dc_is_count pm_is_count an_is_count cd_is_count ct_is_count), sl_is_count⟩)
    (c_is_count : PySem.W.codeIn K cd_is_count "is_count" = true)
    (k_is_count : PySem.W.keepIn K (.ref a_is_count) = true)
    (l_is_list : K.lookup a_is_list = some ⟨oc_is_list, od_is_list, .func (PySem.W.fnOf "is_list" "is_list" (defArgs s_is_list) (defBody s_is_list) (defScope s_is_list) .none kV_is_list dc_is_list pm_is_list an_is_list cd_is_list ct_is_list), sl_is_list⟩)
    (c_is_list : PySem.W.codeIn K cd_is_list "is_list" = true)
    (k_is_list : PySem.W.keepIn K (.ref a_is_list) = true)
    (l_Ratio_init : K.lookup a_Ratio_init = some ⟨oc_Ratio_init, od_Ratio_init, .func (PySem.W.fnOf "__init__" "Ratio.__init__" (defArgs s_Ratio_init) (defBody s_Ratio_init) (defScope s_Ratio_init) (.ref da_Ratio_init) kV_Ratio_init dc_Ratio_init pm_Ratio_init an_Ratio_init cd_Ratio_init ct_Ratio_init), sl_Ratio_init⟩)
    (c_Ratio_init : PySem.W.codeIn K cd_Ratio_init "Ratio.__init__" = true)
    (k_Ratio_init : PySem.W.keepIn K (.ref a_Ratio_init) = true)
    (dl_Ratio_init : K.lookup da_Ratio_init = some do_Ratio_init)
    (dd_Ratio_init : do_Ratio_init.data = .seq ([.int 1 dt0_Ratio_init] : List Value).toArray dm_Ratio_init)
    (l_as_ratio : K.lookup a_as_ratio = some ⟨oc_as_ratio, od_as_ratio, .func (PySem.W.fnOf "as_ratio" "as_ratio" (defArgs s_as_ratio) (defBody s_as_ratio) (defScope s_as_ratio) .none kV_as_ratio dc_as_ratio pm_as_ratio an_as_ratio cd_as_ratio ct_as_ratio), sl_as_ratio⟩)
    (c_as_ratio : PySem.W.codeIn K cd_as_ratio "as_ratio" = true)
    (k_as_ratio : PySem.W.keepIn K (.ref a_as_ratio) = true)
    (l_law_number : K.lookup a_law_number = some ⟨oc_law_number, od_law_number, .func (PySem.W.fnOf "_law_number" "_law_number" (defArgs s_law_number) (defBody s_law_number) (defScope s_law_number) .none kV_law_number dc_law_number pm_law_number an_law_number cd_law_number ct_law_number), sl_law_number⟩)
    (c_law_number : PySem.W.codeIn K cd_law_number "_law_number" = true)
    (k_law_number : PySem.W.keepIn K (.ref a_law_number) = true)
    (l_law_binomials : K.lookup a_law_binomials = some ⟨oc_law_binomials, od_law_binomials, .func (PySem.W.fnOf "_law_binomials" "_law_binomials" (defArgs s_law_binomials) (defBody s_law_binomials) (defScope s_law_binomials) .none kV_law_binomials dc_law_binomials pm_law_binomials an_law_binomials cd_law_binomials ct_law_binomials), sl_law_binomials⟩)
    (c_law_binomials : PySem.W.codeIn K cd_law_binomials "_law_binomials" = true)
    (k_law_binomials : PySem.W.keepIn K (.ref a_law_binomials) = true)
    (l_law_course : K.lookup a_law_course = some ⟨oc_law_course, od_law_course, .func (PySem.W.fnOf "_law_course" "_law_course" (defArgs s_law_course) (defBody s_law_course) (defScope s_law_course) .none kV_law_course dc_law_course pm_law_course an_law_course cd_law_course ct_law_course), sl_law_course⟩)
    (c_law_course : PySem.W.codeIn K cd_law_course "_law_course" = true)
    (k_law_course : PySem.W.keepIn K (.ref a_law_course) = true)
    (l_law_worth : K.lookup a_law_worth = some ⟨oc_law_worth, od_law_worth, .func (PySem.W.fnOf "_law_worth" "_law_worth" (defArgs s_law_worth) (defBody s_law_worth) (defScope s_law_worth) .none kV_law_worth dc_law_worth pm_law_worth an_law_worth cd_law_worth ct_law_worth), sl_law_worth⟩)
    (c_law_worth : PySem.W.codeIn K cd_law_worth "_law_worth" = true)
    (k_law_worth : PySem.W.keepIn K (.ref a_law_worth) = true)
    (l_Ratio_sign : K.lookup a_Ratio_sign = some ⟨oc_Ratio_sign, od_Ratio_sign, .func (PySem.W.fnOf "sign" "Ratio.sign" (defArgs s_Ratio_sign) (defBody s_Ratio_sign) (defScope s_Ratio_sign) .none kV_Ratio_sign dc_Ratio_sign pm_Ratio_sign an_Ratio_sign cd_Ratio_sign ct_Ratio_sign), sl_Ratio_sign⟩)
    (c_Ratio_sign : PySem.W.codeIn K cd_Ratio_sign "Ratio.sign" = true)
    (k_Ratio_sign : PySem.W.keepIn K (.ref a_Ratio_sign) = true)
    (l_Ratio_eq : K.lookup a_Ratio_eq = some ⟨oc_Ratio_eq, od_Ratio_eq, .func (PySem.W.fnOf "__eq__" "Ratio.__eq__" (defArgs s_Ratio_eq) (defBody s_Ratio_eq) (defScope s_Ratio_eq) .none kV_Ratio_eq dc_Ratio_eq pm_Ratio_eq an_Ratio_eq cd_Ratio_eq ct_Ratio_eq), sl_Ratio_eq⟩)
    (c_Ratio_eq : PySem.W.codeIn K cd_Ratio_eq "Ratio.__eq__" = true)
    (k_Ratio_eq : PySem.W.keepIn K (.ref a_Ratio_eq) = true)
    (l_law_form : K.lookup a_law_form = some ⟨oc_law_form, od_law_form, .func (PySem.W.fnOf "_law_form" "_law_form" (defArgs s_law_form) (defBody s_law_form) (defScope s_law_form) .none kV_law_form dc_law_form pm_law_form an_law_form cd_law_form ct_law_form), sl_law_form⟩)
    (c_law_form : PySem.W.codeIn K cd_law_form "_law_form" = true)
    (k_law_form : PySem.W.keepIn K (.ref a_law_form) = true)
    (l_law_degree : K.lookup a_law_degree = some ⟨oc_law_degree, od_law_degree, .func (PySem.W.fnOf "_law_degree" "_law_degree" (defArgs s_law_degree) (defBody s_law_degree) (defScope s_law_degree) .none kV_law_degree dc_law_degree pm_law_degree an_law_degree cd_law_degree ct_law_degree), sl_law_degree⟩)
    (c_law_degree : PySem.W.codeIn K cd_law_degree "_law_degree" = true)
    (k_law_degree : PySem.W.keepIn K (.ref a_law_degree) = true)
    (l_Ratio_repr : K.lookup a_Ratio_repr = some ⟨oc_Ratio_repr, od_Ratio_repr, .func (PySem.W.fnOf "__repr__" "Ratio.__repr__" (defArgs s_Ratio_repr) (defBody s_Ratio_repr) (defScope s_Ratio_repr) .none kV_Ratio_repr dc_Ratio_repr pm_Ratio_repr an_Ratio_repr cd_Ratio_repr ct_Ratio_repr), sl_Ratio_repr⟩)
    (c_Ratio_repr : PySem.W.codeIn K cd_Ratio_repr "Ratio.__repr__" = true)
    (k_Ratio_repr : PySem.W.keepIn K (.ref a_Ratio_repr) = true)
    (l_Ratio_add : K.lookup a_Ratio_add = some ⟨oc_Ratio_add, od_Ratio_add, .func (PySem.W.fnOf "__add__" "Ratio.__add__" (defArgs s_Ratio_add) (defBody s_Ratio_add) (defScope s_Ratio_add) .none kV_Ratio_add dc_Ratio_add pm_Ratio_add an_Ratio_add cd_Ratio_add ct_Ratio_add), sl_Ratio_add⟩)
    (c_Ratio_add : PySem.W.codeIn K cd_Ratio_add "Ratio.__add__" = true)
    (k_Ratio_add : PySem.W.keepIn K (.ref a_Ratio_add) = true)
    (l_Ratio_mul : K.lookup a_Ratio_mul = some ⟨oc_Ratio_mul, od_Ratio_mul, .func (PySem.W.fnOf "__mul__" "Ratio.__mul__" (defArgs s_Ratio_mul) (defBody s_Ratio_mul) (defScope s_Ratio_mul) .none kV_Ratio_mul dc_Ratio_mul pm_Ratio_mul an_Ratio_mul cd_Ratio_mul ct_Ratio_mul), sl_Ratio_mul⟩)
    (c_Ratio_mul : PySem.W.codeIn K cd_Ratio_mul "Ratio.__mul__" = true)
    (k_Ratio_mul : PySem.W.keepIn K (.ref a_Ratio_mul) = true)
    (l_is_number : K.lookup a_is_number = some ⟨oc_is_number, od_is_number, .func (PySem.W.fnOf "is_number" "is_number" (defArgs s_is_number) (defBody s_is_number) (defScope s_is_number) .none kV_is_number dc_is_number pm_is_number an_is_number cd_is_number ct_is_number), sl_is_number⟩)
    (c_is_number : PySem.W.codeIn K cd_is_number "is_number" = true)
    (k_is_number : PySem.W.keepIn K (.ref a_is_number) = true)
    (l_are_numbers : K.lookup a_are_numbers = some ⟨oc_are_numbers, od_are_numbers, .func (PySem.W.fnOf "are_numbers" "are_numbers" (defArgs s_are_numbers) (defBody s_are_numbers) (defScope s_are_numbers) .none kV_are_numbers dc_are_numbers pm_are_numbers an_are_numbers cd_are_numbers ct_are_numbers), sl_are_numbers⟩)
    (c_are_numbers : PySem.W.codeIn K cd_are_numbers "are_numbers" = true)
    (k_are_numbers : PySem.W.keepIn K (.ref a_are_numbers) = true)
    (l_check_whole : K.lookup a_check_whole = some ⟨oc_check_whole, od_check_whole, .func (PySem.W.fnOf "check_whole" "check_whole" (defArgs s_check_whole) (defBody s_check_whole) (defScope s_check_whole) .none kV_check_whole dc_check_whole pm_check_whole an_check_whole cd_check_whole ct_check_whole), sl_check_whole⟩)
    (c_check_whole : PySem.W.codeIn K cd_check_whole "check_whole" = true)
    (k_check_whole : PySem.W.keepIn K (.ref a_check_whole) = true)
    (l_worth : K.lookup a_worth = some ⟨oc_worth, od_worth, .func (PySem.W.fnOf "worth" "worth" (defArgs s_worth) (defBody s_worth) (defScope s_worth) .none kV_worth dc_worth pm_worth an_worth cd_worth ct_worth), sl_worth⟩)
    (c_worth : PySem.W.codeIn K cd_worth "worth" = true)
    (k_worth : PySem.W.keepIn K (.ref a_worth) = true)
    (l_trimmed : K.lookup a_trimmed = some ⟨oc_trimmed, od_trimmed, .func (PySem.W.fnOf "_trimmed" "_trimmed" (defArgs s_trimmed) (defBody s_trimmed) (defScope s_trimmed) .none kV_trimmed dc_trimmed pm_trimmed an_trimmed cd_trimmed ct_trimmed), sl_trimmed⟩)
    (c_trimmed : PySem.W.codeIn K cd_trimmed "_trimmed" = true)
    (k_trimmed : PySem.W.keepIn K (.ref a_trimmed) = true)
    (l_least : K.lookup a_least = some ⟨oc_least, od_least, .func (PySem.W.fnOf "_least" "_least" (defArgs s_least) (defBody s_least) (defScope s_least) .none kV_least dc_least pm_least an_least cd_least ct_least), sl_least⟩)
    (c_least : PySem.W.codeIn K cd_least "_least" = true)
    (k_least : PySem.W.keepIn K (.ref a_least) = true)
    (l_are_parts : K.lookup a_are_parts = some ⟨oc_are_parts, od_are_parts, .func (PySem.W.fnOf "_are_parts" "_are_parts" (defArgs s_are_parts) (defBody s_are_parts) (defScope s_are_parts) .none kV_are_parts dc_are_parts pm_are_parts an_are_parts cd_are_parts ct_are_parts), sl_are_parts⟩)
    (c_are_parts : PySem.W.codeIn K cd_are_parts "_are_parts" = true)
    (k_are_parts : PySem.W.keepIn K (.ref a_are_parts) = true)
    (l_Course_init : K.lookup a_Course_init = some ⟨oc_Course_init, od_Course_init, .func (PySem.W.fnOf "__init__" "Course.__init__" (defArgs s_Course_init) (defBody s_Course_init) (defScope s_Course_init) .none kV_Course_init dc_Course_init pm_Course_init an_Course_init cd_Course_init ct_Course_init), sl_Course_init⟩)
    (c_Course_init : PySem.W.codeIn K cd_Course_init "Course.__init__" = true)
    (k_Course_init : PySem.W.keepIn K (.ref a_Course_init) = true)
    (l_Course_period : K.lookup a_Course_period = some ⟨oc_Course_period, od_Course_period, .func (PySem.W.fnOf "period" "Course.period" (defArgs s_Course_period) (defBody s_Course_period) (defScope s_Course_period) .none kV_Course_period dc_Course_period pm_Course_period an_Course_period cd_Course_period ct_Course_period), sl_Course_period⟩)
    (c_Course_period : PySem.W.codeIn K cd_Course_period "Course.period" = true)
    (k_Course_period : PySem.W.keepIn K (.ref a_Course_period) = true)
    (l_Course_degree : K.lookup a_Course_degree = some ⟨oc_Course_degree, od_Course_degree, .func (PySem.W.fnOf "degree" "Course.degree" (defArgs s_Course_degree) (defBody s_Course_degree) (defScope s_Course_degree) .none kV_Course_degree dc_Course_degree pm_Course_degree an_Course_degree cd_Course_degree ct_Course_degree), sl_Course_degree⟩)
    (c_Course_degree : PySem.W.codeIn K cd_Course_degree "Course.degree" = true)
    (k_Course_degree : PySem.W.keepIn K (.ref a_Course_degree) = true)
    (l_Course_at : K.lookup a_Course_at = some ⟨oc_Course_at, od_Course_at, .func (PySem.W.fnOf "at" "Course.at" (defArgs s_Course_at) (defBody s_Course_at) (defScope s_Course_at) .none kV_Course_at dc_Course_at pm_Course_at an_Course_at cd_Course_at ct_Course_at), sl_Course_at⟩)
    (c_Course_at : PySem.W.codeIn K cd_Course_at "Course.at" = true)
    (k_Course_at : PySem.W.keepIn K (.ref a_Course_at) = true)
    (l_Course_eq : K.lookup a_Course_eq = some ⟨oc_Course_eq, od_Course_eq, .func (PySem.W.fnOf "__eq__" "Course.__eq__" (defArgs s_Course_eq) (defBody s_Course_eq) (defScope s_Course_eq) .none kV_Course_eq dc_Course_eq pm_Course_eq an_Course_eq cd_Course_eq ct_Course_eq), sl_Course_eq⟩)
    (c_Course_eq : PySem.W.codeIn K cd_Course_eq "Course.__eq__" = true)
    (k_Course_eq : PySem.W.keepIn K (.ref a_Course_eq) = true)
    (l_summed : K.lookup a_summed = some ⟨oc_summed, od_summed, .func (PySem.W.fnOf "summed" "summed" (defArgs s_summed) (defBody s_summed) (defScope s_summed) .none kV_summed dc_summed pm_summed an_summed cd_summed ct_summed), sl_summed⟩)
    (c_summed : PySem.W.codeIn K cd_summed "summed" = true)
    (k_summed : PySem.W.keepIn K (.ref a_summed) = true)
    (l_Ratio_rmul : K.lookup a_Ratio_rmul = some ⟨oc_Ratio_rmul, od_Ratio_rmul, .func (PySem.W.fnOf "__rmul__" "Ratio.__rmul__" (defArgs s_Ratio_rmul) (defBody s_Ratio_rmul) (defScope s_Ratio_rmul) .none kV_Ratio_rmul dc_Ratio_rmul pm_Ratio_rmul an_Ratio_rmul cd_Ratio_rmul ct_Ratio_rmul), sl_Ratio_rmul⟩)
    (c_Ratio_rmul : PySem.W.codeIn K cd_Ratio_rmul "Ratio.__rmul__" = true)
    (k_Ratio_rmul : PySem.W.keepIn K (.ref a_Ratio_rmul) = true)
    (l_multiplied : K.lookup a_multiplied = some ⟨oc_multiplied, od_multiplied, .func (PySem.W.fnOf "multiplied" "multiplied" (defArgs s_multiplied) (defBody s_multiplied) (defScope s_multiplied) .none kV_multiplied dc_multiplied pm_multiplied an_multiplied cd_multiplied ct_multiplied), sl_multiplied⟩)
    (c_multiplied : PySem.W.codeIn K cd_multiplied "multiplied" = true)
    (k_multiplied : PySem.W.keepIn K (.ref a_multiplied) = true)
    (l_times_sum : K.lookup a_times_sum = some ⟨oc_times_sum, od_times_sum, .func (PySem.W.fnOf "_times_sum" "_times_sum" (defArgs s_times_sum) (defBody s_times_sum) (defScope s_times_sum) .none kV_times_sum dc_times_sum pm_times_sum an_times_sum cd_times_sum ct_times_sum), sl_times_sum⟩)
    (c_times_sum : PySem.W.codeIn K cd_times_sum "_times_sum" = true)
    (k_times_sum : PySem.W.keepIn K (.ref a_times_sum) = true)
    (l_Ratio_sub : K.lookup a_Ratio_sub = some ⟨oc_Ratio_sub, od_Ratio_sub, .func (PySem.W.fnOf "__sub__" "Ratio.__sub__" (defArgs s_Ratio_sub) (defBody s_Ratio_sub) (defScope s_Ratio_sub) .none kV_Ratio_sub dc_Ratio_sub pm_Ratio_sub an_Ratio_sub cd_Ratio_sub ct_Ratio_sub), sl_Ratio_sub⟩)
    (c_Ratio_sub : PySem.W.codeIn K cd_Ratio_sub "Ratio.__sub__" = true)
    (k_Ratio_sub : PySem.W.keepIn K (.ref a_Ratio_sub) = true)
    (l_counting : K.lookup a_counting = some ⟨oc_counting, od_counting, .func (PySem.W.fnOf "counting" "counting" (defArgs s_counting) (defBody s_counting) (defScope s_counting) .none kV_counting dc_counting pm_counting an_counting cd_counting ct_counting), sl_counting⟩)
    (c_counting : PySem.W.codeIn K cd_counting "counting" = true)
    (k_counting : PySem.W.keepIn K (.ref a_counting) = true)
    (l_made_of : K.lookup a_made_of = some ⟨oc_made_of, od_made_of, .func (PySem.W.fnOf "made_of" "made_of" (defArgs s_made_of) (defBody s_made_of) (defScope s_made_of) .none kV_made_of dc_made_of pm_made_of an_made_of cd_made_of ct_made_of), sl_made_of⟩)
    (c_made_of : PySem.W.codeIn K cd_made_of "made_of" = true)
    (k_made_of : PySem.W.keepIn K (.ref a_made_of) = true)
    (l_differences_of : K.lookup a_differences_of = some ⟨oc_differences_of, od_differences_of, .func (PySem.W.fnOf "differences_of" "differences_of" (defArgs s_differences_of) (defBody s_differences_of) (defScope s_differences_of) .none kV_differences_of dc_differences_of pm_differences_of an_differences_of cd_differences_of ct_differences_of), sl_differences_of⟩)
    (c_differences_of : PySem.W.codeIn K cd_differences_of "differences_of" = true)
    (k_differences_of : PySem.W.keepIn K (.ref a_differences_of) = true)
    (l_grown : K.lookup a_grown = some ⟨oc_grown, od_grown, .func (PySem.W.fnOf "grown" "grown" (defArgs s_grown) (defBody s_grown) (defScope s_grown) .none kV_grown dc_grown pm_grown an_grown cd_grown ct_grown), sl_grown⟩)
    (c_grown : PySem.W.codeIn K cd_grown "grown" = true)
    (k_grown : PySem.W.keepIn K (.ref a_grown) = true)
    (l_law_made : K.lookup a_law_made = some ⟨oc_law_made, od_law_made, .func (PySem.W.fnOf "_law_made" "_law_made" (defArgs s_law_made) (defBody s_law_made) (defScope s_law_made) .none kV_law_made dc_law_made pm_law_made an_law_made cd_law_made ct_law_made), sl_law_made⟩)
    (c_law_made : PySem.W.codeIn K cd_law_made "_law_made" = true)
    (k_law_made : PySem.W.keepIn K (.ref a_law_made) = true)
    (l_law_grown_right : K.lookup a_law_grown_right = some ⟨oc_law_grown_right, od_law_grown_right, .func (PySem.W.fnOf "_law_grown_right" "_law_grown_right" (defArgs s_law_grown_right) (defBody s_law_grown_right) (defScope s_law_grown_right) .none kV_law_grown_right dc_law_grown_right pm_law_grown_right an_law_grown_right cd_law_grown_right ct_law_grown_right), sl_law_grown_right⟩)
    (c_law_grown_right : PySem.W.codeIn K cd_law_grown_right "_law_grown_right" = true)
    (k_law_grown_right : PySem.W.keepIn K (.ref a_law_grown_right) = true)
    (l_law_right : K.lookup a_law_right = some ⟨oc_law_right, od_law_right, .func (PySem.W.fnOf "_law_right" "_law_right" (defArgs s_law_right) (defBody s_law_right) (defScope s_law_right) .none kV_law_right dc_law_right pm_law_right an_law_right cd_law_right ct_law_right), sl_law_right⟩)
    (c_law_right : PySem.W.codeIn K cd_law_right "_law_right" = true)
    (k_law_right : PySem.W.keepIn K (.ref a_law_right) = true)
    (l_law : K.lookup a_law = some ⟨oc_law, od_law, .func (PySem.W.fnOf "law" "law" (defArgs s_law) (defBody s_law) (defScope s_law) .none kV_law dc_law pm_law an_law cd_law ct_law), sl_law⟩)
    (c_law : PySem.W.codeIn K cd_law "law" = true)
    (k_law : PySem.W.keepIn K (.ref a_law) = true)
    : ∃ (fd : FuncData) (T : CT), T.sc = scOf K ∧ (∀ (s : Shared) (v : Value), BindsTo s fd ⟨[v], []⟩ [("_law_script", v)]) ∧ ∀ base : Heap, K.In base → base.Ns mainGlobals mg → FnG l.prog w K mg base 13 fa fd ["_law_script"] (sp0 T 1 G_law) := by
  have e := (PySem.W.mg_of X G h_law).symm.trans hfa
  have e2 : a_law = fa := by
    injection e with e
    injection e with e
  subst e2
  let M : Facts K mg := {
    C_Ratio := C_Ratio,
    C_Course := C_Course,
    a_law_pot := a_law_pot,
    d_law_pot := (PySem.W.fnOf "_law_pot" "_law_pot" (defArgs s_law_pot) (defBody s_law_pot) (defScope s_law_pot) .none kV_law_pot dc_law_pot pm_law_pot an_law_pot cd_law_pot ct_law_pot),
    a_law_draw := a_law_draw,
    d_law_draw := (PySem.W.fnOf "_law_draw" "_law_draw" (defArgs s_law_draw) (defBody s_law_draw) (defScope s_law_draw) .none kV_law_draw dc_law_draw pm_law_draw an_law_draw cd_law_draw ct_law_draw),
    a_law_pick := a_law_pick,
    d_law_pick := (PySem.W.fnOf "_law_pick" "_law_pick" (defArgs s_law_pick) (defBody s_law_pick) (defScope s_law_pick) .none kV_law_pick dc_law_pick pm_law_pick an_law_pick cd_law_pick ct_law_pick),
    a_law_whole := a_law_whole,
    d_law_whole := (PySem.W.fnOf "_law_whole" "_law_whole" (defArgs s_law_whole) (defBody s_law_whole) (defScope s_law_whole) .none kV_law_whole dc_law_whole pm_law_whole an_law_whole cd_law_whole ct_law_whole),
    a_is_integer := a_is_integer,
    d_is_integer := (PySem.W.fnOf "is_integer" "is_integer" (defArgs s_is_integer) (defBody s_is_integer) (defScope s_is_integer) .none kV_is_integer dc_is_integer pm_is_integer an_is_integer cd_is_integer ct_is_integer),
    a_is_count := a_is_count,
    d_is_count := (PySem.W.fnOf "is_count" "is_count" (defArgs s_is_count) (defBody s_is_count) (defScope s_is_count) .none kV_is_count dc_is_count pm_is_count an_is_count cd_is_count ct_is_count),
    a_is_list := a_is_list,
    d_is_list := (PySem.W.fnOf "is_list" "is_list" (defArgs s_is_list) (defBody s_is_list) (defScope s_is_list) .none kV_is_list dc_is_list pm_is_list an_is_list cd_is_list ct_is_list),
    a_Ratio_init := a_Ratio_init,
    d_Ratio_init := (PySem.W.fnOf "__init__" "Ratio.__init__" (defArgs s_Ratio_init) (defBody s_Ratio_init) (defScope s_Ratio_init) (.ref da_Ratio_init) kV_Ratio_init dc_Ratio_init pm_Ratio_init an_Ratio_init cd_Ratio_init ct_Ratio_init),
    a_as_ratio := a_as_ratio,
    d_as_ratio := (PySem.W.fnOf "as_ratio" "as_ratio" (defArgs s_as_ratio) (defBody s_as_ratio) (defScope s_as_ratio) .none kV_as_ratio dc_as_ratio pm_as_ratio an_as_ratio cd_as_ratio ct_as_ratio),
    a_law_number := a_law_number,
    d_law_number := (PySem.W.fnOf "_law_number" "_law_number" (defArgs s_law_number) (defBody s_law_number) (defScope s_law_number) .none kV_law_number dc_law_number pm_law_number an_law_number cd_law_number ct_law_number),
    a_law_binomials := a_law_binomials,
    d_law_binomials := (PySem.W.fnOf "_law_binomials" "_law_binomials" (defArgs s_law_binomials) (defBody s_law_binomials) (defScope s_law_binomials) .none kV_law_binomials dc_law_binomials pm_law_binomials an_law_binomials cd_law_binomials ct_law_binomials),
    a_law_course := a_law_course,
    d_law_course := (PySem.W.fnOf "_law_course" "_law_course" (defArgs s_law_course) (defBody s_law_course) (defScope s_law_course) .none kV_law_course dc_law_course pm_law_course an_law_course cd_law_course ct_law_course),
    a_law_worth := a_law_worth,
    d_law_worth := (PySem.W.fnOf "_law_worth" "_law_worth" (defArgs s_law_worth) (defBody s_law_worth) (defScope s_law_worth) .none kV_law_worth dc_law_worth pm_law_worth an_law_worth cd_law_worth ct_law_worth),
    a_Ratio_sign := a_Ratio_sign,
    d_Ratio_sign := (PySem.W.fnOf "sign" "Ratio.sign" (defArgs s_Ratio_sign) (defBody s_Ratio_sign) (defScope s_Ratio_sign) .none kV_Ratio_sign dc_Ratio_sign pm_Ratio_sign an_Ratio_sign cd_Ratio_sign ct_Ratio_sign),
    a_Ratio_eq := a_Ratio_eq,
    d_Ratio_eq := (PySem.W.fnOf "__eq__" "Ratio.__eq__" (defArgs s_Ratio_eq) (defBody s_Ratio_eq) (defScope s_Ratio_eq) .none kV_Ratio_eq dc_Ratio_eq pm_Ratio_eq an_Ratio_eq cd_Ratio_eq ct_Ratio_eq),
    a_law_form := a_law_form,
    d_law_form := (PySem.W.fnOf "_law_form" "_law_form" (defArgs s_law_form) (defBody s_law_form) (defScope s_law_form) .none kV_law_form dc_law_form pm_law_form an_law_form cd_law_form ct_law_form),
    a_law_degree := a_law_degree,
    d_law_degree := (PySem.W.fnOf "_law_degree" "_law_degree" (defArgs s_law_degree) (defBody s_law_degree) (defScope s_law_degree) .none kV_law_degree dc_law_degree pm_law_degree an_law_degree cd_law_degree ct_law_degree),
    a_Ratio_repr := a_Ratio_repr,
    d_Ratio_repr := (PySem.W.fnOf "__repr__" "Ratio.__repr__" (defArgs s_Ratio_repr) (defBody s_Ratio_repr) (defScope s_Ratio_repr) .none kV_Ratio_repr dc_Ratio_repr pm_Ratio_repr an_Ratio_repr cd_Ratio_repr ct_Ratio_repr),
    a_Ratio_add := a_Ratio_add,
    d_Ratio_add := (PySem.W.fnOf "__add__" "Ratio.__add__" (defArgs s_Ratio_add) (defBody s_Ratio_add) (defScope s_Ratio_add) .none kV_Ratio_add dc_Ratio_add pm_Ratio_add an_Ratio_add cd_Ratio_add ct_Ratio_add),
    a_Ratio_mul := a_Ratio_mul,
    d_Ratio_mul := (PySem.W.fnOf "__mul__" "Ratio.__mul__" (defArgs s_Ratio_mul) (defBody s_Ratio_mul) (defScope s_Ratio_mul) .none kV_Ratio_mul dc_Ratio_mul pm_Ratio_mul an_Ratio_mul cd_Ratio_mul ct_Ratio_mul),
    a_is_number := a_is_number,
    d_is_number := (PySem.W.fnOf "is_number" "is_number" (defArgs s_is_number) (defBody s_is_number) (defScope s_is_number) .none kV_is_number dc_is_number pm_is_number an_is_number cd_is_number ct_is_number),
    a_are_numbers := a_are_numbers,
    d_are_numbers := (PySem.W.fnOf "are_numbers" "are_numbers" (defArgs s_are_numbers) (defBody s_are_numbers) (defScope s_are_numbers) .none kV_are_numbers dc_are_numbers pm_are_numbers an_are_numbers cd_are_numbers ct_are_numbers),
    a_check_whole := a_check_whole,
    d_check_whole := (PySem.W.fnOf "check_whole" "check_whole" (defArgs s_check_whole) (defBody s_check_whole) (defScope s_check_whole) .none kV_check_whole dc_check_whole pm_check_whole an_check_whole cd_check_whole ct_check_whole),
    a_worth := a_worth,
    d_worth := (PySem.W.fnOf "worth" "worth" (defArgs s_worth) (defBody s_worth) (defScope s_worth) .none kV_worth dc_worth pm_worth an_worth cd_worth ct_worth),
    p_Ratio_sign := p_Ratio_sign,
    a_trimmed := a_trimmed,
    d_trimmed := (PySem.W.fnOf "_trimmed" "_trimmed" (defArgs s_trimmed) (defBody s_trimmed) (defScope s_trimmed) .none kV_trimmed dc_trimmed pm_trimmed an_trimmed cd_trimmed ct_trimmed),
    a_least := a_least,
    d_least := (PySem.W.fnOf "_least" "_least" (defArgs s_least) (defBody s_least) (defScope s_least) .none kV_least dc_least pm_least an_least cd_least ct_least),
    a_are_parts := a_are_parts,
    d_are_parts := (PySem.W.fnOf "_are_parts" "_are_parts" (defArgs s_are_parts) (defBody s_are_parts) (defScope s_are_parts) .none kV_are_parts dc_are_parts pm_are_parts an_are_parts cd_are_parts ct_are_parts),
    a_Course_init := a_Course_init,
    d_Course_init := (PySem.W.fnOf "__init__" "Course.__init__" (defArgs s_Course_init) (defBody s_Course_init) (defScope s_Course_init) .none kV_Course_init dc_Course_init pm_Course_init an_Course_init cd_Course_init ct_Course_init),
    a_Course_period := a_Course_period,
    d_Course_period := (PySem.W.fnOf "period" "Course.period" (defArgs s_Course_period) (defBody s_Course_period) (defScope s_Course_period) .none kV_Course_period dc_Course_period pm_Course_period an_Course_period cd_Course_period ct_Course_period),
    a_Course_degree := a_Course_degree,
    d_Course_degree := (PySem.W.fnOf "degree" "Course.degree" (defArgs s_Course_degree) (defBody s_Course_degree) (defScope s_Course_degree) .none kV_Course_degree dc_Course_degree pm_Course_degree an_Course_degree cd_Course_degree ct_Course_degree),
    a_Course_at := a_Course_at,
    d_Course_at := (PySem.W.fnOf "at" "Course.at" (defArgs s_Course_at) (defBody s_Course_at) (defScope s_Course_at) .none kV_Course_at dc_Course_at pm_Course_at an_Course_at cd_Course_at ct_Course_at),
    a_Course_eq := a_Course_eq,
    d_Course_eq := (PySem.W.fnOf "__eq__" "Course.__eq__" (defArgs s_Course_eq) (defBody s_Course_eq) (defScope s_Course_eq) .none kV_Course_eq dc_Course_eq pm_Course_eq an_Course_eq cd_Course_eq ct_Course_eq),
    a_summed := a_summed,
    d_summed := (PySem.W.fnOf "summed" "summed" (defArgs s_summed) (defBody s_summed) (defScope s_summed) .none kV_summed dc_summed pm_summed an_summed cd_summed ct_summed),
    a_Ratio_rmul := a_Ratio_rmul,
    d_Ratio_rmul := (PySem.W.fnOf "__rmul__" "Ratio.__rmul__" (defArgs s_Ratio_rmul) (defBody s_Ratio_rmul) (defScope s_Ratio_rmul) .none kV_Ratio_rmul dc_Ratio_rmul pm_Ratio_rmul an_Ratio_rmul cd_Ratio_rmul ct_Ratio_rmul),
    a_multiplied := a_multiplied,
    d_multiplied := (PySem.W.fnOf "multiplied" "multiplied" (defArgs s_multiplied) (defBody s_multiplied) (defScope s_multiplied) .none kV_multiplied dc_multiplied pm_multiplied an_multiplied cd_multiplied ct_multiplied),
    a_times_sum := a_times_sum,
    d_times_sum := (PySem.W.fnOf "_times_sum" "_times_sum" (defArgs s_times_sum) (defBody s_times_sum) (defScope s_times_sum) .none kV_times_sum dc_times_sum pm_times_sum an_times_sum cd_times_sum ct_times_sum),
    a_Ratio_sub := a_Ratio_sub,
    d_Ratio_sub := (PySem.W.fnOf "__sub__" "Ratio.__sub__" (defArgs s_Ratio_sub) (defBody s_Ratio_sub) (defScope s_Ratio_sub) .none kV_Ratio_sub dc_Ratio_sub pm_Ratio_sub an_Ratio_sub cd_Ratio_sub ct_Ratio_sub),
    a_counting := a_counting,
    d_counting := (PySem.W.fnOf "counting" "counting" (defArgs s_counting) (defBody s_counting) (defScope s_counting) .none kV_counting dc_counting pm_counting an_counting cd_counting ct_counting),
    a_made_of := a_made_of,
    d_made_of := (PySem.W.fnOf "made_of" "made_of" (defArgs s_made_of) (defBody s_made_of) (defScope s_made_of) .none kV_made_of dc_made_of pm_made_of an_made_of cd_made_of ct_made_of),
    a_differences_of := a_differences_of,
    d_differences_of := (PySem.W.fnOf "differences_of" "differences_of" (defArgs s_differences_of) (defBody s_differences_of) (defScope s_differences_of) .none kV_differences_of dc_differences_of pm_differences_of an_differences_of cd_differences_of ct_differences_of),
    a_grown := a_grown,
    d_grown := (PySem.W.fnOf "grown" "grown" (defArgs s_grown) (defBody s_grown) (defScope s_grown) .none kV_grown dc_grown pm_grown an_grown cd_grown ct_grown),
    a_law_made := a_law_made,
    d_law_made := (PySem.W.fnOf "_law_made" "_law_made" (defArgs s_law_made) (defBody s_law_made) (defScope s_law_made) .none kV_law_made dc_law_made pm_law_made an_law_made cd_law_made ct_law_made),
    p_Course_period := p_Course_period,
    p_Course_degree := p_Course_degree,
    a_law_grown_right := a_law_grown_right,
    d_law_grown_right := (PySem.W.fnOf "_law_grown_right" "_law_grown_right" (defArgs s_law_grown_right) (defBody s_law_grown_right) (defScope s_law_grown_right) .none kV_law_grown_right dc_law_grown_right pm_law_grown_right an_law_grown_right cd_law_grown_right ct_law_grown_right),
    a_law_right := a_law_right,
    d_law_right := (PySem.W.fnOf "_law_right" "_law_right" (defArgs s_law_right) (defBody s_law_right) (defScope s_law_right) .none kV_law_right dc_law_right pm_law_right an_law_right cd_law_right ct_law_right),
    a_law := a_law,
    d_law := (PySem.W.fnOf "law" "law" (defArgs s_law) (defBody s_law) (defScope s_law) .none kV_law dc_law pm_law an_law cd_law ct_law),
    n_max := (PySem.W.mg_none_of X G h_n_max),
    n_len := (PySem.W.mg_none_of X G h_n_len),
    n_abs := (PySem.W.mg_none_of X G h_n_abs),
    n_sum := (PySem.W.mg_none_of X G h_n_sum),
    F_law_pot := (fun_mk (st := s_law_pot) l_law_pot c_law_pot k_law_pot),
    b_law_pot := ((fun_mk (st := s_law_pot) l_law_pot c_law_pot k_law_pot).binds (ps := ["_law_script", "_law_k"]) fun _ _ _ _ _ _ us hl => match us, hl with | [_, _], _ => rfl),
    n_divmod := (PySem.W.mg_none_of X G h_n_divmod),
    F_law_draw := (fun_mk (st := s_law_draw) l_law_draw c_law_draw k_law_draw),
    b_law_draw := ((fun_mk (st := s_law_draw) l_law_draw c_law_draw k_law_draw).binds (ps := ["_law_pot_here", "_law_many"]) fun _ _ _ _ _ _ us hl => match us, hl with | [_, _], _ => rfl),
    m_law_draw := (PySem.W.mg_of X G h_m_law_draw),
    F_law_pick := (fun_mk (st := s_law_pick) l_law_pick c_law_pick k_law_pick),
    b_law_pick := ((fun_mk (st := s_law_pick) l_law_pick c_law_pick k_law_pick).binds (ps := ["_law_pot_here", "_law_some"]) fun _ _ _ _ _ _ us hl => match us, hl with | [_, _], _ => rfl),
    m_law_pick := (PySem.W.mg_of X G h_m_law_pick),
    F_law_whole := (fun_mk (st := s_law_whole) l_law_whole c_law_whole k_law_whole),
    b_law_whole := ((fun_mk (st := s_law_whole) l_law_whole c_law_whole k_law_whole).binds (ps := ["_law_pot_here"]) fun _ _ _ _ _ _ us hl => match us, hl with | [_], _ => rfl),
    n_isinstance := (PySem.W.mg_none_of X G h_n_isinstance),
    ca := (fun c q h => by
      match c, h with
      | 0, h => cases h; exact ⟨⟨cl1_C_Ratio, cl2_C_Ratio, cl3_C_Ratio, cl4_C_Ratio⟩, ca_ca_C_Ratio, ca_cn, ca_ct, ca_cm_C_Ratio⟩
      | 1, h => cases h; exact ⟨⟨cl1_C_Course, cl2_C_Course, cl3_C_Course, cl4_C_Course⟩, ca_ca_C_Course, ca_cn, ca_ct, ca_cm_C_Course⟩
      | _ + 2, h => cases h),
    i_int := (fun d t h => by
      cases d with
      | non => cases h; exact (kit_ty (r := false) (by decide +kernel))
      | bl b => cases h; exact (kit_ty (r := true) (by decide +kernel))
      | int i => cases h; exact (kit_ty (r := true) (by decide +kernel))
      | str z => cases h; exact (kit_ty (r := false) (by decide +kernel))
      | lst l => cases h; exact (kit_ty (r := false) (by decide +kernel))
      | tup l => cases h; exact (kit_ty (r := false) (by decide +kernel))
      | obj c l => match c, h with
        | 0, h => cases h; exact (kit_obj i_int_obj_C_Ratio (by decide +kernel))
        | 1, h => cases h; exact (kit_obj i_int_obj_C_Course (by decide +kernel))
        | _ + 2, h => cases h
      | cls c => cases h
      | scr l => cases h),
    n_int := (PySem.W.mg_none_of X G h_n_int),
    i_bool := (fun d t h => by
      cases d with
      | non => cases h; exact (kit_ty (r := false) (by decide +kernel))
      | bl b => cases h; exact (kit_ty (r := true) (by decide +kernel))
      | int i => cases h; exact (kit_ty (r := false) (by decide +kernel))
      | str z => cases h; exact (kit_ty (r := false) (by decide +kernel))
      | lst l => cases h; exact (kit_ty (r := false) (by decide +kernel))
      | tup l => cases h; exact (kit_ty (r := false) (by decide +kernel))
      | obj c l => match c, h with
        | 0, h => cases h; exact (kit_obj i_bool_obj_C_Ratio (by decide +kernel))
        | 1, h => cases h; exact (kit_obj i_bool_obj_C_Course (by decide +kernel))
        | _ + 2, h => cases h
      | cls c => cases h
      | scr l => cases h),
    n_bool := (PySem.W.mg_none_of X G h_n_bool),
    F_is_integer := (fun_mk (st := s_is_integer) l_is_integer c_is_integer k_is_integer),
    b_is_integer := ((fun_mk (st := s_is_integer) l_is_integer c_is_integer k_is_integer).binds (ps := ["value"]) fun _ _ _ _ _ _ us hl => match us, hl with | [_], _ => rfl),
    m_is_integer := (PySem.W.mg_of X G h_m_is_integer),
    F_is_count := (fun_mk (st := s_is_count) l_is_count c_is_count k_is_count),
    b_is_count := ((fun_mk (st := s_is_count) l_is_count c_is_count k_is_count).binds (ps := ["value"]) fun _ _ _ _ _ _ us hl => match us, hl with | [_], _ => rfl),
    i_list := (fun d t h => by
      cases d with
      | non => cases h; exact (kit_ty (r := false) (by decide +kernel))
      | bl b => cases h; exact (kit_ty (r := false) (by decide +kernel))
      | int i => cases h; exact (kit_ty (r := false) (by decide +kernel))
      | str z => cases h; exact (kit_ty (r := false) (by decide +kernel))
      | lst l => cases h; exact (kit_ty (r := true) (by decide +kernel))
      | tup l => cases h; exact (kit_ty (r := false) (by decide +kernel))
      | obj c l => match c, h with
        | 0, h => cases h; exact (kit_obj i_list_obj_C_Ratio (by decide +kernel))
        | 1, h => cases h; exact (kit_obj i_list_obj_C_Course (by decide +kernel))
        | _ + 2, h => cases h
      | cls c => cases h
      | scr l => cases h),
    n_list := (PySem.W.mg_none_of X G h_n_list),
    i_tuple := (fun d t h => by
      cases d with
      | non => cases h; exact (kit_ty (r := false) (by decide +kernel))
      | bl b => cases h; exact (kit_ty (r := false) (by decide +kernel))
      | int i => cases h; exact (kit_ty (r := false) (by decide +kernel))
      | str z => cases h; exact (kit_ty (r := false) (by decide +kernel))
      | lst l => cases h; exact (kit_ty (r := false) (by decide +kernel))
      | tup l => cases h; exact (kit_ty (r := true) (by decide +kernel))
      | obj c l => match c, h with
        | 0, h => cases h; exact (kit_obj i_tuple_obj_C_Ratio (by decide +kernel))
        | 1, h => cases h; exact (kit_obj i_tuple_obj_C_Course (by decide +kernel))
        | _ + 2, h => cases h
      | cls c => cases h
      | scr l => cases h),
    n_tuple := (PySem.W.mg_none_of X G h_n_tuple),
    F_is_list := (fun_mk (st := s_is_list) l_is_list c_is_list k_is_list),
    b_is_list := ((fun_mk (st := s_is_list) l_is_list c_is_list k_is_list).binds (ps := ["value"]) fun _ _ _ _ _ _ us hl => match us, hl with | [_], _ => rfl),
    m_gcd := (PySem.W.mg_of X G h_m_gcd),
    hc_Ratio := ⟨cl1_C_Ratio, cl2_C_Ratio, cl3_C_Ratio, cl4_C_Ratio⟩,
    na_Ratio_top := h_na_Ratio_top,
    na_Ratio_bottom := h_na_Ratio_bottom,
    F_Ratio_init := (funD_mk (dvs := [V.int 1]) l_Ratio_init c_Ratio_init k_Ratio_init (by simp) dl_Ratio_init dd_Ratio_init (show Vals [V.int 1] [.int 1 dt0_Ratio_init] from (.cons ⟨_, rfl⟩ .nil))),
    i_Ratio := (fun d t h => by
      cases d with
      | non => cases h; exact (kit_own ic_C_Ratio it_C_Ratio i_Ratio_NoneType)
      | bl b => cases h; exact (kit_own ic_C_Ratio it_C_Ratio i_Ratio_bool)
      | int i => cases h; exact (kit_own ic_C_Ratio it_C_Ratio i_Ratio_int)
      | str z => cases h; exact (kit_own ic_C_Ratio it_C_Ratio i_Ratio_str)
      | lst l => cases h; exact (kit_own ic_C_Ratio it_C_Ratio i_Ratio_list)
      | tup l => cases h; exact (kit_own ic_C_Ratio it_C_Ratio i_Ratio_tuple)
      | obj c l => match c, h with
        | 0, h => cases h; exact kit_self
        | 1, h => cases h; exact (kit_other ne_C_Course_C_Ratio ic_C_Ratio it_C_Ratio so_C_Course_C_Ratio)
        | _ + 2, h => cases h
      | cls c => cases h
      | scr l => cases h),
    m_Ratio := (PySem.W.mg_of X G h_m_Ratio),
    mk_Ratio := ⟨mk1_mk_Ratio, f_Ratio_init, g_Ratio_init, mk2_mk_Ratio⟩,
    bi_Ratio_init_1 := (bndI_of (funD_mk (dvs := [V.int 1]) l_Ratio_init c_Ratio_init k_Ratio_init (by simp) dl_Ratio_init dd_Ratio_init (show Vals [V.int 1] [.int 1 dt0_Ratio_init] from (.cons ⟨_, rfl⟩ .nil))) 1 0 [] [.int 1] (by simp) (lits_cons rfl lits_nil) fun _ _ _ _ _ _ _ us its ws h1 h2 h3 => match us, its, ws, h1, h2, h3 with | [_, _], [_], [], _, _, _ => ⟨_, rfl, rfl⟩),
    F_as_ratio := (fun_mk (st := s_as_ratio) l_as_ratio c_as_ratio k_as_ratio),
    b_as_ratio := ((fun_mk (st := s_as_ratio) l_as_ratio c_as_ratio k_as_ratio).binds (ps := ["number"]) fun _ _ _ _ _ _ us hl => match us, hl with | [_], _ => rfl),
    bi_Ratio_init_2 := (bndI_of (funD_mk (dvs := [V.int 1]) l_Ratio_init c_Ratio_init k_Ratio_init (by simp) dl_Ratio_init dd_Ratio_init (show Vals [V.int 1] [.int 1 dt0_Ratio_init] from (.cons ⟨_, rfl⟩ .nil))) 2 1 [] [] (by simp) lits_nil fun _ _ _ _ _ _ _ us its ws h1 h2 h3 => match us, its, ws, h1, h2, h3 with | [_, _, _], [_], [], _, _, _ => ⟨_, rfl, rfl⟩),
    F_law_number := (fun_mk (st := s_law_number) l_law_number c_law_number k_law_number),
    b_law_number := ((fun_mk (st := s_law_number) l_law_number c_law_number k_law_number).binds (ps := ["_law_top", "_law_bottom"]) fun _ _ _ _ _ _ us hl => match us, hl with | [_, _], _ => rfl),
    n_range := (PySem.W.mg_none_of X G h_n_range),
    n_zip := (PySem.W.mg_none_of X G h_n_zip),
    F_law_binomials := (fun_mk (st := s_law_binomials) l_law_binomials c_law_binomials k_law_binomials),
    b_law_binomials := ((fun_mk (st := s_law_binomials) l_law_binomials c_law_binomials k_law_binomials).binds (ps := ["_law_many"]) fun _ _ _ _ _ _ us hl => match us, hl with | [_], _ => rfl),
    F_law_course := (fun_mk (st := s_law_course) l_law_course c_law_course k_law_course),
    b_law_course := ((fun_mk (st := s_law_course) l_law_course c_law_course k_law_course).binds (ps := ["_law_pot_here", "_law_most", "_law_degree_here"]) fun _ _ _ _ _ _ us hl => match us, hl with | [_, _, _], _ => rfl),
    F_law_worth := (fun_mk (st := s_law_worth) l_law_worth c_law_worth k_law_worth),
    b_law_worth := ((fun_mk (st := s_law_worth) l_law_worth c_law_worth k_law_worth).binds (ps := ["_law_own", "_law_whole_here"]) fun _ _ _ _ _ _ us hl => match us, hl with | [_, _], _ => rfl),
    F_Ratio_sign := (fun_mk (st := s_Ratio_sign) l_Ratio_sign c_Ratio_sign k_Ratio_sign),
    b_Ratio_sign := ((fun_mk (st := s_Ratio_sign) l_Ratio_sign c_Ratio_sign k_Ratio_sign).binds (ps := ["self"]) fun _ _ _ _ _ _ us hl => match us, hl with | [_], _ => rfl),
    F_Ratio_eq := (fun_mk (st := s_Ratio_eq) l_Ratio_eq c_Ratio_eq k_Ratio_eq),
    b_Ratio_eq := ((fun_mk (st := s_Ratio_eq) l_Ratio_eq c_Ratio_eq k_Ratio_eq).binds (ps := ["self", "other"]) fun _ _ _ _ _ _ us hl => match us, hl with | [_, _], _ => rfl),
    e_Ratio_eq := h_e_Ratio_eq,
    ef_Ratio_eq := h_ef_Ratio_eq,
    tp_Ratio := (fun d t h => by
      cases d with
      | non => cases h; exact tp_Ratio_NoneType
      | bl b => cases h; exact tp_Ratio_bool
      | int i => cases h; exact tp_Ratio_int
      | str z => cases h; exact tp_Ratio_str
      | lst l => cases h; exact tp_Ratio_list
      | tup l => cases h; exact tp_Ratio_tuple
      | obj c l => match c, h with
        | 0, h => cases h; exact tp_Ratio_obj_C_Ratio
        | 1, h => cases h; exact tp_Ratio_obj_C_Course
        | _ + 2, h => cases h
      | cls c => cases h
      | scr l => cases h),
    ne_Ratio_eq := h_ne_Ratio_eq,
    ob_Ratio := h_ob_Ratio,
    F_law_form := (fun_mk (st := s_law_form) l_law_form c_law_form k_law_form),
    b_law_form := ((fun_mk (st := s_law_form) l_law_form c_law_form k_law_form).binds (ps := ["_law_own"]) fun _ _ _ _ _ _ us hl => match us, hl with | [_], _ => rfl),
    m_law_form := (PySem.W.mg_of X G h_m_law_form),
    F_law_degree := (fun_mk (st := s_law_degree) l_law_degree c_law_degree k_law_degree),
    b_law_degree := ((fun_mk (st := s_law_degree) l_law_degree c_law_degree k_law_degree).binds (ps := ["_law_own"]) fun _ _ _ _ _ _ us hl => match us, hl with | [_], _ => rfl),
    F_Ratio_repr := (fun_mk (st := s_Ratio_repr) l_Ratio_repr c_Ratio_repr k_Ratio_repr),
    b_Ratio_repr := ((fun_mk (st := s_Ratio_repr) l_Ratio_repr c_Ratio_repr k_Ratio_repr).binds (ps := ["self"]) fun _ _ _ _ _ _ us hl => match us, hl with | [_], _ => rfl),
    s_Ratio_repr := h_s_Ratio_repr,
    sf_Ratio_repr := h_sf_Ratio_repr,
    m_as_ratio := (PySem.W.mg_of X G h_m_as_ratio),
    F_Ratio_add := (fun_mk (st := s_Ratio_add) l_Ratio_add c_Ratio_add k_Ratio_add),
    b_Ratio_add := ((fun_mk (st := s_Ratio_add) l_Ratio_add c_Ratio_add k_Ratio_add).binds (ps := ["self", "other"]) fun _ _ _ _ _ _ us hl => match us, hl with | [_, _], _ => rfl),
    F_Ratio_mul := (fun_mk (st := s_Ratio_mul) l_Ratio_mul c_Ratio_mul k_Ratio_mul),
    b_Ratio_mul := ((fun_mk (st := s_Ratio_mul) l_Ratio_mul c_Ratio_mul k_Ratio_mul).binds (ps := ["self", "other"]) fun _ _ _ _ _ _ us hl => match us, hl with | [_, _], _ => rfl),
    F_is_number := (fun_mk (st := s_is_number) l_is_number c_is_number k_is_number),
    b_is_number := ((fun_mk (st := s_is_number) l_is_number c_is_number k_is_number).binds (ps := ["value"]) fun _ _ _ _ _ _ us hl => match us, hl with | [_], _ => rfl),
    m_is_list := (PySem.W.mg_of X G h_m_is_list),
    m_is_number := (PySem.W.mg_of X G h_m_is_number),
    n_all := (PySem.W.mg_none_of X G h_n_all),
    F_are_numbers := (fun_mk (st := s_are_numbers) l_are_numbers c_are_numbers k_are_numbers),
    b_are_numbers := ((fun_mk (st := s_are_numbers) l_are_numbers c_are_numbers k_are_numbers).binds (ps := ["value", "many"]) fun _ _ _ _ _ _ us hl => match us, hl with | [_, _], _ => rfl),
    F_check_whole := (fun_mk (st := s_check_whole) l_check_whole c_check_whole k_check_whole),
    b_check_whole := ((fun_mk (st := s_check_whole) l_check_whole c_check_whole k_check_whole).binds (ps := ["whole"]) fun _ _ _ _ _ _ us hl => match us, hl with | [_], _ => rfl),
    o_Ratio_add := ⟨sf_C_Ratio, f_Ratio_add, g_Ratio_add, ⟨_, fr_Ratio_add, .inr ⟨_, rfl⟩⟩, ⟨_, i1_Ratio_add⟩, ⟨_, i2_Ratio_add⟩, is_C_Ratio⟩,
    o_Ratio_mul := ⟨sf_C_Ratio, f_Ratio_mul, g_Ratio_mul, ⟨_, fr_Ratio_mul, .inr ⟨_, rfl⟩⟩, ⟨_, i1_Ratio_mul⟩, ⟨_, i2_Ratio_mul⟩, is_C_Ratio⟩,
    F_worth := (fun_mk (st := s_worth) l_worth c_worth k_worth),
    b_worth := ((fun_mk (st := s_worth) l_worth c_worth k_worth).binds (ps := ["numbers", "whole"]) fun _ _ _ _ _ _ us hl => match us, hl with | [_, _], _ => rfl),
    pr_Ratio_sign := ⟨f_Ratio_sign, pg_Ratio_sign, pt_Ratio_sign, rs_Ratio_sign, pc_Ratio_sign⟩,
    F_trimmed := (fun_mk (st := s_trimmed) l_trimmed c_trimmed k_trimmed),
    b_trimmed := ((fun_mk (st := s_trimmed) l_trimmed c_trimmed k_trimmed).binds (ps := ["numbers"]) fun _ _ _ _ _ _ us hl => match us, hl with | [_], _ => rfl),
    n_enumerate := (PySem.W.mg_none_of X G h_n_enumerate),
    F_least := (fun_mk (st := s_least) l_least c_least k_least),
    b_least := ((fun_mk (st := s_least) l_least c_least k_least).binds (ps := ["parts"]) fun _ _ _ _ _ _ us hl => match us, hl with | [_], _ => rfl),
    mi_MOST_PARTS := ⟨_, PySem.W.mg_of X G h_mi_MOST_PARTS⟩,
    mi_MOST_NUMBERS := ⟨_, PySem.W.mg_of X G h_mi_MOST_NUMBERS⟩,
    m_are_numbers := (PySem.W.mg_of X G h_m_are_numbers),
    F_are_parts := (fun_mk (st := s_are_parts) l_are_parts c_are_parts k_are_parts),
    b_are_parts := ((fun_mk (st := s_are_parts) l_are_parts c_are_parts k_are_parts).binds (ps := ["value"]) fun _ _ _ _ _ _ us hl => match us, hl with | [_], _ => rfl),
    m_are_parts := (PySem.W.mg_of X G h_m_are_parts),
    hc_Course := ⟨cl1_C_Course, cl2_C_Course, cl3_C_Course, cl4_C_Course⟩,
    na_Course_parts := h_na_Course_parts,
    m_least := (PySem.W.mg_of X G h_m_least),
    m_trimmed := (PySem.W.mg_of X G h_m_trimmed),
    F_Course_init := (fun_mk (st := s_Course_init) l_Course_init c_Course_init k_Course_init),
    b_Course_init := ((fun_mk (st := s_Course_init) l_Course_init c_Course_init k_Course_init).binds (ps := ["self", "parts"]) fun _ _ _ _ _ _ us hl => match us, hl with | [_, _], _ => rfl),
    F_Course_period := (fun_mk (st := s_Course_period) l_Course_period c_Course_period k_Course_period),
    b_Course_period := ((fun_mk (st := s_Course_period) l_Course_period c_Course_period k_Course_period).binds (ps := ["self"]) fun _ _ _ _ _ _ us hl => match us, hl with | [_], _ => rfl),
    F_Course_degree := (fun_mk (st := s_Course_degree) l_Course_degree c_Course_degree k_Course_degree),
    b_Course_degree := ((fun_mk (st := s_Course_degree) l_Course_degree c_Course_degree k_Course_degree).binds (ps := ["self"]) fun _ _ _ _ _ _ us hl => match us, hl with | [_], _ => rfl),
    m_check_whole := (PySem.W.mg_of X G h_m_check_whole),
    m_worth := (PySem.W.mg_of X G h_m_worth),
    F_Course_at := (fun_mk (st := s_Course_at) l_Course_at c_Course_at k_Course_at),
    b_Course_at := ((fun_mk (st := s_Course_at) l_Course_at c_Course_at k_Course_at).binds (ps := ["self", "whole"]) fun _ _ _ _ _ _ us hl => match us, hl with | [_, _], _ => rfl),
    i_Course := (fun d t h => by
      cases d with
      | non => cases h; exact (kit_own ic_C_Course it_C_Course i_Course_NoneType)
      | bl b => cases h; exact (kit_own ic_C_Course it_C_Course i_Course_bool)
      | int i => cases h; exact (kit_own ic_C_Course it_C_Course i_Course_int)
      | str z => cases h; exact (kit_own ic_C_Course it_C_Course i_Course_str)
      | lst l => cases h; exact (kit_own ic_C_Course it_C_Course i_Course_list)
      | tup l => cases h; exact (kit_own ic_C_Course it_C_Course i_Course_tuple)
      | obj c l => match c, h with
        | 0, h => cases h; exact (kit_other ne_C_Ratio_C_Course ic_C_Course it_C_Course so_C_Ratio_C_Course)
        | 1, h => cases h; exact kit_self
        | _ + 2, h => cases h
      | cls c => cases h
      | scr l => cases h),
    m_Course := (PySem.W.mg_of X G h_m_Course),
    F_Course_eq := (fun_mk (st := s_Course_eq) l_Course_eq c_Course_eq k_Course_eq),
    b_Course_eq := ((fun_mk (st := s_Course_eq) l_Course_eq c_Course_eq k_Course_eq).binds (ps := ["self", "other"]) fun _ _ _ _ _ _ us hl => match us, hl with | [_, _], _ => rfl),
    F_summed := (fun_mk (st := s_summed) l_summed c_summed k_summed),
    b_summed := ((fun_mk (st := s_summed) l_summed c_summed k_summed).binds (ps := ["one", "two"]) fun _ _ _ _ _ _ us hl => match us, hl with | [_, _], _ => rfl),
    F_Ratio_rmul := (fun_mk (st := s_Ratio_rmul) l_Ratio_rmul c_Ratio_rmul k_Ratio_rmul),
    b_Ratio_rmul := ((fun_mk (st := s_Ratio_rmul) l_Ratio_rmul c_Ratio_rmul k_Ratio_rmul).binds (ps := ["self", "other"]) fun _ _ _ _ _ _ us hl => match us, hl with | [_, _], _ => rfl),
    r_Ratio_rmul := ⟨sf_C_Ratio, ⟨_, fb_Ratio_rmul⟩, f_Ratio_rmul, g_Ratio_rmul, si_C_Ratio⟩,
    F_multiplied := (fun_mk (st := s_multiplied) l_multiplied c_multiplied k_multiplied),
    b_multiplied := ((fun_mk (st := s_multiplied) l_multiplied c_multiplied k_multiplied).binds (ps := ["numbers", "number"]) fun _ _ _ _ _ _ us hl => match us, hl with | [_, _], _ => rfl),
    m_summed := (PySem.W.mg_of X G h_m_summed),
    m_multiplied := (PySem.W.mg_of X G h_m_multiplied),
    F_times_sum := (fun_mk (st := s_times_sum) l_times_sum c_times_sum k_times_sum),
    b_times_sum := ((fun_mk (st := s_times_sum) l_times_sum c_times_sum k_times_sum).binds (ps := ["numbers", "beside", "by"]) fun _ _ _ _ _ _ us hl => match us, hl with | [_, _, _], _ => rfl),
    F_Ratio_sub := (fun_mk (st := s_Ratio_sub) l_Ratio_sub c_Ratio_sub k_Ratio_sub),
    b_Ratio_sub := ((fun_mk (st := s_Ratio_sub) l_Ratio_sub c_Ratio_sub k_Ratio_sub).binds (ps := ["self", "other"]) fun _ _ _ _ _ _ us hl => match us, hl with | [_, _], _ => rfl),
    m_times_sum := (PySem.W.mg_of X G h_m_times_sum),
    o_Ratio_sub := ⟨sf_C_Ratio, f_Ratio_sub, g_Ratio_sub, ⟨_, fr_Ratio_sub, .inr ⟨_, rfl⟩⟩, ⟨_, i1_Ratio_sub⟩, ⟨_, i2_Ratio_sub⟩, is_C_Ratio⟩,
    F_counting := (fun_mk (st := s_counting) l_counting c_counting k_counting),
    b_counting := ((fun_mk (st := s_counting) l_counting c_counting k_counting).binds (ps := ["step", "first", "many"]) fun _ _ _ _ _ _ us hl => match us, hl with | [_, _, _], _ => rfl),
    F_made_of := (fun_mk (st := s_made_of) l_made_of c_made_of k_made_of),
    b_made_of := ((fun_mk (st := s_made_of) l_made_of c_made_of k_made_of).binds (ps := ["numbers", "polynomials"]) fun _ _ _ _ _ _ us hl => match us, hl with | [_, _], _ => rfl),
    F_differences_of := (fun_mk (st := s_differences_of) l_differences_of c_differences_of k_differences_of),
    b_differences_of := ((fun_mk (st := s_differences_of) l_differences_of c_differences_of k_differences_of).binds (ps := ["values"]) fun _ _ _ _ _ _ us hl => match us, hl with | [_], _ => rfl),
    m_is_count := (PySem.W.mg_of X G h_m_is_count),
    mi_MOST_GROWN := ⟨_, PySem.W.mg_of X G h_mi_MOST_GROWN⟩,
    mi_MOST_ROUNDS := ⟨_, PySem.W.mg_of X G h_mi_MOST_ROUNDS⟩,
    mk_Course := ⟨mk1_mk_Course, f_Course_init, g_Course_init, mk2_mk_Course⟩,
    bi_Course_init_1 := (bndI_fun 1 [] (fun_mk (st := s_Course_init) l_Course_init c_Course_init k_Course_init) (ps := ["self", "parts"]) fun _ _ _ _ _ _ us ws h1 h2 => match us, ws, h1, h2 with | [_, _], [], _, _ => rfl),
    m_made_of := (PySem.W.mg_of X G h_m_made_of),
    m_counting := (PySem.W.mg_of X G h_m_counting),
    m_differences_of := (PySem.W.mg_of X G h_m_differences_of),
    F_grown := (fun_mk (st := s_grown) l_grown c_grown k_grown),
    b_grown := ((fun_mk (st := s_grown) l_grown c_grown k_grown).binds (ps := ["period", "numbers"]) fun _ _ _ _ _ _ us hl => match us, hl with | [_, _], _ => rfl),
    m_law_number := (PySem.W.mg_of X G h_m_law_number),
    F_law_made := (fun_mk (st := s_law_made) l_law_made c_law_made k_law_made),
    b_law_made := ((fun_mk (st := s_law_made) l_law_made c_law_made k_law_made).binds (ps := ["_law_own"]) fun _ _ _ _ _ _ us hl => match us, hl with | [_], _ => rfl),
    n_repr := (PySem.W.mg_none_of X G h_n_repr),
    m_grown := (PySem.W.mg_of X G h_m_grown),
    e_Course_eq := h_e_Course_eq,
    ef_Course_eq := h_ef_Course_eq,
    tp_Course := (fun d t h => by
      cases d with
      | non => cases h; exact tp_Course_NoneType
      | bl b => cases h; exact tp_Course_bool
      | int i => cases h; exact tp_Course_int
      | str z => cases h; exact tp_Course_str
      | lst l => cases h; exact tp_Course_list
      | tup l => cases h; exact tp_Course_tuple
      | obj c l => match c, h with
        | 0, h => cases h; exact tp_Course_obj_C_Ratio
        | 1, h => cases h; exact tp_Course_obj_C_Course
        | _ + 2, h => cases h
      | cls c => cases h
      | scr l => cases h),
    ne_Course_eq := h_ne_Course_eq,
    ob_Course := h_ob_Course,
    pr_Course_period := ⟨f_Course_period, pg_Course_period, pt_Course_period, rs_Course_period, pc_Course_period⟩,
    pr_Course_degree := ⟨f_Course_degree, pg_Course_degree, pt_Course_degree, rs_Course_degree, pc_Course_degree⟩,
    t_Course_at := ⟨f_Course_at, g_Course_at, k_Course_at⟩,
    m_law_whole := (PySem.W.mg_of X G h_m_law_whole),
    m_law_binomials := (PySem.W.mg_of X G h_m_law_binomials),
    F_law_grown_right := (fun_mk (st := s_law_grown_right) l_law_grown_right c_law_grown_right k_law_grown_right),
    b_law_grown_right := ((fun_mk (st := s_law_grown_right) l_law_grown_right c_law_grown_right k_law_grown_right).binds (ps := ["_law_pot_here"]) fun _ _ _ _ _ _ us hl => match us, hl with | [_], _ => rfl),
    m_law_grown_right := (PySem.W.mg_of X G h_m_law_grown_right),
    m_law_course := (PySem.W.mg_of X G h_m_law_course),
    m_law_degree := (PySem.W.mg_of X G h_m_law_degree),
    m_law_worth := (PySem.W.mg_of X G h_m_law_worth),
    m_law_made := (PySem.W.mg_of X G h_m_law_made),
    F_law_right := (fun_mk (st := s_law_right) l_law_right c_law_right k_law_right),
    b_law_right := ((fun_mk (st := s_law_right) l_law_right c_law_right k_law_right).binds (ps := ["_law_pot_here"]) fun _ _ _ _ _ _ us hl => match us, hl with | [_], _ => rfl),
    m_law_right := (PySem.W.mg_of X G h_m_law_right),
    m_law_pot := (PySem.W.mg_of X G h_m_law_pot),
    F_law := (fun_mk (st := s_law) l_law c_law k_law),
    b_law := ((fun_mk (st := s_law) l_law c_law k_law).binds (ps := ["_law_script"]) fun _ _ _ _ _ _ us hl => match us, hl with | [_], _ => rfl) }
  exact ⟨M.d_law, TT K C_Ratio C_Course, rfl, fun s v => .of_eq rfl, fun base _ _ => ok_law M⟩
end My
namespace My
open PySem PySem.Spec PyProof.Rows L2 ClX Dl PyProof
/-! a course is found again from its worths -/
theorem rowAt_step {R : List (List Int)} {M : Nat} (hd : R.length ∣ M) (hM : 0 < M) (w : Int) (j : Nat) : rowAt R (((w % (M : Int)).toNat : Int) + (M : Int) * (j : Int)) = rowAt R w := by
  have h1 := Int.emod_nonneg w (show (M : Int) ≠ 0 by omega)
  have e : (((w % (M : Int)).toNat : Nat) : Int) = w % (M : Int) := by omega
  rw [e]
  apply rowAt_mod
  have d : (R.length : Int) ∣ (M : Int) := Int.natCast_dvd_natCast.mpr hd
  rw [Int.add_emod, Int.emod_eq_zero_of_dvd (Int.dvd_mul_of_dvd_left d), Int.add_zero, Int.emod_emod, Int.emod_emod_of_dvd w d]
theorem found {M S : Nat} {q : Int} {R : List (List Int)} {d : Nat} (hR : 0 < R.length) (o : Ok3 R 4) (hd : R.length ∣ M) (hS : d ≤ S) (hl : ∀ r, r ∈ FF R → r.length ≤ d) {vs : List Int} (hv : vs = (List.range (M * S)).map fun i : Nat => hw R (i : Int)) (K : Kg M S q vs) : FF (grR M S vs) = FF (scR (6 * (M : Int) * M * M) R) := by
  have hM := K.hp
  have pR : 0 < (scR (6 * (M : Int) * M * M) R).length := by rw [List.length_map]; exact hR
  refine (ff_iff K.pos pR).mpr fun w j => ?_
  rw [co_sc]
  unfold co
  rw [K.row]
  have m4 := K.m4
  have gl := gr_len M S vs (w % (M : Int)).toNat
  have hlt : (w % (M : Int)).toNat < M := by
    have h1 := Int.emod_nonneg w (show (M : Int) ≠ 0 by omega)
    have h2 := Int.emod_lt_of_pos w (show 0 < (M : Int) by omega)
    omega
  have rz : ∀ j, S ≤ j → cf (rowAt R w) j = 0 := fun j hj => by
    have e : co (FF R) w j = co R w j := co_ff hR w j
    unfold co at e
    rw [← e]
    have p : 0 < (FF R).length := (least_len (R := R.map trim) (by rw [List.length_map]; exact hR)).1
    exact cf_ge (Nat.le_trans (hl _ (rowAt_mem p w)) (by omega))
  have rl : (rowAt R w).length ≤ 4 := Nat.le_trans (o.len _ (rowAt_mem hR w)) (by decide)
  have v := vanish (p := (M : Int)) (l := (((w % (M : Int)).toNat : Nat) : Int)) (by omega) S m4 (fun j => cf (gr M S vs (w % (M : Int)).toNat) j - 6 * (M : Int) * M * M * cf (rowAt R w) j) (fun j hj => by
    rw [cf_ge (by omega), rz j hj]
    simp) (fun j hj => by
    have a := gr_at m4 vs (l := (w % (M : Int)).toNat) (j := j) (p := M) hj
    have hi := at_lt hlt hj
    have e1 : vs[(w % (M : Int)).toNat + M * j]?.getD 0 = hw R ((((w % (M : Int)).toNat + M * j : Nat)) : Int) := by
      rw [hv, List.getElem?_map, List.getElem?_range hi]
      rfl
    have e2 : ((((w % (M : Int)).toNat + M * j : Nat)) : Int) = (((w % (M : Int)).toNat : Nat) : Int) + (M : Int) * (j : Int) := by push_cast; rfl
    rw [e1, e2] at a
    unfold hw at a
    rw [rowAt_step hd hM, hor4 _ (by omega : (gr M S vs (w % (M : Int)).toNat).length ≤ 4), hor4 _ rl] at a
    generalize (((w % (M : Int)).toNat : Nat) : Int) + (M : Int) * (j : Int) = x at a ⊢
    grind)
  have := v j
  omega
/-! the last function -/
abbrev SR (l : List D) (s1 s2 s3 s4 s5 : Sl) : Es := [.own .pot l, s1, s2, s3, s4, s5]
def r1 : FS := sIf (fNot (fB (fCallP 0 G_law_grown_right fNil))) (sRet (fC (.bl false))) sNil
def r2 : FS := sSet 1 (fCallP 0 G_law_course (fCons (fC (.int 3)) (fCons (fC (.int 2)) fNil)))
def r3a : FE := fBin gM4 (fFun funLen (fCons (fIxN 1 (fC (.int 1))) fNil)) (fBin gAd (fC (.int 1)) (fCallP 0 G_law_draw (fCons (fC (.int 2)) fNil)))
def r3b : FE := fBin gAd (fBin gAd (fCall G_law_degree (gPos []) (fCons (fV 1) fNil) fNil) (fC (.int 1))) (fCallP 0 G_law_draw (fCons (fC (.int 2)) fNil))
def r3 : FS := sPar 2 3 (fCons r3a (fCons r3b fNil))
def r4 : FS := sSet 4 (fCall G_grown (gPos []) (fCons (fV 2) (fCons (fFr (fLc (fRg1 (fCons (fBin gM4 (fV 2) (fV 3)) fNil)) (gN 5) fYes (fCall G_law_worth (gPos []) (fCons (fV 1) (fCons (fV 5) fNil)) fNil) [5])) fNil)) fNil)
def r5 : FS := sRet (fAndV (fBin gE4 (fV 4) (fCall G_law_made (gPos []) (fCons (fV 1) fNil) fNil)) (fAndV (fBin gE4 (fProp 1 G_Course_period (fV 4)) (fFun funLen (fCons (fCall G_law_form (gPos []) (fCons (fV 1) fNil) fNil) fNil))) (fBin gE4 (fProp 1 G_Course_degree (fV 4)) (fCall G_law_degree (gPos []) (fCons (fV 1) fNil) fNil))))
theorem right_is : g_law_right = sSeq r1 (sSeq r2 (sSeq r3 (sSeq r4 r5))) := rfl
theorem z1 {l : List D} (P : Pot l) : ∃ l', r1 (SR l .un .un .un .un .un) = some (.nx (SR l' .un .un .un .un .un)) ∧ Pot l' := by
  obtain ⟨l1, e1, P1⟩ := p_grown_right P
  exact ⟨l1, sIf_f (not_f (fB_eq (callP_eq rfl e1))), P1⟩
theorem z2 {l : List D} (P : Pot l) : ∃ q R l', r2 (SR l .un .un .un .un .un) = some (.nx (SR l' (.val (ownD q R)) .un .un .un .un)) ∧ (0 < q ∧ Bd q 2) ∧ 1 ≤ R.length ∧ R.length ≤ 6 ∧ (∀ r, r ∈ R → Small r) ∧ Pot l' := by
  obtain ⟨q, R, l1, e1, hq, a1, b1, sm, P1⟩ := p_lcourse P (m := 3) (by decide) (by decide)
  refine ⟨q, R, l1, set_eq (callP_eq rfl e1), ?_, a1, b1, sm, P1⟩
  rcases hq with rfl | rfl | rfl
  · exact ⟨by decide, by unfold Bd; decide⟩
  · exact ⟨by decide, by unfold Bd; decide⟩
  · exact ⟨by decide, by unfold Bd; decide⟩
theorem deg_of {q : Int} {R : List (List Int)} (h1 : 1 ≤ R.length) (h2 : R.length ≤ 6) (sm : ∀ r, r ∈ R → Small r) : ∃ d : Nat, degO (FF R) = some (.int ((d : Int) - 1)) ∧ (∀ r, r ∈ FF R → r.length ≤ d) ∧ d ≤ 3 := by
  have p : 0 < (FF R).length := (least_len (R := R.map trim) (by rw [List.length_map]; omega)).1
  obtain ⟨d, e, hl, r, hr, hd⟩ := deg_spec p
  refine ⟨d, e, hl, ?_⟩
  have h1 := least_mem (R := R.map trim) (by rw [List.length_map]; omega) hr
  obtain ⟨s, hs, rfl⟩ := List.mem_map.mp h1
  have a := trim_len s
  have := (sm s hs).1
  omega
theorem z3 {q : Int} {R : List (List Int)} {l : List D} (P : Pot l) (h1 : 1 ≤ R.length) (h2 : R.length ≤ 6) {d : Nat} (hd : degO (FF R) = some (.int ((d : Int) - 1))) (hd3 : d ≤ 3) : ∃ (M S : Nat) (l' : List D), r3 (SR l (.val (ownD q R)) .un .un .un .un) = some (.nx (SR l' (.val (ownD q R)) (.val (.int (M : Int))) (.val (.int (S : Int))) .un .un)) ∧ R.length ∣ M ∧ 0 < M ∧ M ≤ 12 ∧ d ≤ S ∧ S ≤ 4 ∧ Pot l' := by
  obtain ⟨n1, l1, e1, a1, b1, P1⟩ := p_draw (n := 2) P (by decide) (bd_of 64 (by decide) (by decide) (by decide))
  obtain ⟨n2, l2, e2, a2, b2, P2⟩ := p_draw (n := 2) P1 (by decide) (bd_of 64 (by decide) (by decide) (by decide))
  have hM : R.length * (1 + n1.toNat) ≤ 12 := by
    have : R.length * (1 + n1.toNat) ≤ 6 * 2 := Nat.mul_le_mul h2 (by omega)
    omega
  refine ⟨R.length * (1 + n1.toNat), d + n2.toNat, l2, ?_, Nat.dvd_mul_right _ _, Nat.mul_pos (by omega) (by omega), hM, by omega, by omega, P2⟩
  have x0 : fFun funLen (fCons (fIxN 1 (fC (.int 1))) fNil) (SR l (.val (ownD q R)) .un .un .un .un) = some (.int R.length, SR l (.val (ownD q R)) .un .un .un .un) := fun_eq (ixN_val rfl rfl (ix_own1 q R)) (by simp [funLen])
  have x1 : fBin gAd (fC (.int 1)) (fCallP 0 G_law_draw (fCons (fC (.int 2)) fNil)) (SR l (.val (ownD q R)) .un .un .un .un) = some (.int (1 + n1), SR l1 (.val (ownD q R)) .un .un .un .un) := bin_eq rfl (callP_eq rfl e1) (gOr_l rfl)
  have bl : Bd (R.length : Int) 4 := by unfold Bd; omega
  have bn : Bd (1 + n1) 4 := by unfold Bd; omega
  have c1 : r3a (SR l (.val (ownD q R)) .un .un .un .un) = some (.int ((R.length : Int) * (1 + n1)), SR l1 (.val (ownD q R)) .un .un .un .un) := bin_eq x0 x1 (mul4_int (bl.mono (by decide)) (bn.mono (by decide)))
  have pd := p_ldegree (q := q) (rows := R) (by omega) (by omega)
  have pd2 : G_law_degree [ownD q R] = some (.int ((d : Int) - 1)) := pd.trans hd
  have x2 : fCall G_law_degree (gPos []) (fCons (fV 1) fNil) fNil (SR l1 (.val (ownD q R)) .un .un .un .un) = some (.int ((d : Int) - 1), SR l1 (.val (ownD q R)) .un .un .un .un) := call1 rfl pd2
  have g1 : gAd (.int ((d : Int) - 1)) (.int 1) = some (.int ((d : Int) - 1 + 1)) := gOr_l rfl
  have g2 : gAd (.int ((d : Int) - 1 + 1)) (.int n2) = some (.int ((d : Int) - 1 + 1 + n2)) := gOr_l rfl
  have c2 : r3b (SR l1 (.val (ownD q R)) .un .un .un .un) = some (.int ((d : Int) - 1 + 1 + n2), SR l2 (.val (ownD q R)) .un .un .un .un) := bin_eq (bin_eq x2 rfl g1) (callP_eq rfl e2) g2
  have en1 : ((R.length * (1 + n1.toNat) : Nat) : Int) = (R.length : Int) * (1 + n1) := by
    push_cast
    rw [Int.toNat_of_nonneg a1]
  have en2 : ((d + n2.toNat : Nat) : Int) = (d : Int) - 1 + 1 + n2 := by omega
  rw [en1, en2]
  exact par_eq (cons2 c1 c2)
theorem z4 {q : Int} {R : List (List Int)} {M S : Nat} (hq : 0 < q ∧ Bd q 2) (o : Ok3 R 4) (K : Kg M S q ((List.range (M * S)).map fun i : Nat => hw R (i : Int))) {l : List D} : r4 (SR l (.val (ownD q R)) (.val (.int (M : Int))) (.val (.int (S : Int))) .un .un) = some (.nx (SR l (.val (ownD q R)) (.val (.int (M : Int))) (.val (.int (S : Int))) (.val (CG M S q ((List.range (M * S)).map fun i : Nat => hw R (i : Int)))) .un)) := by
  have hpm : M * S ≤ 48 := Nat.mul_le_mul K.p12 K.m4
  have g : gM4 (.int (M : Int)) (.int (S : Int)) = some (.int ((M * S : Nat) : Int)) := by
    have m4 := K.m4
    have := mul4_int (i := (M : Int)) (j := (S : Int)) (K.bp.mono (by decide)) (by have : Bd (S : Int) 4 := by unfold Bd; omega
                                                                                   exact this.mono (by decide))
    rw [this]
    push_cast
    rfl
  have a : fCons (fBin gM4 (fV 2) (fV 3)) fNil (SR l (.val (ownD q R)) (.val (.int (M : Int))) (.val (.int (S : Int))) .un .un) = some ([.int ((M * S : Nat) : Int)], SR l (.val (ownD q R)) (.val (.int (M : Int))) (.val (.int (S : Int))) .un .un) := cons1 (bin_eq rfl rfl g)
  have rg := rg1_int ((M * S : Nat) : Int) (by omega) (by omega) a
  rw [Int.toNat_natCast] at rg
  have ei : intsD 0 (M * S) = (List.range (M * S)).map fun k : Nat => D.int (k : Int) := by
    unfold intsD
    apply List.map_congr_left
    intro a _
    simp
  rw [ei] at rg
  have mm : ∀ k, k ∈ List.range (M * S) → (fun x : D => G_law_worth [ownD q R, x]) (D.int ((k : Nat) : Int)) = some (My.mk q (hw R (k : Int))) := fun k hk => by
    have hk := List.mem_range.mp hk
    have bw : Bd (k : Int) 7 := by unfold Bd; omega
    exact p_lworth2 hq.1 (hq.2.mono (by decide)) (bw.mono (by decide)) o.pos (fun r hr => ⟨Nat.le_trans (o.len r hr) (by decide), fun t ht => (o.bd r hr t ht).mono (by decide)⟩)
  have lc := flc (i := 5) (fe := fCall G_law_worth (gPos []) (fCons (fV 1) (fCons (fV 5) fNil)) fNil) (h := fun x : D => G_law_worth [ownD q R, x]) rg rfl (fun x hx => by
    obtain ⟨k, hk, rfl⟩ := List.mem_map.mp hx
    have e := mm k hk
    dsimp only at e
    rw [e]
    exact call2 rfl rfl e) (by unfold big; rw [List.length_map, List.length_range]; omega)
  rw [mapO_map mm, Option.map_some] at lc
  have em : (List.range (M * S)).map (fun k : Nat => My.mk q (hw R (k : Int))) = ((List.range (M * S)).map fun i : Nat => hw R (i : Int)).map (My.mk q) := by rw [List.map_map]; rfl
  rw [em] at lc
  exact set_eq (call2 (fa := fV 2) rfl (fr_eq lc) (K.grown (.inl rfl) (row_nums q _)))
theorem deg_sc {c : Int} (A : List (List Int)) : degO (scR c A) = degO A := by
  unfold degO
  rw [List.map_map]
  congr 2
  apply List.map_congr_left
  intro r _
  simp
theorem z5 {q : Int} {R : List (List Int)} {M S : Nat} {vs : List Int} {d : Nat} (hq : 0 < q ∧ Bd q 2) (h1 : 1 ≤ R.length) (h2 : R.length ≤ 6) (sm : ∀ r, r ∈ R → Small r) (hd : degO (FF R) = some (.int ((d : Int) - 1))) (K : Kg M S q vs) (e : FF (grR M S vs) = FF (scR (6 * (M : Int) * M * M) R)) {s2 s3 s5 : Sl} {l : List D} : r5 (SR l (.val (ownD q R)) s2 s3 (.val (CG M S q vs)) s5) = some (.rt (.bl true) (SR l (.val (ownD q R)) s2 s3 (.val (CG M S q vs)) s5)) := by
  have c0 : (6 * (M : Int) * M * M) ≠ 0 := Int.ne_of_gt K.hc
  have es : FF (scR (6 * (M : Int) * M * M) R) = scR (6 * (M : Int) * M * M) (FF R) := ff_sc c0 (by omega)
  have made := p_made hq.1 (hq.2.mono (by decide)) h1 (by omega) (fun r hr => by have := (sm r hr).1; omega)
  rw [crs_sc hq.1 K.hc (by omega)] at made
  have g1 := gE4_crs K.hQ (FF (grR M S vs)) (FF (scR (6 * (M : Int) * M * M) R))
  rw [decide_eq_true e] at g1
  have a1 : fCall G_law_made (gPos []) (fCons (fV 1) fNil) fNil (SR l (.val (ownD q R)) s2 s3 (.val (CG M S q vs)) s5) = some (crs (QQ (M : Int) q) (FF (scR (6 * (M : Int) * M * M) R)), SR l (.val (ownD q R)) s2 s3 (.val (CG M S q vs)) s5) := call1 rfl made
  have c1 : fBin gE4 (fV 4) (fCall G_law_made (gPos []) (fCons (fV 1) fNil) fNil) (SR l (.val (ownD q R)) s2 s3 (.val (CG M S q vs)) s5) = some (.bl true, SR l (.val (ownD q R)) s2 s3 (.val (CG M S q vs)) s5) := bin_eq rfl a1 g1
  have a2 : fProp 1 G_Course_period (fV 4) (SR l (.val (ownD q R)) s2 s3 (.val (CG M S q vs)) s5) = some (.int (FF (grR M S vs)).length, SR l (.val (ownD q R)) s2 s3 (.val (CG M S q vs)) s5) := prop_eq rfl (p_period _ _)
  have pf := p_form (q := q) (rows := R) (by omega) (by omega)
  have a3 : fFun funLen (fCons (fCall G_law_form (gPos []) (fCons (fV 1) fNil) fNil) fNil) (SR l (.val (ownD q R)) s2 s3 (.val (CG M S q vs)) s5) = some (.int (FF R).length, SR l (.val (ownD q R)) s2 s3 (.val (CG M S q vs)) s5) := fun_eq (call1 rfl pf) (by simp [funLen])
  have el : (FF (grR M S vs)).length = (FF R).length := by rw [e, es, List.length_map]
  have g2 := gE4_int ((FF (grR M S vs)).length : Int) ((FF R).length : Int)
  rw [decide_eq_true (by rw [el])] at g2
  have c2 := bin_eq a2 a3 g2
  have ll : (FF (grR M S vs)).length ≤ 1000 := by
    rw [el]
    have := ff_dvd (A := R) (by omega)
    have := Nat.le_of_dvd (by omega) this
    omega
  have pd := p_degree (QQ (M : Int) q) (FF (grR M S vs)) ll
  have ed : degO (FF (grR M S vs)) = some (.int ((d : Int) - 1)) := by rw [e, es, deg_sc, hd]
  rw [ed] at pd
  have a4 : fProp 1 G_Course_degree (fV 4) (SR l (.val (ownD q R)) s2 s3 (.val (CG M S q vs)) s5) = some (.int ((d : Int) - 1), SR l (.val (ownD q R)) s2 s3 (.val (CG M S q vs)) s5) := prop_eq rfl pd
  have pd2 : G_law_degree [ownD q R] = some (.int ((d : Int) - 1)) := (p_ldegree (q := q) (rows := R) (by omega) (by omega)).trans hd
  have a5 : fCall G_law_degree (gPos []) (fCons (fV 1) fNil) fNil (SR l (.val (ownD q R)) s2 s3 (.val (CG M S q vs)) s5) = some (.int ((d : Int) - 1), SR l (.val (ownD q R)) s2 s3 (.val (CG M S q vs)) s5) := call1 rfl pd2
  have g3 := gE4_int ((d : Int) - 1) ((d : Int) - 1)
  rw [decide_eq_true rfl] at g3
  have c3 := bin_eq a4 a5 g3
  rw [r5, sRet, and_t c1 (and_t c2 c3)]
  rfl
theorem p_right {l : List D} (P : Pot l) : ∃ l', G_law_right l [] = some (.bl true, l') := by
  obtain ⟨l1, e1, P1⟩ := z1 P
  obtain ⟨q, R, l2, e2, hq, a1, b1, sm, P2⟩ := z2 P1
  obtain ⟨d, hd, hl, d3⟩ := deg_of (q := q) a1 b1 sm
  obtain ⟨M, S, l3, e3, dv, hM, M12, dS, S4, P3⟩ := z3 (q := q) P2 a1 b1 hd d3
  have o : Ok3 R 4 := ⟨by omega, by omega, fun r hr => (sm r hr).1, fun r hr t ht => by
    have := (sm r hr).2 t ht
    unfold Bd; omega⟩
  have hpm : M * S ≤ 48 := Nat.mul_le_mul M12 S4
  have K : Kg M S q ((List.range (M * S)).map fun i : Nat => hw R (i : Int)) := ⟨hM, M12, S4, hq.1, hq.2, by simp, fun t ht => by
    obtain ⟨k, hk, rfl⟩ := List.mem_map.mp ht
    have hk := List.mem_range.mp hk
    have bk : Bd (k : Int) 6 := by unfold Bd; omega
    exact (hw_bd o bk).mono (by decide)⟩
  have e4 := z4 (l := l3) hq o K
  have ef := found (by omega) o dv dS hl rfl K
  have e5 := z5 (l := l3) hq a1 b1 sm hd K ef (s2 := .val (.int (M : Int))) (s3 := .val (.int (S : Int))) (s5 := .un)
  refine ⟨l3, ?_⟩
  show (g_law_right (SR l .un .un .un .un .un)).bind endP = _
  rw [right_is, seq_nx e1, seq_nx e2, seq_nx e3, seq_nx e4, e5]
  rfl
theorem pure (ns : List Int) (h : ns.length ≤ 63) : G_law [.scr ns] = some (.bl true) := by
  obtain ⟨l, e, P⟩ := p_pot ns
  obtain ⟨l', e2⟩ := p_right P
  have f : fCallF G_law_pot (fCons (fV 0) (fCons (fC (.int 0)) fNil)) [.val (.scr ns)] = some (l, [.val (.scr ns)]) := by
    rw [fCallF, cons2 rfl rfl, Option.bind_some]
    dsimp only
    rw [e]
    rfl
  have f2 : fCallPF G_law_right (fCallF G_law_pot (fCons (fV 0) (fCons (fC (.int 0)) fNil))) [.val (.scr ns)] = some (.bl true, [.val (.scr ns)]) := by
    rw [fCallPF, f, Option.bind_some]
    dsimp only
    rw [e2]
    rfl
  exact out1 (d := some (.bl true)) f2
end My
open PySem PySem.W PyProof.Rows
set_option maxRecDepth 100000 in
set_option maxHeartbeats 0 in
theorem PySem.Challenge.cw_soughtrows_k43_whole_courses_through_wor_holds : PySem.Challenge.rw_soughtrows_k43_whole_courses_through_wor.Holds := by
  w_on; o_law; k_head; (case hw => w_witness2)
  k_fill
  refine Dl.walk_G (l := PySem.Challenge.rw_soughtrows_k43_whole_courses_through_wor) (n := _) (k := 13) (G := My.G_law) (x := "_law_script") rfl (by decide) rfl ⟨rfl, by decide, by decide⟩ rfl (fun w h Y => PySem.W.kIn_of Y) ?F ?pure
  case pure => exact My.pure
  case F =>
    intro w mg fa h KX G hmg
    refine' My.all_mk KX G hmg ?h_n_max ?h_n_len ?h_n_abs ?h_n_sum ?h_n_divmod ?h_m_law_draw ?h_m_law_pick ?h_n_isinstance ?h_n_int ?h_n_bool ?h_m_is_integer ?h_n_list ?h_n_tuple ?h_m_gcd ?h_m_Ratio ?h_n_range ?h_n_zip ?h_m_law_form ?h_m_as_ratio ?h_m_is_list ?h_m_is_number ?h_n_all ?h_n_enumerate ?h_m_are_numbers ?h_m_are_parts ?h_m_least ?h_m_trimmed ?h_m_check_whole ?h_m_worth ?h_m_Course ?h_m_summed ?h_m_multiplied ?h_m_times_sum ?h_m_is_count ?h_m_made_of ?h_m_counting ?h_m_differences_of ?h_m_law_number ?h_n_repr ?h_m_grown ?h_m_law_whole ?h_m_law_binomials ?h_m_law_grown_right ?h_m_law_course ?h_m_law_degree ?h_m_law_worth ?h_m_law_made ?h_m_law_right ?h_m_law_pot ?h_mi_MOST_PARTS ?h_mi_MOST_NUMBERS ?h_mi_MOST_GROWN ?h_mi_MOST_ROUNDS ?h_law ?mk1_mk_Ratio ?f_Ratio_init ?g_Ratio_init ?mk2_mk_Ratio ?f_Ratio_sign ?pg_Ratio_sign ?pt_Ratio_sign ?pc_Ratio_sign ?mk1_mk_Course ?f_Course_init ?g_Course_init ?mk2_mk_Course ?f_Course_period ?pg_Course_period ?pt_Course_period ?pc_Course_period ?f_Course_degree ?pg_Course_degree ?pt_Course_degree ?pc_Course_degree ?f_Course_at ?g_Course_at ?ca_ca_C_Ratio ?ca_cn ?ca_ct ?ca_cm_C_Ratio ?cl1_C_Ratio ?cl2_C_Ratio ?cl3_C_Ratio ?cl4_C_Ratio ?ca_ca_C_Course ?ca_cm_C_Course ?cl1_C_Course ?cl2_C_Course ?cl3_C_Course ?cl4_C_Course ?i_int_obj_C_Ratio ?i_int_obj_C_Course ?i_bool_obj_C_Ratio ?i_bool_obj_C_Course ?i_list_obj_C_Ratio ?i_list_obj_C_Course ?i_tuple_obj_C_Ratio ?i_tuple_obj_C_Course ?h_na_Ratio_top ?h_na_Ratio_bottom ?ic_C_Ratio ?it_C_Ratio ?i_Ratio_NoneType ?i_Ratio_bool ?i_Ratio_int ?i_Ratio_str ?i_Ratio_list ?i_Ratio_tuple ?ne_C_Course_C_Ratio ?so_C_Course_C_Ratio ?h_e_Ratio_eq ?h_ef_Ratio_eq ?tp_Ratio_NoneType ?tp_Ratio_bool ?tp_Ratio_int ?tp_Ratio_str ?tp_Ratio_list ?tp_Ratio_tuple ?tp_Ratio_obj_C_Ratio ?tp_Ratio_obj_C_Course ?h_ne_Ratio_eq ?h_ob_Ratio ?h_s_Ratio_repr ?h_sf_Ratio_repr ?sf_C_Ratio ?f_Ratio_add ?g_Ratio_add ?fr_Ratio_add ?i1_Ratio_add ?i2_Ratio_add ?is_C_Ratio ?f_Ratio_mul ?g_Ratio_mul ?fr_Ratio_mul ?i1_Ratio_mul ?i2_Ratio_mul ?h_na_Course_parts ?ic_C_Course ?it_C_Course ?i_Course_NoneType ?i_Course_bool ?i_Course_int ?i_Course_str ?i_Course_list ?i_Course_tuple ?ne_C_Ratio_C_Course ?so_C_Ratio_C_Course ?fb_Ratio_rmul ?f_Ratio_rmul ?g_Ratio_rmul ?si_C_Ratio ?f_Ratio_sub ?g_Ratio_sub ?fr_Ratio_sub ?i1_Ratio_sub ?i2_Ratio_sub ?h_e_Course_eq ?h_ef_Course_eq ?tp_Course_NoneType ?tp_Course_bool ?tp_Course_int ?tp_Course_str ?tp_Course_list ?tp_Course_tuple ?tp_Course_obj_C_Ratio ?tp_Course_obj_C_Course ?h_ne_Course_eq ?h_ob_Course ?l_law_pot ?c_law_pot ?k_law_pot ?l_law_draw ?c_law_draw ?k_law_draw ?l_law_pick ?c_law_pick ?k_law_pick ?l_law_whole ?c_law_whole ?k_law_whole ?l_is_integer ?c_is_integer ?k_is_integer ?l_is_count ?c_is_count ?k_is_count ?l_is_list ?c_is_list ?k_is_list ?l_Ratio_init ?c_Ratio_init ?k_Ratio_init ?dl_Ratio_init ?dd_Ratio_init ?l_as_ratio ?c_as_ratio ?k_as_ratio ?l_law_number ?c_law_number ?k_law_number ?l_law_binomials ?c_law_binomials ?k_law_binomials ?l_law_course ?c_law_course ?k_law_course ?l_law_worth ?c_law_worth ?k_law_worth ?l_Ratio_sign ?c_Ratio_sign ?k_Ratio_sign ?l_Ratio_eq ?c_Ratio_eq ?k_Ratio_eq ?l_law_form ?c_law_form ?k_law_form ?l_law_degree ?c_law_degree ?k_law_degree ?l_Ratio_repr ?c_Ratio_repr ?k_Ratio_repr ?l_Ratio_add ?c_Ratio_add ?k_Ratio_add ?l_Ratio_mul ?c_Ratio_mul ?k_Ratio_mul ?l_is_number ?c_is_number ?k_is_number ?l_are_numbers ?c_are_numbers ?k_are_numbers ?l_check_whole ?c_check_whole ?k_check_whole ?l_worth ?c_worth ?k_worth ?l_trimmed ?c_trimmed ?k_trimmed ?l_least ?c_least ?k_least ?l_are_parts ?c_are_parts ?k_are_parts ?l_Course_init ?c_Course_init ?k_Course_init ?l_Course_period ?c_Course_period ?k_Course_period ?l_Course_degree ?c_Course_degree ?k_Course_degree ?l_Course_at ?c_Course_at ?k_Course_at ?l_Course_eq ?c_Course_eq ?k_Course_eq ?l_summed ?c_summed ?k_summed ?l_Ratio_rmul ?c_Ratio_rmul ?k_Ratio_rmul ?l_multiplied ?c_multiplied ?k_multiplied ?l_times_sum ?c_times_sum ?k_times_sum ?l_Ratio_sub ?c_Ratio_sub ?k_Ratio_sub ?l_counting ?c_counting ?k_counting ?l_made_of ?c_made_of ?k_made_of ?l_differences_of ?c_differences_of ?k_differences_of ?l_grown ?c_grown ?k_grown ?l_law_made ?c_law_made ?k_law_made ?l_law_grown_right ?c_law_grown_right ?k_law_grown_right ?l_law_right ?c_law_right ?k_law_right ?l_law ?c_law ?k_law
    (case h_n_max => k_is)
    (case h_n_len => k_is)
    (case h_n_abs => k_is)
    (case h_n_sum => k_is)
    (case h_n_divmod => k_is)
    (case h_m_law_draw => k_is)
    (case h_m_law_pick => k_is)
    (case h_n_isinstance => k_is)
    (case h_n_int => k_is)
    (case h_n_bool => k_is)
    (case h_m_is_integer => k_is)
    (case h_n_list => k_is)
    (case h_n_tuple => k_is)
    (case h_m_gcd => k_is)
    (case h_m_Ratio => k_is)
    (case h_n_range => k_is)
    (case h_n_zip => k_is)
    (case h_m_law_form => k_is)
    (case h_m_as_ratio => k_is)
    (case h_m_is_list => k_is)
    (case h_m_is_number => k_is)
    (case h_n_all => k_is)
    (case h_n_enumerate => k_is)
    (case h_m_are_numbers => k_is)
    (case h_m_are_parts => k_is)
    (case h_m_least => k_is)
    (case h_m_trimmed => k_is)
    (case h_m_check_whole => k_is)
    (case h_m_worth => k_is)
    (case h_m_Course => k_is)
    (case h_m_summed => k_is)
    (case h_m_multiplied => k_is)
    (case h_m_times_sum => k_is)
    (case h_m_is_count => k_is)
    (case h_m_made_of => k_is)
    (case h_m_counting => k_is)
    (case h_m_differences_of => k_is)
    (case h_m_law_number => k_is)
    (case h_n_repr => k_is)
    (case h_m_grown => k_is)
    (case h_m_law_whole => k_is)
    (case h_m_law_binomials => k_is)
    (case h_m_law_grown_right => k_is)
    (case h_m_law_course => k_is)
    (case h_m_law_degree => k_is)
    (case h_m_law_worth => k_is)
    (case h_m_law_made => k_is)
    (case h_m_law_right => k_is)
    (case h_m_law_pot => k_is)
    (case h_mi_MOST_PARTS => k_is)
    (case h_mi_MOST_NUMBERS => k_is)
    (case h_mi_MOST_GROWN => k_is)
    (case h_mi_MOST_ROUNDS => k_is)
    (case h_law => k_is)
    (case mk1_mk_Ratio => k_is)
    (case f_Ratio_init => k_is)
    (case g_Ratio_init => k_is)
    (case mk2_mk_Ratio => k_is)
    (case f_Ratio_sign => k_is)
    (case pg_Ratio_sign => k_is)
    (case pt_Ratio_sign => k_is)
    (case pc_Ratio_sign => k_is)
    (case mk1_mk_Course => k_is)
    (case f_Course_init => k_is)
    (case g_Course_init => k_is)
    (case mk2_mk_Course => k_is)
    (case f_Course_period => k_is)
    (case pg_Course_period => k_is)
    (case pt_Course_period => k_is)
    (case pc_Course_period => k_is)
    (case f_Course_degree => k_is)
    (case pg_Course_degree => k_is)
    (case pt_Course_degree => k_is)
    (case pc_Course_degree => k_is)
    (case f_Course_at => k_is)
    (case g_Course_at => k_is)
    (case ca_ca_C_Ratio => k_is)
    (case ca_cn => k_is)
    (case ca_ct => k_is)
    (case ca_cm_C_Ratio => k_is)
    (case cl1_C_Ratio => k_is)
    (case cl2_C_Ratio => k_is)
    (case cl3_C_Ratio => k_is)
    (case cl4_C_Ratio => k_is)
    (case ca_ca_C_Course => k_is)
    (case ca_cm_C_Course => k_is)
    (case cl1_C_Course => k_is)
    (case cl2_C_Course => k_is)
    (case cl3_C_Course => k_is)
    (case cl4_C_Course => k_is)
    (case i_int_obj_C_Ratio => k_is)
    (case i_int_obj_C_Course => k_is)
    (case i_bool_obj_C_Ratio => k_is)
    (case i_bool_obj_C_Course => k_is)
    (case i_list_obj_C_Ratio => k_is)
    (case i_list_obj_C_Course => k_is)
    (case i_tuple_obj_C_Ratio => k_is)
    (case i_tuple_obj_C_Course => k_is)
    (case h_na_Ratio_top => k_is)
    (case h_na_Ratio_bottom => k_is)
    (case ic_C_Ratio => k_is)
    (case it_C_Ratio => k_is)
    (case i_Ratio_NoneType => k_is)
    (case i_Ratio_bool => k_is)
    (case i_Ratio_int => k_is)
    (case i_Ratio_str => k_is)
    (case i_Ratio_list => k_is)
    (case i_Ratio_tuple => k_is)
    (case ne_C_Course_C_Ratio => decide +kernel)
    (case so_C_Course_C_Ratio => k_is)
    (case h_e_Ratio_eq => k_is)
    (case h_ef_Ratio_eq => k_is)
    (case tp_Ratio_NoneType => k_is)
    (case tp_Ratio_bool => k_is)
    (case tp_Ratio_int => k_is)
    (case tp_Ratio_str => k_is)
    (case tp_Ratio_list => k_is)
    (case tp_Ratio_tuple => k_is)
    (case tp_Ratio_obj_C_Ratio => k_is)
    (case tp_Ratio_obj_C_Course => k_is)
    (case h_ne_Ratio_eq => k_is)
    (case h_ob_Ratio => k_is)
    (case h_s_Ratio_repr => k_is)
    (case h_sf_Ratio_repr => k_is)
    (case sf_C_Ratio => k_is)
    (case f_Ratio_add => k_is)
    (case g_Ratio_add => k_is)
    (case fr_Ratio_add => k_is)
    (case i1_Ratio_add => k_is)
    (case i2_Ratio_add => k_is)
    (case is_C_Ratio => k_is)
    (case f_Ratio_mul => k_is)
    (case g_Ratio_mul => k_is)
    (case fr_Ratio_mul => k_is)
    (case i1_Ratio_mul => k_is)
    (case i2_Ratio_mul => k_is)
    (case h_na_Course_parts => k_is)
    (case ic_C_Course => k_is)
    (case it_C_Course => k_is)
    (case i_Course_NoneType => k_is)
    (case i_Course_bool => k_is)
    (case i_Course_int => k_is)
    (case i_Course_str => k_is)
    (case i_Course_list => k_is)
    (case i_Course_tuple => k_is)
    (case ne_C_Ratio_C_Course => decide +kernel)
    (case so_C_Ratio_C_Course => k_is)
    (case fb_Ratio_rmul => k_is)
    (case f_Ratio_rmul => k_is)
    (case g_Ratio_rmul => k_is)
    (case si_C_Ratio => k_is)
    (case f_Ratio_sub => k_is)
    (case g_Ratio_sub => k_is)
    (case fr_Ratio_sub => k_is)
    (case i1_Ratio_sub => k_is)
    (case i2_Ratio_sub => k_is)
    (case h_e_Course_eq => k_is)
    (case h_ef_Course_eq => k_is)
    (case tp_Course_NoneType => k_is)
    (case tp_Course_bool => k_is)
    (case tp_Course_int => k_is)
    (case tp_Course_str => k_is)
    (case tp_Course_list => k_is)
    (case tp_Course_tuple => k_is)
    (case tp_Course_obj_C_Ratio => k_is)
    (case tp_Course_obj_C_Course => k_is)
    (case h_ne_Course_eq => k_is)
    (case h_ob_Course => k_is)
    (case l_law_pot => k_is)
    (case c_law_pot => k_is)
    (case k_law_pot => k_is)
    (case l_law_draw => k_is)
    (case c_law_draw => k_is)
    (case k_law_draw => k_is)
    (case l_law_pick => k_is)
    (case c_law_pick => k_is)
    (case k_law_pick => k_is)
    (case l_law_whole => k_is)
    (case c_law_whole => k_is)
    (case k_law_whole => k_is)
    (case l_is_integer => k_is)
    (case c_is_integer => k_is)
    (case k_is_integer => k_is)
    (case l_is_count => k_is)
    (case c_is_count => k_is)
    (case k_is_count => k_is)
    (case l_is_list => k_is)
    (case c_is_list => k_is)
    (case k_is_list => k_is)
    (case l_Ratio_init => k_is)
    (case c_Ratio_init => k_is)
    (case k_Ratio_init => k_is)
    (case dl_Ratio_init => k_is)
    (case dd_Ratio_init => exact rfl)
    (case l_as_ratio => k_is)
    (case c_as_ratio => k_is)
    (case k_as_ratio => k_is)
    (case l_law_number => k_is)
    (case c_law_number => k_is)
    (case k_law_number => k_is)
    (case l_law_binomials => k_is)
    (case c_law_binomials => k_is)
    (case k_law_binomials => k_is)
    (case l_law_course => k_is)
    (case c_law_course => k_is)
    (case k_law_course => k_is)
    (case l_law_worth => k_is)
    (case c_law_worth => k_is)
    (case k_law_worth => k_is)
    (case l_Ratio_sign => k_is)
    (case c_Ratio_sign => k_is)
    (case k_Ratio_sign => k_is)
    (case l_Ratio_eq => k_is)
    (case c_Ratio_eq => k_is)
    (case k_Ratio_eq => k_is)
    (case l_law_form => k_is)
    (case c_law_form => k_is)
    (case k_law_form => k_is)
    (case l_law_degree => k_is)
    (case c_law_degree => k_is)
    (case k_law_degree => k_is)
    (case l_Ratio_repr => k_is)
    (case c_Ratio_repr => k_is)
    (case k_Ratio_repr => k_is)
    (case l_Ratio_add => k_is)
    (case c_Ratio_add => k_is)
    (case k_Ratio_add => k_is)
    (case l_Ratio_mul => k_is)
    (case c_Ratio_mul => k_is)
    (case k_Ratio_mul => k_is)
    (case l_is_number => k_is)
    (case c_is_number => k_is)
    (case k_is_number => k_is)
    (case l_are_numbers => k_is)
    (case c_are_numbers => k_is)
    (case k_are_numbers => k_is)
    (case l_check_whole => k_is)
    (case c_check_whole => k_is)
    (case k_check_whole => k_is)
    (case l_worth => k_is)
    (case c_worth => k_is)
    (case k_worth => k_is)
    (case l_trimmed => k_is)
    (case c_trimmed => k_is)
    (case k_trimmed => k_is)
    (case l_least => k_is)
    (case c_least => k_is)
    (case k_least => k_is)
    (case l_are_parts => k_is)
    (case c_are_parts => k_is)
    (case k_are_parts => k_is)
    (case l_Course_init => k_is)
    (case c_Course_init => k_is)
    (case k_Course_init => k_is)
    (case l_Course_period => k_is)
    (case c_Course_period => k_is)
    (case k_Course_period => k_is)
    (case l_Course_degree => k_is)
    (case c_Course_degree => k_is)
    (case k_Course_degree => k_is)
    (case l_Course_at => k_is)
    (case c_Course_at => k_is)
    (case k_Course_at => k_is)
    (case l_Course_eq => k_is)
    (case c_Course_eq => k_is)
    (case k_Course_eq => k_is)
    (case l_summed => k_is)
    (case c_summed => k_is)
    (case k_summed => k_is)
    (case l_Ratio_rmul => k_is)
    (case c_Ratio_rmul => k_is)
    (case k_Ratio_rmul => k_is)
    (case l_multiplied => k_is)
    (case c_multiplied => k_is)
    (case k_multiplied => k_is)
    (case l_times_sum => k_is)
    (case c_times_sum => k_is)
    (case k_times_sum => k_is)
    (case l_Ratio_sub => k_is)
    (case c_Ratio_sub => k_is)
    (case k_Ratio_sub => k_is)
    (case l_counting => k_is)
    (case c_counting => k_is)
    (case k_counting => k_is)
    (case l_made_of => k_is)
    (case c_made_of => k_is)
    (case k_made_of => k_is)
    (case l_differences_of => k_is)
    (case c_differences_of => k_is)
    (case k_differences_of => k_is)
    (case l_grown => k_is)
    (case c_grown => k_is)
    (case k_grown => k_is)
    (case l_law_made => k_is)
    (case c_law_made => k_is)
    (case k_law_made => k_is)
    (case l_law_grown_right => k_is)
    (case c_law_grown_right => k_is)
    (case k_law_grown_right => k_is)
    (case l_law_right => k_is)
    (case c_law_right => k_is)
    (case k_law_right => k_is)
    (case l_law => k_is)
    (case c_law => k_is)
    (case k_law => k_is)
