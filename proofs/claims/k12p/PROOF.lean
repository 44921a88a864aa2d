import PyProof.Rows.All
import HandS.ForMost
import HandS.OwnEq
import HandS.SlotsOwn
import HandS.Gcd
import KE.KOpsOwn
import HandS.Flow
import HandS.Property
import HandS.Defaults
import HandS.MakeKw
import HandS.ClsMeth
import HandS.More
import HandS.IsInst
import HandS.FStr
import HandS.RaiseMore
import HandS.Wide
import HandS.WideBits
import HandS.Style
import HandS.TupLe
import KE.KCallOwn
import PyProof.ReprRoads
import HandS.Deep
import HandS.Ends
import PyProof.NeKinds
import PyProof.ReprNest
import HandS.Star
import KE.KMathGC
import PyProof.SliceList
import OpenK.AllK
import Wide.All
import Wide.FinOn
import Open.SpecLaws
import KE.OsGo
import PySem.Challenge.RW_soughtrows_k12_whole_steps_and_kernels
set_option Elab.async false
set_option maxRecDepth 100000
set_option maxHeartbeats 8000000
set_option linter.all false
/-! The data layer: values as data (numbers, texts, lists, tuples, objects), defs as functions of data; over the hand layer's judgements. -/
namespace Dl
open PySem L2

/-- a value as data -/
inductive D where
  | non | bl (b : Bool) | int (i : Int) | str (s : Str) | lst (xs : List D) | tup (xs : List D) | obj (c : Nat) (fs : List D) | cls (c : Nat) | scr (ns : List Int)
/-- no plain value: an own class itself; the law's script -/
def isC : D → Bool
  | .cls _ => true | .scr _ => true | _ => false
/-- the own classes: where class c stands, its attributes in the order in which they are stored -/
structure CT where
  cl : Nat → Option (Addr × List Str)
  /-- lists of ints among the module's own objects -/
  sc : Addr → List Int → Prop
instance : CoeFun CT fun _ => Nat → Option (Addr × List Str) := ⟨CT.cl⟩

mutual
/-- v bears d in H, by objects that S does not hold -/
def Rep (T : CT) (H : Hp) (S : Addr → Prop) : D → V → Prop
  | .non, v => v = .non
  | .bl b, v => v = .bl b
  | .int i, v => v = .int i
  | .str s, v => v = .str s
  | .lst ds, v => ∃ a vs, v = .ref a ∧ H a = some (.lst vs) ∧ ¬ S a ∧ Reps T H S ds vs
  | .tup ds, v => ∃ a vs, v = .ref a ∧ H a = some (.tup vs) ∧ ¬ S a ∧ Reps T H S ds vs
  | .obj c ds, v => ∃ a dx C ns vs, v = .ref a ∧ T c = some (C, ns) ∧ H a = some (.ins C dx (ns.zip vs)) ∧ ns.length = vs.length ∧ ¬ S a ∧ Reps T H S ds vs
  | .cls c, v => ∃ C ns, T c = some (C, ns) ∧ v = .ref C
  | .scr ns, v => ∃ a, v = .ref a ∧ (T.sc a ns ∨ ∃ o, H a = some (.frz o (.lst (ns.map V.int))) ∧ ¬ S a)
def Reps (T : CT) (H : Hp) (S : Addr → Prop) : List D → List V → Prop
  | [], vs => vs = []
  | d :: ds, vs => ∃ v r, vs = v :: r ∧ Rep T H S d v ∧ Reps T H S ds r
end

section
variable {T : CT} {H H' : Hp} {S S' : Addr → Prop}
mutual
theorem Rep.move (hk : ∀ b o, H b = some o → ¬ S b → H' b = some o) (hs : ∀ b, S' b → S b ∨ H b = none) : ∀ {d : D} {v : V}, Rep T H S d v → Rep T H' S' d v
  | .non, _, h => by simpa [Rep] using h
  | .bl _, _, h => by simpa [Rep] using h
  | .int _, _, h => by simpa [Rep] using h
  | .str _, _, h => by simpa [Rep] using h
  | .cls _, _, h => by rw [Rep] at h ⊢; exact h
  | .scr ns, v, h => by
    rw [Rep] at h ⊢
    obtain ⟨a, e, h | ⟨o, ha, na⟩⟩ := h
    · exact ⟨a, e, .inl h⟩
    · exact ⟨a, e, .inr ⟨o, hk _ _ ha na, fun z => (hs a z).elim na fun q => (by rw [q] at ha; cases ha)⟩⟩
  | .lst ds, v, h => by
    rw [Rep] at h ⊢
    obtain ⟨a, vs, e, ha, na, r⟩ := h
    exact ⟨a, vs, e, hk _ _ ha na, fun z => (hs a z).elim na fun q => (by rw [q] at ha; cases ha), Reps.move hk hs r⟩
  | .tup ds, v, h => by
    rw [Rep] at h ⊢
    obtain ⟨a, vs, e, ha, na, r⟩ := h
    exact ⟨a, vs, e, hk _ _ ha na, fun z => (hs a z).elim na fun q => (by rw [q] at ha; cases ha), Reps.move hk hs r⟩
  | .obj c ds, v, h => by
    rw [Rep] at h ⊢
    obtain ⟨a, dx, C, ns, vs, e, hc, ha, hl, na, r⟩ := h
    exact ⟨a, dx, C, ns, vs, e, hc, hk _ _ ha na, hl, fun z => (hs a z).elim na fun q => (by rw [q] at ha; cases ha), Reps.move hk hs r⟩
theorem Reps.move (hk : ∀ b o, H b = some o → ¬ S b → H' b = some o) (hs : ∀ b, S' b → S b ∨ H b = none) : ∀ {ds : List D} {vs : List V}, Reps T H S ds vs → Reps T H' S' ds vs
  | [], _, h => by simpa [Reps] using h
  | d :: ds, vs, h => by
    rw [Reps] at h ⊢
    obtain ⟨v, r, e, h1, h2⟩ := h
    exact ⟨v, r, e, Rep.move hk hs h1, Reps.move hk hs h2⟩
end
theorem Rep.same (hk : Same H H') {d : D} {v : V} (h : Rep T H S d v) : Rep T H' S d v := h.move (fun b o e _ => hk b o e) fun _ z => .inl z
theorem Reps.same (hk : Same H H') {d : List D} {v : List V} (h : Reps T H S d v) : Reps T H' S d v := h.move (fun b o e _ => hk b o e) fun _ z => .inl z
theorem Rep.sub (hs : ∀ b, S' b → S b) {d : D} {v : V} (h : Rep T H S d v) : Rep T H S' d v := h.move (fun _ _ e _ => e) fun b z => .inl (hs b z)
theorem Reps.sub (hs : ∀ b, S' b → S b) {d : List D} {v : List V} (h : Reps T H S d v) : Reps T H S' d v := h.move (fun _ _ e _ => e) fun b z => .inl (hs b z)
theorem Reps.length : ∀ {ds : List D} {vs : List V}, Reps T H S ds vs → vs.length = ds.length
  | [], _, h => by rw [Reps] at h; subst h; rfl
  | d :: ds, _, h => by
    rw [Reps] at h
    obtain ⟨v, r, e, _, h2⟩ := h
    subst e
    simp [Reps.length h2]
theorem Reps.get : ∀ {ds : List D} {vs : List V} {i : Nat} {d : D}, Reps T H S ds vs → ds[i]? = some d → ∃ v, vs[i]? = some v ∧ Rep T H S d v
  | [], _, _, _, _, e => by simp at e
  | d :: ds, _, i, d', h, e => by
    rw [Reps] at h
    obtain ⟨v, r, e1, h1, h2⟩ := h
    subst e1
    cases i with
    | zero => simp at e; subst e; exact ⟨v, rfl, h1⟩
    | succ i =>
      simp at e
      obtain ⟨w, q1, q2⟩ := Reps.get h2 e
      exact ⟨w, by simpa using q1, q2⟩
theorem Reps.getV : ∀ {ds : List D} {vs : List V} {i : Nat} {v : V}, Reps T H S ds vs → vs[i]? = some v → ∃ d, ds[i]? = some d ∧ Rep T H S d v := by
  intro ds vs i v h e
  have hl := h.length
  obtain ⟨hi, _⟩ := List.getElem?_eq_some_iff.mp e
  have hd : ds[i]? = some ds[i] := List.getElem?_eq_getElem (by omega)
  obtain ⟨w, q1, q2⟩ := h.get hd
  rw [e] at q1; cases q1
  exact ⟨_, hd, q2⟩
theorem Reps.nil : Reps T H S [] [] := by rw [Reps]
theorem Reps.cons {d : D} {v : V} {ds : List D} {vs : List V} (h : Rep T H S d v) (hs : Reps T H S ds vs) : Reps T H S (d :: ds) (v :: vs) := by rw [Reps]; exact ⟨v, vs, rfl, h, hs⟩
theorem Reps.append : ∀ {ds es : List D} {vs ws : List V}, Reps T H S ds vs → Reps T H S es ws → Reps T H S (ds ++ es) (vs ++ ws)
  | [], _, _, _, h, h' => by rw [Reps] at h; subst h; exact h'
  | d :: ds, _, _, _, h, h' => by
    rw [Reps] at h
    obtain ⟨v, r, e, h1, h2⟩ := h
    subst e
    exact Reps.cons h1 (Reps.append h2 h')
theorem Reps.take : ∀ {ds : List D} {vs : List V} (n : Nat), Reps T H S ds vs → Reps T H S (ds.take n) (vs.take n)
  | [], _, n, h => by rw [Reps] at h; subst h; simpa using Reps.nil
  | d :: ds, _, 0, h => by simpa using Reps.nil
  | d :: ds, _, n + 1, h => by
    rw [Reps] at h
    obtain ⟨v, r, e, h1, h2⟩ := h
    subst e
    exact Reps.cons h1 (Reps.take n h2)
theorem Reps.drop : ∀ {ds : List D} {vs : List V} (n : Nat), Reps T H S ds vs → Reps T H S (ds.drop n) (vs.drop n)
  | [], _, n, h => by rw [Reps] at h; subst h; simpa using Reps.nil
  | d :: ds, _, 0, h => by simpa using h
  | d :: ds, _, n + 1, h => by
    rw [Reps] at h
    obtain ⟨v, r, e, h1, h2⟩ := h
    subst e
    exact Reps.drop n h2
theorem Reps.set {d : D} {v : V} (r : Rep T H S d v) : ∀ {ds : List D} {vs : List V} (i : Nat), Reps T H S ds vs → Reps T H S (ds.set i d) (vs.set i v)
  | [], _, _, h => by rw [Reps] at h; subst h; simpa using Reps.nil
  | d' :: ds, _, 0, h => by
    rw [Reps] at h
    obtain ⟨v', r', e, h1, h2⟩ := h
    subst e
    exact Reps.cons r h2
  | d' :: ds, _, n + 1, h => by
    rw [Reps] at h
    obtain ⟨v', r', e, h1, h2⟩ := h
    subst e
    exact Reps.cons h1 (Reps.set r n h2)
theorem Reps.reverse {ds : List D} {vs : List V} (h : Reps T H S ds vs) : Reps T H S ds.reverse vs.reverse := by
  induction ds generalizing vs with
  | nil => rw [Reps] at h; subst h; exact Reps.nil
  | cons d ds ih =>
    rw [Reps] at h
    obtain ⟨v, r, e, h1, h2⟩ := h
    subst e
    simp only [List.reverse_cons]
    exact (ih h2).append (Reps.cons h1 Reps.nil)
end

/-! ### the slots -/
/-- what a name alone holds: a list of its own; the caller's list, handed in; an object that is being made -/
inductive Ow where
  | mine | pot | ini (C dx : Addr) (ns : List Str)
def hoOf : Ow → List V → HO
  | .mine, vs => .lst vs
  | .pot, vs => .lst vs
  | .ini C dx ns, vs => .ins C dx (ns.zip vs)
inductive Sl where
  /-- nothing is known -/
  | un
  | val (d : D)
  /-- what may change: it hangs on this name alone -/
  | own (p : Ow) (ds : List D)
abbrev Es := List Sl
def ownAt (σ : L2.St) (δ : Es) (b : Addr) : Prop := ∃ (i : Nat) (p : Ow) (ds : List D), δ[i]? = some (Sl.own p ds) ∧ σ[i]? = some (some (.ref b))
def Av (S0 : Addr → Prop) (σ : L2.St) (δ : Es) (b : Addr) : Prop := S0 b ∨ ownAt σ δ b

structure Ok (T : CT) (S0 : Addr → Prop) (σ : L2.St) (δ : Es) (H : Hp) : Prop where
  len : σ.length = δ.length
  tr : ∀ b, S0 b → ∃ o, H b = some o
  sl : ∀ (i : Nat) d, δ[i]? = some (.val d) → ∃ v, σ[i]? = some (some v) ∧ Rep T H (Av S0 σ δ) d v
  ow : ∀ (i : Nat) p ds, δ[i]? = some (.own p ds) → ∃ a vs, σ[i]? = some (some (.ref a)) ∧ H a = some (hoOf p vs) ∧ Reps T H (Av S0 σ δ) ds vs ∧ (p = .mine → ¬ S0 a)
  dj : ∀ (i j : Nat) p q ds es a, δ[i]? = some (.own p ds) → δ[j]? = some (.own q es) → σ[i]? = some (some (.ref a)) → σ[j]? = some (some (.ref a)) → i = j

structure Step (σ : L2.St) (δ : Es) (H : Hp) (σ' : L2.St) (δ' : Es) (H' : Hp) : Prop where
  keep : ∀ b o, H b = some o → ¬ ownAt σ δ b → H' b = some o
  own : ∀ b, ownAt σ' δ' b → ownAt σ δ b ∨ H b = none
  trk : ∀ b o, H b = some o → ∃ o', H' b = some o'
  pot : ∀ (i : Nat) p ds, p ≠ .mine → δ'[i]? = some (.own p ds) → (∃ ds', δ[i]? = some (.own p ds')) ∧ σ'[i]? = σ[i]?
section
variable {T : CT} {S0 : Addr → Prop} {σ σ1 σ2 : L2.St} {δ δ1 δ2 : Es} {H H1 H2 : Hp}
theorem Step.refl : Step σ δ H σ δ H := ⟨fun _ _ e _ => e, fun _ z => .inl z, fun _ o e => ⟨o, e⟩, fun _ _ ds _ e => ⟨⟨ds, e⟩, rfl⟩⟩
theorem Step.trans (a : Step σ δ H σ1 δ1 H1) (b : Step σ1 δ1 H1 σ2 δ2 H2) : Step σ δ H σ2 δ2 H2 where
  keep := fun c o e n => b.keep c o (a.keep c o e n) fun z => (a.own c z).elim n fun q => by rw [q] at e; cases e
  own := fun c z => (b.own c z).elim (a.own c) fun q => by
    cases e : H c with
    | none => exact .inr rfl
    | some o =>
      obtain ⟨o', e'⟩ := a.trk c o e
      rw [q] at e'; cases e'
  trk := fun c o e => by
    obtain ⟨o1, e1⟩ := a.trk c o e
    exact b.trk c o1 e1
  pot := fun i p ds hp e => by
    obtain ⟨⟨es, e1⟩, q1⟩ := b.pot i p ds hp e
    obtain ⟨z, q2⟩ := a.pot i p es hp e1
    exact ⟨z, q1.trans q2⟩
theorem Step.same (h : Same H H1) : Step σ δ H σ δ H1 := ⟨fun b o e _ => h b o e, fun _ z => .inl z, fun b o e => ⟨o, h b o e⟩, fun _ _ ds _ e => ⟨⟨ds, e⟩, rfl⟩⟩
theorem Ok.trk (k : Ok T S0 σ δ H) {b : Addr} (h : Av S0 σ δ b) : ∃ o, H b = some o := by
  rcases h with h | ⟨i, p, ds, e1, e2⟩
  · exact k.tr b h
  · obtain ⟨a, vs, e3, e4, _⟩ := k.ow i p ds e1
    rw [e2] at e3; cases e3
    exact ⟨_, e4⟩
theorem Ok.fresh (k : Ok T S0 σ δ H) {b : Addr} (h : H b = none) : ¬ Av S0 σ δ b := fun z => by
  obtain ⟨o, e⟩ := k.trk z
  rw [h] at e; cases e
theorem Ok.same (k : Ok T S0 σ δ H) (h : Same H H1) : Ok T S0 σ δ H1 where
  len := k.len
  tr := fun b z => let ⟨o, e⟩ := k.tr b z; ⟨o, h b o e⟩
  sl := fun i d e => let ⟨v, e1, r⟩ := k.sl i d e; ⟨v, e1, r.same h⟩
  ow := fun i p ds e => let ⟨a, vs, e1, e2, r, n⟩ := k.ow i p ds e; ⟨a, vs, e1, h _ _ e2, r.same h, n⟩
  dj := k.dj
/-- a value that was read stays what it is -/
theorem Step.rep (s : Step σ δ H σ1 δ1 H1) {d : D} {v : V} (h : Rep T H (Av S0 σ δ) d v) : Rep T H1 (Av S0 σ1 δ1) d v :=
  h.move (fun b o e n => s.keep b o e fun z => n (.inr z)) fun b z => z.elim (fun z => .inl (.inl z)) fun z => (s.own b z).elim (fun z => .inl (.inr z)) .inr
theorem Step.reps (s : Step σ δ H σ1 δ1 H1) {d : List D} {v : List V} (h : Reps T H (Av S0 σ δ) d v) : Reps T H1 (Av S0 σ1 δ1) d v :=
  h.move (fun b o e n => s.keep b o e fun z => n (.inr z)) fun b z => z.elim (fun z => .inl (.inl z)) fun z => (s.own b z).elim (fun z => .inl (.inr z)) .inr
end

/-! ### the readings by data -/
abbrev FE := Es → Option (D × Es)
abbrev FA := Es → Option (List D × Es)
abbrev FT := Es → Option (Bool × Es)
def tD (T : CT) (f : FE) : TE := fun σ H Q => ∃ S0 δ d δ', Ok T S0 σ δ H ∧ f δ = some (d, δ') ∧ ∀ v H', Ok T S0 σ δ' H' → Step σ δ H σ δ' H' → Rep T H' (Av S0 σ δ') d v → Q v H'
def tDs (T : CT) (f : FA) : TA := fun σ H Q => ∃ S0 δ ds δ', Ok T S0 σ δ H ∧ f δ = some (ds, δ') ∧ ∀ vs H', Ok T S0 σ δ' H' → Step σ δ H σ δ' H' → Reps T H' (Av S0 σ δ') ds vs → Q vs H'
def tDt (T : CT) (f : FT) : TT := fun σ H Q => ∃ S0 δ d δ', Ok T S0 σ δ H ∧ f δ = some (d, δ') ∧ ∀ H', Ok T S0 σ δ' H' → Step σ δ H σ δ' H' → Q d H'
/-- how a statement ends -/
inductive Fl where
  | nx (δ : Es) | bk (δ : Es) | ct (δ : Es) | rt (d : D) (δ : Es)
abbrev FS := Es → Option Fl
def flQ (T : CT) (S0 : Addr → Prop) (σ : L2.St) (δ : Es) (H : Hp) (E : Ends) : Fl → Prop
  | .nx δ' => ∀ σ' H', Ok T S0 σ' δ' H' → Step σ δ H σ' δ' H' → E.nx σ' H'
  | .bk δ' => ∀ σ' H', Ok T S0 σ' δ' H' → Step σ δ H σ' δ' H' → E.bk σ' H'
  | .ct δ' => ∀ σ' H', Ok T S0 σ' δ' H' → Step σ δ H σ' δ' H' → E.ct σ' H'
  | .rt d δ' => ∀ v σ' H', Ok T S0 σ' δ' H' → Step σ δ H σ' δ' H' → Rep T H' (Av S0 σ' δ') d v → E.rt v H'
def tSt (T : CT) (g : FS) : TS := fun E σ H => ∃ S0 δ r, Ok T S0 σ δ H ∧ g δ = some r ∧ flQ T S0 σ δ H E r

section
variable {X : Cx} {T : CT}
theorem PE.imp {e : Expr} {t u : TE} (h : PE X e t) (i : ∀ σ H Q, u σ H Q → t σ H Q) : PE X e u := ⟨fun pins s σ H Q I q => h.run pins s σ H Q I (i σ H Q q)⟩
theorem PT.imp {e : Expr} {t u : TT} (h : PT X e t) (i : ∀ σ H Q, u σ H Q → t σ H Q) : PT X e u := ⟨fun pins s σ H Q I q => h.run pins s σ H Q I (i σ H Q q)⟩
theorem PW.imp {e : Expr} {t u : TT} (h : PW X e t) (i : ∀ σ H Q, u σ H Q → t σ H Q) : PW X e u := ⟨fun w pins s σ H Q I q => h.run w pins s σ H Q I (i σ H Q q)⟩
theorem PA.imp {e : List Expr} {t u : TA} (h : PA X e t) (i : ∀ σ H Q, u σ H Q → t σ H Q) : PA X e u := ⟨fun p pins s σ H Q I q => h.run p pins s σ H Q I (i σ H Q q)⟩
theorem PK.imp {e : List Keyword} {t u : TA} (h : PK X e t) (i : ∀ σ H Q, u σ H Q → t σ H Q) : PK X e u := ⟨fun p pins s σ H Q I q => h.run p pins s σ H Q I (i σ H Q q)⟩
theorem PS.imp {e : Stmt} {t u : TS} (h : PS X e t) (i : ∀ E σ H, u E σ H → t E σ H) : PS X e u := ⟨fun pins s σ H E I q => h.run pins s σ H E I (i E σ H q)⟩
theorem PSs.imp {e : List Stmt} {t u : TS} (h : PSs X e t) (i : ∀ E σ H, u E σ H → t E σ H) : PSs X e u := ⟨fun pins s σ H E I q => h.run pins s σ H E I (i E σ H q)⟩

/-- a constant -/
def fC (d : D) : FE := fun δ => some (d, δ)
def litV : D → Option V
  | .non => some .non | .bl b => some (.bl b) | .int i => some (.int i) | .str s => some (.str s) | _ => none
theorem rep_lit {H : Hp} {S : Addr → Prop} {d : D} {v : V} (h : litV d = some v) : Rep T H S d v := by
  cases d <;> simp [litV] at h <;> subst h <;> simp [Rep]
theorem pd_c {e : Expr} {d : D} {v : V} (h : PE X e (tC v)) (hl : litV d = some v := by rfl) : PE X e (tD T (fC d)) := PE.imp h fun σ H Q ⟨S0, δ, d', δ', ok, e, q⟩ => by
  cases e
  exact q v H ok Step.refl (rep_lit hl)
theorem pd_int {i j pos} : PE X (.Constant (.int i) j pos) (tD T (fC (.int i))) := pd_c pe_int
theorem pd_bl {i j pos} : PE X (.Constant (.bool i) j pos) (tD T (fC (.bl i))) := pd_c pe_bl
theorem pd_non {j pos} : PE X (.Constant .none j pos) (tD T (fC .non)) := pd_c pe_non
theorem pd_str {i j pos} : PE X (.Constant (.str i) j pos) (tD T (fC (.str i))) := pd_c pe_str

/-- a name -/
def fV (i : Nat) : FE := fun δ => match δ[i]? with
  | some (.val d) => some (d, δ)
  | some (.own .mine ds) => some (.lst ds, δ.set i (.val (.lst ds)))
  | _ => none
theorem Ok.freeze {S0 : Addr → Prop} {σ : L2.St} {δ : Es} {H : Hp} {i : Nat} {ds : List D} (k : Ok T S0 σ δ H) (e : δ[i]? = some (.own .mine ds)) :
    ∃ v, σ[i]? = some (some v) ∧ Rep T H (Av S0 σ (δ.set i (.val (.lst ds)))) (.lst ds) v ∧ Ok T S0 σ (δ.set i (.val (.lst ds))) H ∧ Step σ δ H σ (δ.set i (.val (.lst ds))) H := by
  obtain ⟨a, vs, e1, e2, r, na⟩ := k.ow i .mine ds e
  have hi : i < δ.length := (List.getElem?_eq_some_iff.mp e).1
  have own' : ∀ b, ownAt σ (δ.set i (.val (.lst ds))) b → ownAt σ δ b ∧ b ≠ a := fun b ⟨j, p, es, h1, h2⟩ => by
    have hj : j ≠ i := fun z => by
      subst z
      rw [List.getElem?_set_self hi] at h1; cases h1
    rw [List.getElem?_set_ne (Ne.symm hj)] at h1
    refine ⟨⟨j, p, es, h1, h2⟩, fun z => ?_⟩
    subst z
    exact hj (k.dj j i p .mine es ds b h1 e h2 e1)
  have sub : ∀ b, Av S0 σ (δ.set i (.val (.lst ds))) b → Av S0 σ δ b := fun b z => z.elim .inl fun z => .inr (own' b z).1
  have rep : Rep T H (Av S0 σ (δ.set i (.val (.lst ds)))) (.lst ds) (.ref a) := by
    rw [Rep]
    exact ⟨a, vs, rfl, e2, fun z => z.elim (na rfl) fun z => (own' a z).2 rfl, r.sub sub⟩
  refine ⟨_, e1, rep, ⟨by rw [List.length_set]; exact k.len, k.tr, fun j d h => ?_, fun j p es h => ?_, fun j l p q es fs b h1 h2 h3 h4 => ?_⟩, ⟨fun _ _ z _ => z, fun b z => .inl (own' b z).1, fun _ o z => ⟨o, z⟩, fun j p ds' _ h => ?_⟩⟩
  · by_cases hj : j = i
    · subst hj
      rw [List.getElem?_set_self hi] at h; cases h
      exact ⟨_, e1, rep⟩
    · rw [List.getElem?_set_ne (Ne.symm hj)] at h
      obtain ⟨v, q1, q2⟩ := k.sl j d h
      exact ⟨v, q1, q2.sub sub⟩
  · by_cases hj : j = i
    · subst hj
      rw [List.getElem?_set_self hi] at h; cases h
    · rw [List.getElem?_set_ne (Ne.symm hj)] at h
      obtain ⟨b, ws, q1, q2, q3, q4⟩ := k.ow j p es h
      exact ⟨b, ws, q1, q2, q3.sub sub, q4⟩
  · have hj : j ≠ i := fun z => by
      subst z
      rw [List.getElem?_set_self hi] at h1; cases h1
    have hl : l ≠ i := fun z => by
      subst z
      rw [List.getElem?_set_self hi] at h2; cases h2
    rw [List.getElem?_set_ne (Ne.symm hj)] at h1
    rw [List.getElem?_set_ne (Ne.symm hl)] at h2
    exact k.dj j l p q es fs b h1 h2 h3 h4
  · by_cases hj : j = i
    · subst hj
      rw [List.getElem?_set_self hi] at h; cases h
    · rw [List.getElem?_set_ne (Ne.symm hj)] at h
      exact ⟨⟨_, h⟩, rfl⟩
theorem pd_v (i : Nat) {x : Str} {pos : Pos} (hN : X.N[i]? = some x := by rfl) (hv : Vis X.env.scope x := by first | exact Or.inl rfl | exact Or.inr (Or.inl rfl) | exact Or.inr (Or.inr rfl)) (hd : (x == ("__debug__" : Str)) = false := by decide)
    (hcd : (x == ("__classdict__" : Str)) = false := by decide) : PE X (.Name x pos) (tD T (fV i)) := PE.imp (pe_var hN hv hd hcd) fun σ H Q ⟨S0, δ, d, δ', ok, e, q⟩ => by
  unfold fV at e
  cases h : δ[i]? with
  | none => rw [h] at e; cases e
  | some s =>
    rw [h] at e
    cases s with
    | un => cases e
    | val d' =>
      cases e
      obtain ⟨v, e1, r⟩ := ok.sl i _ h
      exact ⟨v, e1, q v H ok Step.refl r⟩
    | own p ds =>
      cases p with
      | pot => cases e
      | ini _ _ _ => cases e
      | mine =>
        cases e
        obtain ⟨v, e1, r, ok', st⟩ := ok.freeze h
        exact ⟨v, e1, q v H ok' st r⟩

/-! arguments -/
def fNil : FA := fun δ => some ([], δ)
def fCons (f : FE) (g : FA) : FA := fun δ => (f δ).bind fun (d, δ1) => (g δ1).bind fun (ds, δ2) => some (d :: ds, δ2)
theorem bind_some2 {α β γ : Type} {o : Option (α × β)} {k : α × β → Option γ} {c : γ} (h : o.bind k = some c) : ∃ a b, o = some (a, b) ∧ k (a, b) = some c := by
  cases o with
  | none => cases h
  | some p => exact ⟨p.1, p.2, rfl, h⟩
theorem pds_nil : PA X [] (tDs T fNil) := PA.imp pa_nil fun σ H Q ⟨S0, δ, ds, δ', ok, e, q⟩ => by
  cases e
  exact q [] H ok Step.refl Reps.nil
theorem pds_cons {e : Expr} {es : List Expr} {f : FE} {g : FA} (h1 : PE X e (tD T f)) (h2 : PA X es (tDs T g))
    (he : starEach (e :: es) X.env = (false, eval e X.env) :: starEach es X.env := by rfl) : PA X (e :: es) (tDs T (fCons f g)) := PA.imp (pa_cons h1 h2 he) fun σ H Q ⟨S0, δ, ds, δ', ok, e, q⟩ => by
  obtain ⟨d, δ1, e1, e⟩ := bind_some2 e
  obtain ⟨dr, δ2, e2, e⟩ := bind_some2 e
  cases e
  exact ⟨S0, δ, d, δ1, ok, e1, fun v H1 ok1 s1 r1 => ⟨S0, δ1, dr, δ', ok1, e2, fun vs H2 ok2 s2 r2 => q _ H2 ok2 (s1.trans s2) (Reps.cons (s2.rep r1) r2)⟩⟩
end
end Dl
/-! own operators: an instance on the left, on the right of an int, in front -/
namespace OwB
open PySem PySem.W PySem.SeqAt PyProof.Rows
open AutoSeq1 (wpAny_loadPart')
section
variable {prog : Program} {w : World} {M : Model} {A : Around} {E : Value → Shared → Prop} {s : Shared} {K : Frag} {x y C f : Addr} {h₀ : Heap} {m : Str → Option Value} {ox : Obj} {od : Option Obj} {nm T : String}

/-- both of one own class -/
theorem bin_same {op : Operator} {Q : Value → Shared → Prop} {oy : Obj} {ody : Option Obj} (X : K.In s.heap) (I : InstAt s.heap x ox C od) (J : InstAt s.heap y oy C ody) (hc : selfFirst K C = true)
    (hs : findIn K (.ref C) (PySem.dunder op.info.2) = some (some (.ref f))) (hf : isFn K (.ref f) = true)
    (h : wpAny (model prog w) A (call (.ref f) [.ref x, .ref y]) (PySem.W.CmpBack Q) E s) : wpAny (model prog w) A (binaryOp op (.ref x) (.ref y)) Q E s := by
  obtain ⟨cd, rest, hcd, hm⟩ := ksp_first hc
  rcases hi : op.info with ⟨sym, nm'⟩
  rw [hi] at hs
  dsimp only at hs
  have one := ksp_try X I hs hf h
  obtain ⟨hh, g, d, tt, os⟩ := s
  have L1 : Looks (model prog w) hh (typeOf (.ref x)) (.ref C) := I.type
  have L2 : Looks (model prog w) hh (typeOf (.ref y)) (.ref C) := J.type
  have L3 : Looks (model prog w) hh (fillsNumberSlot (.ref C) nm') true := fills_K X hcd hm hs
  simp only [binaryOp, hi]
  refine wpAny_holding (wpAny_bind ?_)
  unfold binaryOp1
  refine wpAny_bind (L1.at (wpAny_bind (L2.at (wpAny_bind (L3.at ?_)))))
  simp only [beq_self_eq_true, if_true]
  ksp_lk
  refine wpAny_mono one (fun r s' hr' => ?_) fun _ _ e => e
  obtain ⟨v, rfl, hq⟩ := hr'
  ksp_lk
  exact hq

theorem int_add_dec (b : Int) (u : Tok) (l C dx : Addr) : Meets (Builtin.«int.__add__» ⟨[.int b u, .ref l], []⟩) (fun _ R s => s.heap.get? l = some (instObj C dx) ∧ R (.ok (.ret .notImplemented)) s) :=
  .of_wp fun prog w A R s h => by obtain ⟨hp, g, d, tk, os⟩ := s; obtain ⟨hl, h⟩ := h; wp_walk using wpAny_loadPart' hl, wpAny_load hl; exact ⟨_, rfl, h⟩
theorem int_sub_dec (b : Int) (u : Tok) (l C dx : Addr) : Meets (Builtin.«int.__sub__» ⟨[.int b u, .ref l], []⟩) (fun _ R s => s.heap.get? l = some (instObj C dx) ∧ R (.ok (.ret .notImplemented)) s) :=
  .of_wp fun prog w A R s h => by obtain ⟨hp, g, d, tk, os⟩ := s; obtain ⟨hl, h⟩ := h; wp_walk using wpAny_loadPart' hl, wpAny_load hl; exact ⟨_, rfl, h⟩
theorem int_mul_dec (b : Int) (u : Tok) (l C dx : Addr) : Meets (Builtin.«int.__mul__» ⟨[.int b u, .ref l], []⟩) (fun _ R s => s.heap.get? l = some (instObj C dx) ∧ R (.ok (.ret .notImplemented)) s) :=
  .of_wp fun prog w A R s h => by obtain ⟨hp, g, d, tk, os⟩ := s; obtain ⟨hl, h⟩ := h; wp_walk using wpAny_loadPart' hl, wpAny_load hl; exact ⟨_, rfl, h⟩

theorem try_dec {nm' id : String} {B : Builtin} {b : Int} {t : Tok} {l dx : Addr} {Q : Option Value → Shared → Prop} (slot : Slot "int" (PySem.dunder nm') id) (entry : entryFor table id = some B) (args : argsOk id ⟨[.int b t, .ref l], []⟩)
    (g : Meets (B ⟨[.int b t, .ref l], []⟩) (fun _ R s => s.heap.get? l = some (instObj C dx) ∧ R (.ok (.ret .notImplemented)) s)) (hl : s.heap.get? l = some (instObj C dx)) (h : Q none s) :
    wpAny (model prog w) A (tryMethod (.int b t) (PySem.dunder nm') (.ref l)) Q E s :=
  wpAny_tryMethod_declines (T := "int") rfl slot (call_meets slot rfl entry args g ⟨hl, ⟨rfl, h⟩⟩)

/-- an int on the left: its own slot declines, the class's reflected one answers -/
theorem bin_rev {op : Operator} {id : String} {B : Builtin} {b : Int} {t : Tok} {g dx : Addr} {Q : Value → Shared → Prop} {oy : Obj} {ody : Option Obj} (X : K.In s.heap) (J : InstAt s.heap y oy C ody) (hc : selfFirst K C = true)
    (hs : findIn K (.ref C) (PySem.dunder op.info.2) = some (some (.ref f))) (hr : findIn K (.ref C) (PySem.dunderR op.info.2) = some (some (.ref g))) (hf : isFn K (.ref g) = true) (hsub : subIn K (.ref C) (.type "int") = some false)
    (fills : fillsNumberSlot (.type "int") op.info.2 = pure true) (slot : Slot "int" (PySem.dunder op.info.2) id) (entry : entryFor table id = some B) (args : argsOk id ⟨[.int b t, .ref y], []⟩)
    (dec : Meets (B ⟨[.int b t, .ref y], []⟩) (fun _ R s => s.heap.get? y = some (instObj C dx) ∧ R (.ok (.ret .notImplemented)) s)) (hy : s.heap.get? y = some (instObj C dx))
    (h : wpAny (model prog w) A (call (.ref g) [.ref y, .int b t]) (PySem.W.CmpBack Q) E s) : wpAny (model prog w) A (binaryOp op (.int b t) (.ref y)) Q E s := by
  obtain ⟨cd, rest, hcd, hm⟩ := ksp_first hc
  rcases hi : op.info with ⟨sym, nm'⟩
  rw [hi] at hs hr fills slot
  dsimp only at hs hr fills slot
  have one := ksp_try X J hr hf h
  have two : ∀ Q' : Option Value → Shared → Prop, Q' none s → wpAny (model prog w) A (tryMethod (.int b t) (PySem.dunder nm') (.ref y)) Q' E s := fun Q' q => try_dec slot entry args dec hy q
  have L1 : Looks (model prog w) s.heap (typeOf (.int b t)) (.type "int") := Looks.of_pure rfl
  have L2 : Looks (model prog w) s.heap (typeOf (.ref y)) (.ref C) := J.type
  have L3 : Looks (model prog w) s.heap (fillsNumberSlot (.ref C) nm') true := fills_K X hcd hm hs
  have L4 : Looks (model prog w) s.heap (fillsNumberSlot (.type "int") nm') true := Looks.of_pure fills
  have L5 : Looks (model prog w) s.heap (isSubtype (.ref C) (.type "int")) false := looks_subIn X hsub
  have L6 : Looks (model prog w) s.heap (numberSlotInPython (.type "int") nm') false := Looks.of_pure rfl
  have hne : (Value.type "int" == Value.ref C) = false := Bool.eq_false_iff.mpr fun q => by cases beq_iff_eq.mp q
  simp only [binaryOp, hi]
  refine wpAny_holding (wpAny_bind ?_)
  unfold binaryOp1
  refine wpAny_bind (L1.here (wpAny_bind (L2.here (wpAny_bind (L4.here ?_)))))
  simp only [hne, Bool.false_eq_true, if_false]
  refine wpAny_bind (L3.here ?_)
  simp only [Bool.and_self, if_true]
  refine wpAny_bind (L5.here ?_)
  simp only [Bool.false_eq_true, if_false, pure_bind, Bool.not_false, Bool.and_self, if_true]
  refine wpAny_bind (L6.here ?_)
  simp only [Bool.false_eq_true, if_false, pure_bind, Bool.not_false, Bool.and_self, if_true]
  refine wpAny_bind (two _ ?_)
  simp only [Bool.false_eq_true, if_false, pure_bind, Bool.not_false, Bool.and_self, if_true]
  refine wpAny_bind (wpAny_mono one (fun r s' hr' => ?_) fun _ _ e => e)
  obtain ⟨v, rfl, hq⟩ := hr'
  exact wpAny_bind (wpAny_rule (wpAny_pure (wpAny_pure hq)))
end
end OwB
namespace Dl
open PySem L2
section
variable {T : CT} {S0 : Addr → Prop} {σ : L2.St} {δ : Es} {H H' : Hp}

theorem get_set {α : Type} {l : List α} {i j : Nat} {x y : α} (h : (l.set i x)[j]? = some y) : (j = i ∧ i < l.length ∧ y = x) ∨ (j ≠ i ∧ l[j]? = some y) := by
  by_cases e : j = i
  · subst e
    by_cases hl : j < l.length
    · rw [List.getElem?_set_self hl] at h
      exact .inl ⟨rfl, hl, (Option.some.inj h).symm⟩
    · rw [List.set_eq_of_length_le (Nat.le_of_not_lt hl)] at h
      exact absurd (List.getElem?_eq_some_iff.mp h).1 hl
  · rw [List.getElem?_set_ne (Ne.symm e)] at h
    exact .inr ⟨e, h⟩

/-- a name is stored -/
theorem Ok.store {i : Nat} {d : D} {v : V} (k : Ok T S0 σ δ H) (r : Rep T H (Av S0 σ δ) d v) :
    Ok T S0 (σ.set i (some v)) (δ.set i (.val d)) H ∧ Step σ δ H (σ.set i (some v)) (δ.set i (.val d)) H := by
  have own' : ∀ b, ownAt (σ.set i (some v)) (δ.set i (.val d)) b → ownAt σ δ b := fun b ⟨j, p, es, h1, h2⟩ => by
    rcases get_set h1 with ⟨_, _, z⟩ | ⟨hj, h1⟩
    · cases z
    · rw [List.getElem?_set_ne (Ne.symm hj)] at h2
      exact ⟨j, p, es, h1, h2⟩
  have sub : ∀ b, Av S0 (σ.set i (some v)) (δ.set i (.val d)) b → Av S0 σ δ b := fun b z => z.elim .inl fun z => .inr (own' b z)
  refine ⟨⟨by rw [List.length_set, List.length_set]; exact k.len, k.tr, fun j e h => ?_, fun j p es h => ?_, fun j l p q es fs b h1 h2 h3 h4 => ?_⟩, ⟨fun _ _ z _ => z, fun b z => .inl (own' b z), fun _ o z => ⟨o, z⟩, fun j p es hp h => ?_⟩⟩
  · rcases get_set h with ⟨rfl, hi, z⟩ | ⟨hj, h⟩
    · cases z
      rw [List.getElem?_set_self (by rw [k.len]; exact hi)]
      exact ⟨v, rfl, r.sub sub⟩
    · obtain ⟨w, q1, q2⟩ := k.sl j e h
      rw [List.getElem?_set_ne (Ne.symm hj)]
      exact ⟨w, q1, q2.sub sub⟩
  · rcases get_set h with ⟨_, _, z⟩ | ⟨hj, h⟩
    · cases z
    · obtain ⟨b, ws, q1, q2, q3, q4⟩ := k.ow j p es h
      rw [List.getElem?_set_ne (Ne.symm hj)]
      exact ⟨b, ws, q1, q2, q3.sub sub, q4⟩
  · rcases get_set h1 with ⟨_, _, z⟩ | ⟨hj, h1⟩
    · cases z
    rcases get_set h2 with ⟨_, _, z⟩ | ⟨hl, h2⟩
    · cases z
    rw [List.getElem?_set_ne (Ne.symm hj)] at h3
    rw [List.getElem?_set_ne (Ne.symm hl)] at h4
    exact k.dj j l p q es fs b h1 h2 h3 h4
  · rcases get_set h with ⟨_, _, z⟩ | ⟨hj, h⟩
    · cases z
    · rw [List.getElem?_set_ne (Ne.symm hj)]
      exact ⟨⟨es, h⟩, rfl⟩
/-- a name is stored whose value does not matter -/
theorem Ok.junk {i : Nat} {v : Option V} (k : Ok T S0 σ δ H) : Ok T S0 (σ.set i v) (δ.set i .un) H ∧ Step σ δ H (σ.set i v) (δ.set i .un) H := by
  have own' : ∀ b, ownAt (σ.set i v) (δ.set i .un) b → ownAt σ δ b := fun b ⟨j, p, es, h1, h2⟩ => by
    rcases get_set h1 with ⟨_, _, z⟩ | ⟨hj, h1⟩
    · cases z
    · rw [List.getElem?_set_ne (Ne.symm hj)] at h2
      exact ⟨j, p, es, h1, h2⟩
  have sub : ∀ b, Av S0 (σ.set i v) (δ.set i .un) b → Av S0 σ δ b := fun b z => z.elim .inl fun z => .inr (own' b z)
  refine ⟨⟨by rw [List.length_set, List.length_set]; exact k.len, k.tr, fun j e h => ?_, fun j p es h => ?_, fun j l p q es fs b h1 h2 h3 h4 => ?_⟩, ⟨fun _ _ z _ => z, fun b z => .inl (own' b z), fun _ o z => ⟨o, z⟩, fun j p es hp h => ?_⟩⟩
  · rcases get_set h with ⟨_, _, z⟩ | ⟨hj, h⟩
    · cases z
    · obtain ⟨w, q1, q2⟩ := k.sl j e h
      rw [List.getElem?_set_ne (Ne.symm hj)]
      exact ⟨w, q1, q2.sub sub⟩
  · rcases get_set h with ⟨_, _, z⟩ | ⟨hj, h⟩
    · cases z
    · obtain ⟨b, ws, q1, q2, q3, q4⟩ := k.ow j p es h
      rw [List.getElem?_set_ne (Ne.symm hj)]
      exact ⟨b, ws, q1, q2, q3.sub sub, q4⟩
  · rcases get_set h1 with ⟨_, _, z⟩ | ⟨hj, h1⟩
    · cases z
    rcases get_set h2 with ⟨_, _, z⟩ | ⟨hl, h2⟩
    · cases z
    rw [List.getElem?_set_ne (Ne.symm hj)] at h3
    rw [List.getElem?_set_ne (Ne.symm hl)] at h4
    exact k.dj j l p q es fs b h1 h2 h3 h4
  · rcases get_set h with ⟨_, _, z⟩ | ⟨hj, h⟩
    · cases z
    · rw [List.getElem?_set_ne (Ne.symm hj)]
      exact ⟨⟨es, h⟩, rfl⟩
/-- a new list becomes a name's own -/
theorem Ok.storeOwn {i : Nat} {ds : List D} {a : Addr} {vs : List V} (k : Ok T S0 σ δ H) (ha : H a = none) (r : Reps T H (Av S0 σ δ) ds vs) :
    Ok T S0 (σ.set i (some (.ref a))) (δ.set i (.own .mine ds)) (upd H a (.lst vs)) ∧ Step σ δ H (σ.set i (some (.ref a))) (δ.set i (.own .mine ds)) (upd H a (.lst vs)) := by
  have sm : Same H (upd H a (.lst vs)) := fun b o e => by rw [upd_ne (ne_of_none e ha)]; exact e
  have own' : ∀ b, ownAt (σ.set i (some (.ref a))) (δ.set i (.own .mine ds)) b → ownAt σ δ b ∨ b = a := fun b ⟨j, p, es, h1, h2⟩ => by
    rcases get_set h1 with ⟨rfl, hi, z⟩ | ⟨hj, h1⟩
    · rw [List.getElem?_set_self (by rw [k.len]; exact hi)] at h2
      cases h2
      exact .inr rfl
    · rw [List.getElem?_set_ne (Ne.symm hj)] at h2
      exact .inl ⟨j, p, es, h1, h2⟩
  have sub : ∀ b, Av S0 (σ.set i (some (.ref a))) (δ.set i (.own .mine ds)) b → Av S0 σ δ b ∨ H b = none := fun b z => z.elim (fun z => .inl (.inl z)) fun z => (own' b z).elim (fun z => .inl (.inr z)) fun z => .inr (by rw [z]; exact ha)
  have mv : ∀ {d : D} {v : V}, Rep T H (Av S0 σ δ) d v → Rep T (upd H a (.lst vs)) (Av S0 (σ.set i (some (.ref a))) (δ.set i (.own .mine ds))) d v := fun h => h.move (fun b o e _ => sm b o e) sub
  have mvs : ∀ {d : List D} {v : List V}, Reps T H (Av S0 σ δ) d v → Reps T (upd H a (.lst vs)) (Av S0 (σ.set i (some (.ref a))) (δ.set i (.own .mine ds))) d v := fun h => h.move (fun b o e _ => sm b o e) sub
  refine ⟨⟨by rw [List.length_set, List.length_set]; exact k.len, fun b z => let ⟨o, e⟩ := k.tr b z; ⟨o, sm b o e⟩, fun j e h => ?_, fun j p es h => ?_, fun j l p q es fs b h1 h2 h3 h4 => ?_⟩, ⟨fun b o z _ => sm b o z, fun b z => (own' b z).elim .inl fun z => .inr (by rw [z]; exact ha), fun b o z => ⟨o, sm b o z⟩, fun j p es hp h => ?_⟩⟩
  · rcases get_set h with ⟨_, _, z⟩ | ⟨hj, h⟩
    · cases z
    · obtain ⟨w, q1, q2⟩ := k.sl j e h
      rw [List.getElem?_set_ne (Ne.symm hj)]
      exact ⟨w, q1, mv q2⟩
  · rcases get_set h with ⟨rfl, hi, z⟩ | ⟨hj, h⟩
    · cases z
      rw [List.getElem?_set_self (by rw [k.len]; exact hi)]
      exact ⟨a, vs, rfl, upd_same, mvs r, fun _ z => by obtain ⟨o, e⟩ := k.tr a z; rw [ha] at e; cases e⟩
    · obtain ⟨b, ws, q1, q2, q3, q4⟩ := k.ow j p es h
      rw [List.getElem?_set_ne (Ne.symm hj)]
      exact ⟨b, ws, q1, sm _ _ q2, mvs q3, q4⟩
  · have na : ∀ {j : Nat} {p : Ow} {es : List D}, δ[j]? = some (.own p es) → σ[j]? = some (some (.ref a)) → False := fun {j p es} h1 h2 => by
      obtain ⟨b, ws, q1, q2, _⟩ := k.ow j p es h1
      rw [h2] at q1; cases q1
      rw [ha] at q2; cases q2
    rcases get_set h1 with ⟨rfl, hi, z⟩ | ⟨hj, h1'⟩
    · rw [List.getElem?_set_self (by rw [k.len]; exact hi)] at h3
      cases h3
      rcases get_set h2 with ⟨rfl, _, _⟩ | ⟨hl, h2'⟩
      · rfl
      · rw [List.getElem?_set_ne (Ne.symm hl)] at h4
        exact (na h2' h4).elim
    · rw [List.getElem?_set_ne (Ne.symm hj)] at h3
      rcases get_set h2 with ⟨rfl, hi, _⟩ | ⟨hl, h2'⟩
      · rw [List.getElem?_set_self (by rw [k.len]; exact hi)] at h4
        cases h4
        exact (na h1' h3).elim
      · rw [List.getElem?_set_ne (Ne.symm hl)] at h4
        exact k.dj j l p q es fs b h1' h2' h3 h4
  · rcases get_set h with ⟨_, _, z⟩ | ⟨hj, h⟩
    · cases z; exact absurd rfl hp
    · rw [List.getElem?_set_ne (Ne.symm hj)]
      exact ⟨⟨es, h⟩, rfl⟩
/-- a name's own list is changed -/
theorem Ok.change {i : Nat} {p : Ow} {ds ds' : List D} {a : Addr} {us : List V} (k : Ok T S0 σ δ H) (e : δ[i]? = some (.own p ds)) (ea : σ[i]? = some (some (.ref a)))
    (hk : ∀ b o, H b = some o → b ≠ a → H' b = some o) (ha : H' a = some (hoOf p us)) (r : Reps T H' (Av S0 σ δ) ds' us) :
    Ok T S0 σ (δ.set i (.own p ds')) H' ∧ Step σ δ H σ (δ.set i (.own p ds')) H' := by
  have hi : i < δ.length := (List.getElem?_eq_some_iff.mp e).1
  have oa : ownAt σ δ a := ⟨i, p, ds, e, ea⟩
  have own' : ∀ b, ownAt σ (δ.set i (.own p ds')) b → ownAt σ δ b := fun b ⟨j, q, es, h1, h2⟩ => by
    rcases get_set h1 with ⟨rfl, _, z⟩ | ⟨hj, h1⟩
    · exact ⟨j, p, ds, e, h2⟩
    · exact ⟨j, q, es, h1, h2⟩
  have sub : ∀ b, Av S0 σ (δ.set i (.own p ds')) b → Av S0 σ δ b := fun b z => z.elim .inl fun z => .inr (own' b z)
  have mv : ∀ {d : D} {v : V}, Rep T H (Av S0 σ δ) d v → Rep T H' (Av S0 σ (δ.set i (.own p ds'))) d v := fun h => h.move (fun b o z n => hk b o z fun q => n (.inr (by rw [q]; exact oa))) fun b z => .inl (sub b z)
  have mvs : ∀ {d : List D} {v : List V}, Reps T H (Av S0 σ δ) d v → Reps T H' (Av S0 σ (δ.set i (.own p ds'))) d v := fun h => h.move (fun b o z n => hk b o z fun q => n (.inr (by rw [q]; exact oa))) fun b z => .inl (sub b z)
  have trk : ∀ b o, H b = some o → ∃ o', H' b = some o' := fun b o z => by
    by_cases q : b = a
    · exact ⟨_, by rw [q]; exact ha⟩
    · exact ⟨o, hk b o z q⟩
  refine ⟨⟨by rw [List.length_set]; exact k.len, fun b z => let ⟨o, e⟩ := k.tr b z; trk b o e, fun j d h => ?_, fun j q es h => ?_, fun j l q1 q2 es fs b h1 h2 h3 h4 => ?_⟩, ⟨fun b o z n => hk b o z fun q => n (by rw [q]; exact oa), fun b z => .inl (own' b z), trk, fun j p es hp h => ?_⟩⟩
  · rcases get_set h with ⟨_, _, z⟩ | ⟨hj, h⟩
    · cases z
    · obtain ⟨w, q1, q2⟩ := k.sl j d h
      exact ⟨w, q1, mv q2⟩
  · rcases get_set h with ⟨rfl, _, z⟩ | ⟨hj, h⟩
    · cases z
      obtain ⟨b, ws, q1, _, _, q4⟩ := k.ow j p ds e
      rw [ea] at q1; cases q1
      exact ⟨a, us, ea, ha, r.sub sub, q4⟩
    · obtain ⟨b, ws, q1, q2, q3, q4⟩ := k.ow j q es h
      have nb : b ≠ a := fun z => hj (k.dj j i q p es ds a h e (by rw [q1, z]) ea)
      exact ⟨b, ws, q1, hk _ _ q2 nb, mvs q3, q4⟩
  · have g : ∀ {j : Nat} {q : Ow} {es : List D}, (δ.set i (.own p ds'))[j]? = some (.own q es) → ∃ q' es', δ[j]? = some (.own q' es') := fun {j q es} h => by
      rcases get_set h with ⟨rfl, _, _⟩ | ⟨_, h⟩
      · exact ⟨p, ds, e⟩
      · exact ⟨q, es, h⟩
    obtain ⟨_, _, g1⟩ := g h1
    obtain ⟨_, _, g2⟩ := g h2
    exact k.dj j l _ _ _ _ b g1 g2 h3 h4
  · rcases get_set h with ⟨rfl, _, z⟩ | ⟨hj, h⟩
    · cases z
      exact ⟨⟨ds, e⟩, rfl⟩
    · exact ⟨⟨es, h⟩, rfl⟩
end

section
variable {X : Cx} {T : CT}
/-- what a statement's end asks, seen from an earlier state -/
theorem flQ.back {S0 : Addr → Prop} {σ σ1 : L2.St} {δ δ1 : Es} {H H1 : Hp} {E : Ends} (st : Step σ δ H σ1 δ1 H1) : ∀ {r : Fl}, flQ T S0 σ δ H E r → flQ T S0 σ1 δ1 H1 E r
  | .nx _, q => fun σ' H' ok s => q σ' H' ok (st.trans s)
  | .bk _, q => fun σ' H' ok s => q σ' H' ok (st.trans s)
  | .ct _, q => fun σ' H' ok s => q σ' H' ok (st.trans s)
  | .rt _ _, q => fun v σ' H' ok s => q v σ' H' ok (st.trans s)

/-! ### statements -/
def sNil : FS := fun δ => some (.nx δ)
def sSeq (g h : FS) : FS := fun δ => (g δ).bind fun r => match r with
  | .nx δ1 => h δ1
  | r => some r
theorem sts_nil : PSs X [] (tSt T sNil) := PSs.imp pss_nil fun E σ H ⟨S0, δ, r, ok, e, q⟩ => by
  cases e
  exact q σ H ok Step.refl
theorem sts_one {st : Stmt} {g : FS} (h : PS X st (tSt T g)) : PSs X [st] (tSt T g) := pss_one h
theorem sts_cons {st : Stmt} {rest : List Stmt} {g h : FS} (h1 : PS X st (tSt T g)) (h2 : PSs X rest (tSt T h)) : PSs X (st :: rest) (tSt T (sSeq g h)) := PSs.imp (pss_cons h1 h2) fun E σ H ⟨S0, δ, r, ok, e, q⟩ => by
  unfold sSeq at e
  cases hg : g δ with
  | none => rw [hg] at e; cases e
  | some r1 =>
    rw [hg] at e
    refine ⟨S0, δ, r1, ok, hg, ?_⟩
    cases r1 with
    | nx δ1 => exact fun σ1 H1 ok1 s1 => ⟨S0, δ1, r, ok1, e, flQ.back s1 q⟩
    | bk δ1 => cases e; exact q
    | ct δ1 => cases e; exact q
    | rt d δ1 => cases e; exact q
def sRet (f : FE) : FS := fun δ => (f δ).map fun (d, δ') => .rt d δ'
theorem map_some2 {α β γ : Type} {o : Option (α × β)} {k : α × β → γ} {c : γ} (h : o.map k = some c) : ∃ a b, o = some (a, b) ∧ k (a, b) = c := by
  cases o with
  | none => cases h
  | some p => exact ⟨p.1, p.2, rfl, Option.some.inj h⟩
theorem st_ret {e : Expr} {f : FE} {pos : Pos} (h : PE X e (tD T f)) : PS X (.Return (some e) pos) (tSt T (sRet f)) := PS.imp (ps_ret h) fun E σ H ⟨S0, δ, r, ok, e, q⟩ => by
  obtain ⟨d, δ', e1, e2⟩ := map_some2 e
  subst e2
  exact ⟨S0, δ, d, δ', ok, e1, fun v H' ok' s r => q v σ H' ok' s r⟩
def sExpr (f : FE) : FS := fun δ => (f δ).map fun (_, δ') => .nx δ'
theorem st_expr {e : Expr} {f : FE} {pos : Pos} (h : PE X e (tD T f)) (hs : swapsWith e none pos.line X.env = pure false := by rfl) : PS X (.Expr e pos) (tSt T (sExpr f)) := PS.imp (ps_expr h hs) fun E σ H ⟨S0, δ, r, ok, e, q⟩ => by
  obtain ⟨d, δ', e1, e2⟩ := map_some2 e
  subst e2
  exact ⟨S0, δ, d, δ', ok, e1, fun v H' ok' s r => q σ H' ok' s⟩
/-- name = e -/
def sSet (i : Nat) (f : FE) : FS := fun δ => (f δ).map fun (d, δ') => .nx (δ'.set i (.val d))
theorem st_set (i : Nat) {x : Str} {e : Expr} {f : FE} {pos pos' : Pos} (hN : X.N.Nodup) (h : PE X e (tD T f)) (hi : X.N[i]? = some x := by rfl) (hx : Loc X.env.scope x := by first | exact .inl rfl | exact .inr rfl)
    (hs : swapsWith e (some (.Name x pos')) pos.line X.env = pure false := by rfl) (hf : X.fn x = true ∨ X.env.scope.names.lookup x = some .local := by first | exact .inl rfl | exact .inr rfl | assumption) :
    PS X (.Assign [.Name x pos'] e pos) (tSt T (sSet i f)) := PS.imp (ps_set hN hi hx h hs hf) fun E σ H ⟨S0, δ, r, ok, e, q⟩ => by
  obtain ⟨d, δ', e1, e2⟩ := map_some2 e
  subst e2
  refine ⟨S0, δ, d, δ', ok, e1, fun v H' ok' s r => ?_⟩
  obtain ⟨ok2, s2⟩ := ok'.store (i := i) r
  exact q _ H' ok2 (s.trans s2)
/-- a fresh list -/
def tF (T : CT) (f : FA) : TE := fun σ H Q => ∃ S0 δ ds δ', Ok T S0 σ δ H ∧ f δ = some (ds, δ') ∧ ∀ a vs H1, Ok T S0 σ δ' H1 → Step σ δ H σ δ' H1 → H1 a = none → Reps T H1 (Av S0 σ δ') ds vs → Q (.ref a) (upd H1 a (.lst vs))
def sOwn (i : Nat) (f : FA) : FS := fun δ => (f δ).map fun (ds, δ') => .nx (δ'.set i (.own .mine ds))
theorem st_own (i : Nat) {x : Str} {e : Expr} {f : FA} {pos pos' : Pos} (hN : X.N.Nodup) (h : PE X e (tF T f)) (hi : X.N[i]? = some x := by rfl) (hx : Loc X.env.scope x := by first | exact .inl rfl | exact .inr rfl)
    (hs : swapsWith e (some (.Name x pos')) pos.line X.env = pure false := by rfl) (hf : X.fn x = true ∨ X.env.scope.names.lookup x = some .local := by first | exact .inl rfl | exact .inr rfl | assumption) :
    PS X (.Assign [.Name x pos'] e pos) (tSt T (sOwn i f)) := PS.imp (ps_set hN hi hx h hs hf) fun E σ H ⟨S0, δ, r, ok, e, q⟩ => by
  obtain ⟨d, δ', e1, e2⟩ := map_some2 e
  subst e2
  refine ⟨S0, δ, d, δ', ok, e1, fun a vs H' ok' s ha r => ?_⟩
  obtain ⟨ok2, s2⟩ := ok'.storeOwn (i := i) ha r
  exact q _ _ ok2 (s.trans s2)
/-- a fresh list as a value -/
def fFr (f : FA) : FE := fun δ => (f δ).map fun (ds, δ') => (.lst ds, δ')
theorem pd_fr {e : Expr} {f : FA} (h : PE X e (tF T f)) : PE X e (tD T (fFr f)) := PE.imp h fun σ H Q ⟨S0, δ, d, δ', ok, e, q⟩ => by
  obtain ⟨ds, δ2, e1, e2⟩ := map_some2 e
  cases e2
  refine ⟨S0, δ, ds, δ', ok, e1, fun a vs H1 ok1 s ha r => ?_⟩
  have sm : Same H1 (upd H1 a (.lst vs)) := fun b o e => by rw [upd_ne (ne_of_none e ha)]; exact e
  refine q _ _ (ok1.same sm) (s.trans (Step.same sm)) ?_
  rw [Rep]
  exact ⟨a, vs, rfl, upd_same, ok1.fresh ha, r.same sm⟩
def big : Nat := 1000000
theorem big_line {n : Nat} (h : n ≤ big) : n ≤ sizeLine := Nat.le_trans h (by decide)
theorem big_line' {n : Nat} (h : n ≤ big) : n < sizeLine := Nat.lt_of_le_of_lt h (by decide)
def fLst (g : FA) : FA := fun δ => (g δ).bind fun (ds, δ') => if ds.length ≤ big then some (ds, δ') else none
theorem ite_some {α : Type} {c : Prop} [Decidable c] {a b : α} (h : (if c then some a else none) = some b) : c ∧ a = b := by
  by_cases q : c
  · rw [if_pos q] at h; exact ⟨q, Option.some.inj h⟩
  · rw [if_neg q] at h; cases h
theorem pf_lst {es : List Expr} {g : FA} {pos : Pos} (h : PA X es (tDs T g)) : PE X (.List es pos) (tF T (fLst g)) := PE.imp (pe_lst h) fun σ H Q ⟨S0, δ, ds, δ', ok, e, q⟩ => by
  obtain ⟨d1, δ1, e1, e2⟩ := bind_some2 e
  obtain ⟨hb, e2⟩ := ite_some e2
  cases e2
  exact ⟨S0, δ, ds, δ', ok, e1, fun vs H1 ok1 s r => ⟨by rw [r.length]; exact big_line hb, fun p hp => q p vs H1 ok1 s hp r⟩⟩
def fTup (g : FA) : FE := fun δ => (g δ).bind fun (ds, δ') => if ds.length ≤ big then some (.tup ds, δ') else none
theorem pd_tup {es : List Expr} {g : FA} {k : Nat} {pos : Pos} (h : PA X es (tDs T g)) : PE X (.Tuple es k pos) (tD T (fTup g)) := PE.imp (pe_tup h) fun σ H Q ⟨S0, δ, ds, δ', ok, e, q⟩ => by
  obtain ⟨d1, δ1, e1, e2⟩ := bind_some2 e
  obtain ⟨hb, e2⟩ := ite_some e2
  cases e2
  refine ⟨S0, δ, d1, δ', ok, e1, fun vs H1 ok1 s r => ⟨by rw [r.length]; exact big_line hb, fun p hp => ?_⟩⟩
  have sm : Same H1 (upd H1 p (.tup vs)) := fun b o e => by rw [upd_ne (ne_of_none e hp)]; exact e
  refine q _ _ (ok1.same sm) (s.trans (Step.same sm)) ?_
  rw [Rep]
  exact ⟨p, vs, rfl, upd_same, ok1.fresh hp, r.same sm⟩

/-! ### tests and branches -/
def fB (f : FE) : FT := fun δ => (f δ).bind fun (d, δ') => match d with
  | .bl b => some (b, δ')
  | _ => none
theorem fB_some {f : FE} {δ δ' : Es} {b : Bool} (h : fB f δ = some (b, δ')) : f δ = some (.bl b, δ') := by
  obtain ⟨d, δ1, e1, e2⟩ := bind_some2 h
  cases d <;> first | (cases e2; exact e1) | cases e2
theorem rep_bl {H : Hp} {S : Addr → Prop} {b : Bool} {v : V} (h : Rep T H S (.bl b) v) : v = .bl b := by rwa [Rep] at h
theorem rep_int {H : Hp} {S : Addr → Prop} {b : Int} {v : V} (h : Rep T H S (.int b) v) : v = .int b := by rwa [Rep] at h
theorem rep_str {H : Hp} {S : Addr → Prop} {b : Str} {v : V} (h : Rep T H S (.str b) v) : v = .str b := by rwa [Rep] at h
theorem rep_non {H : Hp} {S : Addr → Prop} {v : V} (h : Rep T H S .non v) : v = .non := by rwa [Rep] at h
theorem pt_d {e : Expr} {f : FE} (h : PE X e (tD T f)) (he : ∀ whole, isTrue e X.env whole = (do let v ← whole; standAt e.pos; holding [v] (truthy v)) := by intro _; rfl) : PT X e (tDt T (fB f)) := PT.imp (pt_val h he) fun σ H Q ⟨S0, δ, d, δ', ok, e, q⟩ => by
  have e1 := fB_some e
  exact ⟨S0, δ, _, δ', ok, e1, fun v H' ok' s r => ⟨d, rep_bl r, q H' ok' s⟩⟩
def fNot (f : FT) : FT := fun δ => (f δ).map fun (b, δ') => (!b, δ')
theorem pt_n {e : Expr} {f : FT} {pos : Pos} (h : PT X e (tDt T f)) : PT X (.UnaryOp .Not e pos) (tDt T (fNot f)) := PT.imp (pt_not h) fun σ H Q ⟨S0, δ, d, δ', ok, e, q⟩ => by
  obtain ⟨b, δ1, e1, e2⟩ := map_some2 e
  cases e2
  exact ⟨S0, δ, b, δ', ok, e1, fun H' ok' s => q H' ok' s⟩
def fAnd (f g : FT) : FT := fun δ => (f δ).bind fun (b, δ1) => if b = true then g δ1 else some (false, δ1)
def fOr (f g : FT) : FT := fun δ => (f δ).bind fun (b, δ1) => if b = true then some (true, δ1) else g δ1
theorem w_and1 {a : Expr} {f : FT} {pos : Pos} (h : PT X a (tDt T f)) : PW X (.BoolOp .And [a] pos) (tDt T f) := pw_and1 h
theorem w_or1 {a : Expr} {f : FT} {pos : Pos} (h : PT X a (tDt T f)) : PW X (.BoolOp .Or [a] pos) (tDt T f) := pw_or1 h
theorem w_and {a b : Expr} {rest : List Expr} {f g : FT} {pos : Pos} (ha : PT X a (tDt T f)) (hb : PW X (.BoolOp .And (b :: rest) pos) (tDt T g)) : PW X (.BoolOp .And (a :: b :: rest) pos) (tDt T (fAnd f g)) := PW.imp (pw_and ha hb) fun σ H Q ⟨S0, δ, d, δ', ok, e, q⟩ => by
  obtain ⟨c, δ1, e1, e2⟩ := bind_some2 e
  refine ⟨S0, δ, c, δ1, ok, e1, fun H1 ok1 s1 => ?_⟩
  cases c with
  | true => (try dsimp only at e2); rw [if_pos rfl] at e2 ⊢; exact ⟨S0, δ1, d, δ', ok1, e2, fun H' ok' s => q H' ok' (s1.trans s)⟩
  | false => (try dsimp only at e2); rw [if_neg Bool.false_ne_true] at e2 ⊢; cases e2; exact q H1 ok1 s1
theorem w_or {a b : Expr} {rest : List Expr} {f g : FT} {pos : Pos} (ha : PT X a (tDt T f)) (hb : PW X (.BoolOp .Or (b :: rest) pos) (tDt T g)) : PW X (.BoolOp .Or (a :: b :: rest) pos) (tDt T (fOr f g)) := PW.imp (pw_or ha hb) fun σ H Q ⟨S0, δ, d, δ', ok, e, q⟩ => by
  obtain ⟨c, δ1, e1, e2⟩ := bind_some2 e
  refine ⟨S0, δ, c, δ1, ok, e1, fun H1 ok1 s1 => ?_⟩
  cases c with
  | false => (try dsimp only at e2); rw [if_neg Bool.false_ne_true] at e2 ⊢; exact ⟨S0, δ1, d, δ', ok1, e2, fun H' ok' s => q H' ok' (s1.trans s)⟩
  | true => (try dsimp only at e2); rw [if_pos rfl] at e2 ⊢; cases e2; exact q H1 ok1 s1
def fIf (c : FT) (f g : FE) : FE := fun δ => (c δ).bind fun (b, δ1) => if b = true then f δ1 else g δ1
theorem pd_if {c a b : Expr} {fc : FT} {f g : FE} {pos : Pos} (hc : PT X c (tDt T fc)) (ha : PE X a (tD T f)) (hb : PE X b (tD T g)) : PE X (.IfExp c a b pos) (tD T (fIf fc f g)) := PE.imp (pe_ifExp hc ha hb) fun σ H Q ⟨S0, δ, d, δ', ok, e, q⟩ => by
  obtain ⟨k, δ1, e1, e2⟩ := bind_some2 e
  refine ⟨S0, δ, k, δ1, ok, e1, fun H1 ok1 s1 => ?_⟩
  cases k with
  | true => (try dsimp only at e2); rw [if_pos rfl] at e2 ⊢; exact ⟨S0, δ1, d, δ', ok1, e2, fun v H' ok' s => q v H' ok' (s1.trans s)⟩
  | false => (try dsimp only at e2); rw [if_neg Bool.false_ne_true] at e2 ⊢; exact ⟨S0, δ1, d, δ', ok1, e2, fun v H' ok' s => q v H' ok' (s1.trans s)⟩
/-- and, or, not as values -/
def fAndV (f g : FE) : FE := fun δ => (fB f δ).bind fun (b, δ1) => if b = true then g δ1 else some (.bl false, δ1)
def fOrV (f g : FE) : FE := fun δ => (fB f δ).bind fun (b, δ1) => if b = true then some (.bl true, δ1) else g δ1
def fNotV (f : FE) : FE := fun δ => (fB f δ).map fun (b, δ1) => (.bl (!b), δ1)
theorem pd_one {op} {a : Expr} {f : FE} {pos : Pos} (h : PE X a (tD T f)) : PE X (.BoolOp op [a] pos) (tD T f) := pe_one h
theorem pd_and {a b : Expr} {rest : List Expr} {f g : FE} {pos : Pos} (ha : PE X a (tD T f)) (hb : PE X (.BoolOp .And (b :: rest) pos) (tD T g)) : PE X (.BoolOp .And (a :: b :: rest) pos) (tD T (fAndV f g)) := PE.imp (pe_and ha hb) fun σ H Q ⟨S0, δ, d, δ', ok, e, q⟩ => by
  obtain ⟨c, δ1, e1, e2⟩ := bind_some2 e
  refine ⟨S0, δ, _, δ1, ok, fB_some e1, fun v H1 ok1 s1 r => ⟨c, rep_bl r, ?_⟩⟩
  cases c with
  | true => (try dsimp only at e2); rw [if_pos rfl] at e2 ⊢; exact ⟨S0, δ1, d, δ', ok1, e2, fun v H' ok' s => q v H' ok' (s1.trans s)⟩
  | false => (try dsimp only at e2); rw [if_neg Bool.false_ne_true] at e2 ⊢; cases e2; exact q _ H1 ok1 s1 (rep_lit rfl)
theorem pd_or {a b : Expr} {rest : List Expr} {f g : FE} {pos : Pos} (ha : PE X a (tD T f)) (hb : PE X (.BoolOp .Or (b :: rest) pos) (tD T g)) : PE X (.BoolOp .Or (a :: b :: rest) pos) (tD T (fOrV f g)) := PE.imp (pe_or ha hb) fun σ H Q ⟨S0, δ, d, δ', ok, e, q⟩ => by
  obtain ⟨c, δ1, e1, e2⟩ := bind_some2 e
  refine ⟨S0, δ, _, δ1, ok, fB_some e1, fun v H1 ok1 s1 r => ⟨c, rep_bl r, ?_⟩⟩
  cases c with
  | false => (try dsimp only at e2); rw [if_neg Bool.false_ne_true] at e2 ⊢; exact ⟨S0, δ1, d, δ', ok1, e2, fun v H' ok' s => q v H' ok' (s1.trans s)⟩
  | true => (try dsimp only at e2); rw [if_pos rfl] at e2 ⊢; cases e2; exact q _ H1 ok1 s1 (rep_lit rfl)
theorem pd_not {e : Expr} {f : FE} {pos : Pos} (h : PE X e (tD T f)) : PE X (.UnaryOp .Not e pos) (tD T (fNotV f)) := PE.imp (pe_not h) fun σ H Q ⟨S0, δ, d, δ', ok, e, q⟩ => by
  obtain ⟨b, δ1, e1, e2⟩ := map_some2 e
  cases e2
  exact ⟨S0, δ, _, δ', ok, fB_some e1, fun v H' ok' s r => ⟨b, rep_bl r, q _ H' ok' s (rep_lit rfl)⟩⟩
def sIf (c : FT) (g h : FS) : FS := fun δ => (c δ).bind fun (b, δ1) => if b = true then g δ1 else h δ1
theorem st_if {c : Expr} {a b : List Stmt} {fc : FT} {g h : FS} {pos : Pos} (hc : PT X c (tDt T fc)) (ha : PSs X a (tSt T g)) (hb : PSs X b (tSt T h)) : PS X (.If c a b pos) (tSt T (sIf fc g h)) := PS.imp (ps_if hc ha hb) fun E σ H ⟨S0, δ, r, ok, e, q⟩ => by
  obtain ⟨k, δ1, e1, e2⟩ := bind_some2 e
  refine ⟨S0, δ, k, δ1, ok, e1, fun H1 ok1 s1 => ?_⟩
  cases k with
  | true => (try dsimp only at e2); rw [if_pos rfl] at e2 ⊢; exact ⟨S0, δ1, r, ok1, e2, flQ.back s1 q⟩
  | false => (try dsimp only at e2); rw [if_neg Bool.false_ne_true] at e2 ⊢; exact ⟨S0, δ1, r, ok1, e2, flQ.back s1 q⟩
/-- what is never come to -/
def sNo : FS := fun _ => none
theorem st_no {st : Stmt} : PS X st (tSt T sNo) := PS.imp ps_never fun E σ H ⟨S0, δ, r, ok, e, q⟩ => by cases e
def sBk : FS := fun δ => some (.bk δ)
def sCt : FS := fun δ => some (.ct δ)
theorem st_break {pos : Pos} : PS X (.Break pos) (tSt T sBk) := PS.imp ps_break fun E σ H ⟨S0, δ, r, ok, e, q⟩ => by cases e; exact q σ H ok Step.refl
theorem st_continue {pos : Pos} : PS X (.Continue pos) (tSt T sCt) := PS.imp ps_continue fun E σ H ⟨S0, δ, r, ok, e, q⟩ => by cases e; exact q σ H ok Step.refl
theorem st_pass {pos : Pos} : PS X (.Pass pos) (tSt T sNil) := PS.imp ps_pass fun E σ H ⟨S0, δ, r, ok, e, q⟩ => by cases e; exact q σ H ok Step.refl

/-! ### operators -/
/-- by values: what r asks follows from what g gives -/
def OpV (T : CT) (r : R2) (g : D → D → Option D) : Prop := ∀ (S : Addr → Prop) (x y : D) (vx vy : V) (H : Hp) (d : D) (Q : VK), (∀ b, S b → ∃ o, H b = some o) → Rep T H S x vx → Rep T H S y vy → g x y = some d →
  (∀ v H', Same H H' → Rep T H' S d v → Q v H') → r vx vy H Q
def fBin (g : D → D → Option D) (fa fb : FE) : FE := fun δ => (fa δ).bind fun (x, δ1) => (fb δ1).bind fun (y, δ2) => (g x y).map fun d => (d, δ2)
theorem map_some1 {α γ : Type} {o : Option α} {k : α → γ} {c : γ} (h : o.map k = some c) : ∃ a, o = some a ∧ k a = c := by
  cases o with
  | none => cases h
  | some p => exact ⟨p, rfl, Option.some.inj h⟩
theorem bin_imp {r : R2} {g : D → D → Option D} {fa fb : FE} (hv : OpV T r g) {σ : L2.St} {H : Hp} {Q : VK} (h : tD T (fBin g fa fb) σ H Q) : tOp r (tD T fa) (tD T fb) σ H Q := by
  obtain ⟨S0, δ, d, δ', ok, e, q⟩ := h
  obtain ⟨x, δ1, e1, e2⟩ := bind_some2 e
  obtain ⟨y, δ2, e2, e3⟩ := bind_some2 e2
  dsimp only at e3
  obtain ⟨z, e5, e4⟩ := map_some1 e3
  cases e4
  refine ⟨S0, δ, x, δ1, ok, e1, fun vx H1 ok1 s1 r1 => ⟨S0, δ1, y, δ', ok1, e2, fun vy H2 ok2 s2 r2 => ?_⟩⟩
  exact hv _ x y vx vy H2 d Q (fun b z => ok2.trk z) (s2.rep r1) r2 e5 fun v H' sm r => q v H' (ok2.same sm) ((s1.trans s2).trans (Step.same sm)) r
theorem pd_op {a b : Expr} {op : Operator} {r : R2} {g : D → D → Option D} {fa fb : FE} {pos : Pos} (ho : OpR X (binaryOp op) r) (hv : OpV T r g) (ha : PE X a (tD T fa)) (hb : PE X b (tD T fb)) : PE X (.BinOp a op b pos) (tD T (fBin g fa fb)) :=
  PE.imp (pe_op ho ha hb) fun _ _ _ h => bin_imp hv h
theorem pd_cmp {a b : Expr} {op : CmpOp} {r : R2} {g : D → D → Option D} {fa fb : FE} {pos : Pos} (ho : OpR X (compareOp op) r) (hv : OpV T r g) (ha : PE X a (tD T fa)) (hb : PE X b (tD T fb)) (hm : behindInMarks op b = false) : PE X (.Compare a [op] [b] pos) (tD T (fBin g fa fb)) :=
  PE.imp (pe_cmpR ho ha hb hm) fun _ _ _ h => bin_imp hv h
theorem pt_cmp' {a b : Expr} {op : CmpOp} {r : R2} {g : D → D → Option D} {fa fb : FE} {pos : Pos} (ho : OpR X (compareOp op) r) (hv : OpV T r g) (ha : PE X a (tD T fa)) (hb : PE X b (tD T fb)) (hm : behindInMarks op b = false) : PT X (.Compare a [op] [b] pos) (tDt T (fB (fBin g fa fb))) :=
  PT.imp (pt_cmpR ho ha hb hm) fun σ H Q ⟨S0, δ, d, δ', ok, e, q⟩ => by
    refine bin_imp hv ⟨S0, δ, .bl d, δ', ok, fB_some e, fun v H' ok' s r => ⟨d, rep_bl r, q H' ok' s⟩⟩
def gOr (g g' : D → D → Option D) : D → D → Option D := fun x y => match g x y with
  | some d => some d
  | none => g' x y
theorem OpV.or {r r' : R2} {g g' : D → D → Option D} (h : OpV T r g) (h' : OpV T r' g') : OpV T (fun x y H Q => r x y H Q ∨ r' x y H Q) (gOr g g') := by
  intro S x y vx vy H d Q ht rx ry e q
  unfold gOr at e
  cases z : g x y with
  | some d' => rw [z] at e; cases e; exact .inl (h S x y vx vy H d Q ht rx ry z q)
  | none => rw [z] at e; exact .inr (h' S x y vx vy H d Q ht rx ry e q)
theorem OpR.or {f : Value → Value → Sem Value} {r r' : R2} (h : OpR X f r) (h' : OpR X f r') : OpR X f (fun x y H Q => r x y H Q ∨ r' x y H Q) := by
  intro pins s σ H x y v u Q I rx ry hq
  rcases hq with hq | hq
  · exact h pins s σ H x y v u Q I rx ry hq
  · exact h' pins s σ H x y v u Q I rx ry hq
/-- ints -/
def gI (C : Int → Int → Bool) (k : Int → Int → D) : D → D → Option D
  | .int i, .int j => if C i j = true then some (k i j) else none
  | _, _ => none
theorem opv_I {C : Int → Int → Prop} {c : Int → Int → Bool} {g : Int → Int → V} {k : Int → Int → D} (hc : ∀ i j, c i j = true → C i j) (hl : ∀ i j, litV (k i j) = some (g i j)) : OpV T (rI C g) (gI c k) := by
  intro S x y vx vy H d Q ht rx ry e q
  cases x <;> cases y <;> first | cases e | skip
  rename_i i j
  rw [rep_int rx, rep_int ry]
  obtain ⟨h1, h2⟩ := ite_some e
  subst h2
  exact ⟨i, j, rfl, rfl, hc i j h1, q _ H (Same.refl _) (rep_lit (hl i j))⟩
def gI0 (k : Int → Int → D) : D → D → Option D
  | .int i, .int j => some (k i j)
  | _, _ => none
theorem opv_I0 {g : Int → Int → V} {k : Int → Int → D} (hl : ∀ i j, litV (k i j) = some (g i j)) : OpV T (rI0 g) (gI0 k) := by
  intro S x y vx vy H d Q ht rx ry e q
  cases x <;> cases y <;> first | cases e | skip
  rename_i i j
  rw [rep_int rx, rep_int ry]
  exact ⟨i, j, rfl, rfl, q _ H (Same.refl _) (rep_lit (hl i j))⟩
/-- == and != of None, truths, ints, texts -/
def flatD : D → Bool
  | .non => true | .bl _ => true | .int _ => true | .str _ => true | _ => false
end
end Dl
/-! Promises that hold where no text of an object is being made: the hand layer's, with that one fact more. -/
namespace Dl
open PySem PySem.Spec PyProof.Rows L2
/-- nothing's text is being made -/
def Quiet (A : Around) : Prop := A.guards = some []
structure FnG (P : Program) (w : World) (K : PySem.W.Frag) (mg : Str → Option Value) (base : Heap) (k : Nat) (f : Addr) (fd : FuncData) (ps : List Str) (sp : Sp) : Prop where
  len : ∀ vs H Q E, sp vs H Q E → vs.length = ps.length
  run : ∀ (A : Around) (outer : List PySem.Env) (s : Shared) (H : Hp) (args : Args) (us : List Value) (vs : List V) (Q : VK) (E : XK), Quiet A → Room k A → Env0 P w K mg base A outer s H → BindsTo s fd args (ps.zip us) → Vals vs us → sp vs H Q E →
    codeAny (model P w) A (.call (.ref f) args) (CR CX0 outer P w H s Q E) s
section
variable {P : Program} {w : World} {K : PySem.W.Frag} {mg : Str → Option Value} {base : Heap} {j k : Nat} {f : Addr} {fd : FuncData} {ps : List Str} {sp sp' : Sp}
theorem FnG.mono (F : FnG P w K mg base j f fd ps sp) (h : j ≤ k) : FnG P w K mg base k f fd ps sp := ⟨F.len, fun A o s H a us vs Q E q hr => F.run A o s H a us vs Q E q (hr.mono h)⟩
theorem FnG.imp (F : FnG P w K mg base k f fd ps sp) (h : ∀ vs H Q E, sp' vs H Q E → sp vs H Q E) : FnG P w K mg base k f fd ps sp' :=
  ⟨fun vs H Q E q => F.len vs H Q E (h _ _ _ _ q), fun A o s H a us vs Q E q hr he hb hv hs => F.run A o s H a us vs Q E q hr he hb hv (h _ _ _ _ hs)⟩
/-- a def's body keeps its promise -/
theorem fnG_of {x qual : Str} {params : Arguments} {bd : List Stmt} {scope : Scope} {dV kV doc pm cdv ct oc : Value} {an od : Option Addr} {osl : Array (Option Value)} {N : List Str}
    (lk : K.lookup f = some ⟨oc, od, .func (PySem.W.fnOf x qual params bd scope dV kV doc pm an cdv ct), osl⟩) (hcd : PySem.W.codeIn K cdv qual = true) (S : FnScope N ps scope) (len : ∀ vs H Q E, sp vs H Q E → vs.length = ps.length)
    (body : ∀ (A : Around) (outer : List PySem.Env) (s : Shared) (H : Hp) (vs : List V) (Q : VK) (E : XK), Quiet A → Room k (A.deeper (envOfC qual scope s.heap.objs.size f cdv)) → sp vs H Q E →
      ∃ t, PSs (cxOf CX0 P w K mg base N qual scope f cdv A outer s H E).nox bd t ∧ t { nx := fun _ H' => Q .non H', rt := Q } (L2.start N vs) H) : FnG P w K mg base (k + 1) f (PySem.W.fnOf x qual params bd scope dV kV doc pm an cdv ct) ps sp := by
  refine ⟨len, fun A outer s H args us vs Q E hq hr e0 hb r hsp => ?_⟩
  have kept : ∀ b o, base.get? b = some o → s.heap.get? b = some o := fun b o e => (e0.bs b o e).1
  have hkind : ∀ y ∈ ps.zip us, scope.names.lookup y.1 = some .local ∨ (scope.names.lookup y.1 = some .cell ∧ ((cellsFrom (s.heap.objs.size + 1) scope.names []).lookup y.1).isSome = true) := by
    intro y hy
    obtain ⟨n, v⟩ := y
    exact (S.par n (List.of_mem_zip hy).1).imp id fun q => ⟨q, PySem.W.cellsFrom_some _ _ _ (.inl q)⟩
  have KS : K.In s.heap := e0.mod.kin.keeps kept
  apply codeAny_call_function hr.depth (KS _ _ lk) rfl S.co S.gen rfl (PySem.W.codeRec_of KS hcd)
  apply hb
  apply wpAny_newFunctionEnv_cells S.kind hkind
  intro env he s1 x
  subst he
  obtain ⟨t, ht, ha⟩ := body A outer s H vs Q E hq (hr.deeper _) hsp
  have J0 : Inv (cxOf CX0 P w K mg base N qual scope f cdv A outer s H E) [] (L2.start N vs) H s1 := inv_start S hr.hd e0 (len _ _ _ _ hsp) r x
  refine ⟨(e0.mod.nolimit.keeps kept).keeps x.toInCall.keep, codeAny_func (wpAny_mono (ht.nox.run [] s1 (L2.start N vs) H _ J0 ha) (fun fl s' hs => ?_) fun _ _ z => z)⟩
  match fl, hs with
  | .ret u, ⟨v, σ', H', J, rv, q⟩ => exact ⟨v, H', J.os, J.bare, J.base, J.hok, rv, q⟩
  | .next, ⟨σ', H', J, q⟩ => exact ⟨V.non, H', J.os, J.bare, J.base, J.hok, rfl, q⟩
  | .brk, ⟨_, _, _, q⟩ => exact q.elim
  | .cont, ⟨_, _, _, q⟩ => exact q.elim
end

/-! ### how arguments come to parameters, by data -/
/-- n values, the keywords ks: gD puts their data in the parameters' order, defaults among them -/
def Bnd (K : PySem.W.Frag) (fd : FuncData) (ps : List Str) (n : Nat) (ks : List Str) (gD : List D → List D → List D) : Prop :=
  ∃ g gV, KBn K fd ps n ks g gV ∧ ∀ (T : CT) (H : Hp) (S : Addr → Prop) (ds es : List D) (vs zs : List V), ds.length = n → es.length = ks.length → Reps T H S ds vs → Reps T H S es zs → Reps T H S (gD ds es) (gV vs zs)
def gPos (dd : List D) : List D → List D → List D := fun ds es => ds ++ es ++ dd
def Lits (dd : List D) (dvs : List V) : Prop := ∀ (T : CT) (H : Hp) (S : Addr → Prop), Reps T H S dd dvs
theorem lits_nil : Lits [] [] := fun _ _ _ => Reps.nil
theorem lits_cons {d : D} {v : V} {dd : List D} {dvs : List V} (h : litV d = some v) (hs : Lits dd dvs) : Lits (d :: dd) (v :: dvs) := fun T H S => Reps.cons (rep_lit h) (hs T H S)
theorem bnd_of {K : PySem.W.Frag} {fd : FuncData} {ps : List Str} {ds : List Value} {dvs : List V} {dd : List D} (n : Nat) (hb : Binds K fd ps ds) (hd : Vals dvs ds) (hl : Lits dd dvs) (hn : n + dvs.length = ps.length) : Bnd K fd ps n [] (gPos dd) := by
  refine ⟨fun us _ => us ++ ds, fun vs _ => vs ++ dvs, ⟨fun s us ws X l1 l2 => ?_, fun r _ => r.append hd⟩, fun T H S d e vs zs _ he r r2 => ?_⟩
  · have : ws = [] := by cases ws with | nil => rfl | cons _ _ => cases l2
    subst this
    exact hb s us X (by rw [List.length_append, l1, ← hd.length, hn])
  · cases e with
    | nil => rw [gPos, List.append_nil]; exact r.append (hl T H S)
    | cons _ _ => cases he
/-- keywords that follow in the parameters' order, all given -/
theorem bnd_kw {K : PySem.W.Frag} {x qual : Str} {st : Stmt} {f : Addr} {fd : FuncData} {ps : List Str} (n : Nat) (ks : List Str) (F : Fun K x qual st f fd)
    (h : ∀ (kV doc pm : Value) (an : Option Addr) (cdv ct : Value) (us ws : List Value), us.length = n → ws.length = ks.length → bindArgs (PySem.W.fnOf x qual (defArgs st) (defBody st) (defScope st) .none kV doc pm an cdv ct) ⟨us, ks.zip ws⟩ = pure (ps.zip (us ++ ws))) : Bnd K fd ps n ks (gPos []) := by
  obtain ⟨oc, od, kV, doc, pm, an, cdv, ct, osl, rfl, lk, hcd⟩ := F.ex
  refine ⟨fun us ws => us ++ ws, fun vs zs => vs ++ zs, ⟨fun s us ws X l1 l2 => .of_eq (h kV doc pm an cdv ct us ws l1 l2), fun r1 r2 => r1.append r2⟩, fun T H S d e vs zs _ _ r r2 => ?_⟩
  rw [gPos, List.append_nil]
  exact r.append r2

section
variable {X : Cx} {T : CT} {k n : Nat} {f C : Addr} {fd : FuncData} {ps ks : List Str} {sp : Sp} {E : XK} {x m : Str} {p pos apos : Pos} {e o : Expr} {es : List Expr} {kws : List Keyword} {ta : TE} {t tk : TA} {g : List Value → List Value → List Value} {gV : List V → List V → List V}
theorem endG {pins : List (Addr × Obj)} {σ : L2.St} {H : Hp} {s : Shared} {Q : VK} (I : Inv X pins σ H s) : ∀ (r : Result) (s' : Shared), CR CX0 X.stack X.prog X.w H s Q E r s' → (match r with
    | .ok (.ret v) => EP X pins σ Q v s'
    | .ok _ => False
    | .error e => X.xe e s')
  | .error _, _, h => (h : False).elim
  | .ok (.ret _), _, h => I.after h
  | .ok .next, _, h => (h : False).elim
  | .ok .brk, _, h => (h : False).elim
  | .ok .cont, _, h => (h : False).elim
theorem run_fnG {pins : List (Addr × Obj)} {σ : L2.St} {H : Hp} {s : Shared} {Q : VK} {us ws : List Value} {vs zs : List V} (F : FnG X.prog X.w X.K X.mg X.base k f fd ps sp) (hq : Quiet X.A) (hr : Room k X.A) (hb : KBn X.K fd ps n ks g gV)
    (I : Inv X pins σ H s) (r : Vals vs us) (rz : Vals zs ws) (l1 : vs.length = n) (l2 : zs.length = ks.length) (h : sp (gV vs zs) H Q E) : wpAny (model X.prog X.w) X.A (call (.ref f) us (ks.zip ws)) (EP X pins σ Q) X.xe s := by
  apply wpAny_call
  refine codeAny_mono (F.run X.A X.stack s H ⟨us, ks.zip ws⟩ (g us ws) (gV vs zs) Q E hq hr I.env0 (hb.to s us ws I.kIn (r.length.symm.trans l1) (rz.length.symm.trans l2)) (hb.rel r rz) h) fun z s' hz => ?_
  have e := endG I z s' hz
  match z, e with
  | .ok (.ret _), e => exact e
  | .error _, e => exact e
/-- f(e, .., k = v, ..) -/
theorem pe_callG (F : FnG X.prog X.w X.K X.mg X.base k f fd ps sp) (hq : Quiet X.A) (hr : Room k X.A) (hm : X.mg x = some (.ref f)) (hk : PySem.W.keepIn X.K (.ref f) = true) (hb : KBn X.K fd ps n ks g gV) (ha : PA X (e :: es) t) (hkw : PK X kws tk) (hg : Gl X x)
    (hall : (backToKw pos (keywordEach kws X.env)).all (·.1.isSome) = true) (hks : (backToKw pos (keywordEach kws X.env)).filterMap (·.1) = ks) (hdb : (x == ("__debug__" : Str)) = false) (he : starEach (e :: es) X.env = (false, eval e X.env) :: starEach es X.env)
    (hpl : ((backTo pos (starEach (e :: es) X.env)).any (·.1) || (backToKw pos (keywordEach kws X.env)).any (·.1.isNone)) = false) : PE X (.Call (.Name x p) (e :: es) kws pos) (tCallN n ks.length sp gV E t tk) := by
  constructor
  intro pins s σ H Q I h
  apply wpAny_Call_Name_kw
  apply ld_glob I hg hm _ hdb
  refine PySem.W.callWith_KW (h₀ := X.base) I.ok.mod.kin hk hall (thn (ha.run pos pins s σ H _ I h) ?_) hpl he
  rintro us s1 ⟨vs, H1, I1, r, q⟩
  refine thn (hkw.run pos pins s1 σ H1 _ I1 q) ?_
  rintro ws s2 ⟨zs, H2, I2, rz, l1, l2, q2⟩
  refine ⟨I2.kIn, ?_⟩
  rw [hks]
  exact run_fnG F hq hr hb I2 r rz l1 l2 q2
theorem pe_callG0 (F : FnG X.prog X.w X.K X.mg X.base k f fd ps sp) (hq : Quiet X.A) (hr : Room k X.A) (hm : X.mg x = some (.ref f)) (hk : PySem.W.keepIn X.K (.ref f) = true) (hb : KBn X.K fd ps n ks g gV) (hkw : PK X kws tk) (hg : Gl X x)
    (hall : (backToKw pos (keywordEach kws X.env)).all (·.1.isSome) = true) (hks : (backToKw pos (keywordEach kws X.env)).filterMap (·.1) = ks) (hdb : (x == ("__debug__" : Str)) = false)
    (hpl : ((backTo pos (starEach [] X.env)).any (·.1) || (backToKw pos (keywordEach kws X.env)).any (·.1.isNone)) = false) : PE X (.Call (.Name x p) [] kws pos) (tCallN n ks.length sp gV E tNil tk) := by
  constructor
  intro pins s σ H Q I h
  apply wpAny_Call_Name_kw
  apply ld_glob I hg hm _ hdb
  refine PySem.W.callWith_KW0 (h₀ := X.base) I.ok.mod.kin hk hall (thn (hkw.run pos pins s σ H _ I h) ?_) hpl
  rintro ws s2 ⟨zs, H2, I2, rz, l1, l2, q2⟩
  refine ⟨I2.kIn, ?_⟩
  rw [hks]
  exact run_fnG (us := []) (vs := []) F hq hr hb I2 .nil rz l1 l2 q2
/-- o.m(..): self and n - 1 values, the keywords -/
def tMethN (C : Addr) (m : Str) (n j : Nat) (sp : Sp) (gV : List V → List V → List V) (E : XK) (ta : TE) (t tk : TA) : TE := fun σ H Q => ta σ H fun x H1 => ∃ a dx fs, x = .ref a ∧ H1 a = some (.ins C dx fs) ∧ fs.lookup m = none ∧
  t σ H1 fun vs H2 => tk σ H2 fun zs H3 => vs.length + 1 = n ∧ zs.length = j ∧ sp (gV (x :: vs) zs) H3 Q E
theorem pe_methG {pl : Sem Bool} (ho : PE X o ta) (c : Cls X.K C) (hm : Meth X.K C m f) (F : FnG X.prog X.w X.K X.mg X.base k f fd ps sp) (hq : Quiet X.A) (hr : Room k X.A) (hb : KBn X.K fd ps n ks g gV) (ha : PA X (e :: es) t) (hkw : PK X kws tk)
    (hall : (backToKw pos (keywordEach kws X.env)).all (·.1.isSome) = true) (hks : (backToKw pos (keywordEach kws X.env)).filterMap (·.1) = ks) (he : starEach (e :: es) X.env = (false, eval e X.env) :: starEach es X.env)
    (hpl : ((backTo pos (starEach (e :: es) X.env)).any (·.1) || (backToKw pos (keywordEach kws X.env)).any (·.1.isNone)) = false)
    (ht : eval (.Call (.Attribute o m apos) (e :: es) kws pos) X.env = (do
      let y ← eval o X.env
      standAt apos.atName
      let (h, first) ← holding [y] (getMethod y m pl)
      callWith pos h first (backTo pos (starEach (e :: es) X.env)) (backToKw pos (keywordEach kws X.env)))) : PE X (.Call (.Attribute o m apos) (e :: es) kws pos) (tMethN C m n ks.length sp gV E ta t tk) := by
  constructor
  intro pins s σ H Q I h
  refine PySem.W.methodCall_KW (pl := pl) (thn (ho.run pins s σ H _ I h) ?_) ht
  rintro u s1 ⟨x, H1, I1, rx, a, dx, fs, rfl, ea, l, q⟩
  cases (show u = Value.ref a from rx)
  refine getmeth_ok I1 ea c hm l ?_
  refine PySem.W.callWith_KW (first := [.ref a]) (h₀ := X.base) I.ok.mod.kin hm.kp hall (thn (ha.run pos pins s1 σ H1 _ I1 q) ?_) hpl he
  rintro us s2 ⟨vs, H2, I2, r, q2⟩
  refine thn (hkw.run pos pins s2 σ H2 _ I2 q2) ?_
  rintro ws s3 ⟨zs, H3, I3, rz, l1, l2, q3⟩
  refine ⟨I3.kIn, ?_⟩
  rw [hks]
  exact run_fnG (us := .ref a :: us) (vs := .ref a :: vs) F hq hr hb I3 (.cons rfl r) rz l1 l2 q3
theorem pe_methG0 {pl : Sem Bool} (ho : PE X o ta) (c : Cls X.K C) (hm : Meth X.K C m f) (F : FnG X.prog X.w X.K X.mg X.base k f fd ps sp) (hq : Quiet X.A) (hr : Room k X.A) (hb : KBn X.K fd ps n ks g gV) (hkw : PK X kws tk)
    (hall : (backToKw pos (keywordEach kws X.env)).all (·.1.isSome) = true) (hks : (backToKw pos (keywordEach kws X.env)).filterMap (·.1) = ks)
    (hpl : ((backTo pos (starEach [] X.env)).any (·.1) || (backToKw pos (keywordEach kws X.env)).any (·.1.isNone)) = false)
    (ht : eval (.Call (.Attribute o m apos) [] kws pos) X.env = (do
      let y ← eval o X.env
      standAt apos.atName
      let (h, first) ← holding [y] (getMethod y m pl)
      callWith pos h first (backTo pos (starEach [] X.env)) (backToKw pos (keywordEach kws X.env)))) : PE X (.Call (.Attribute o m apos) [] kws pos) (tMethN C m n ks.length sp gV E ta tNil tk) := by
  constructor
  intro pins s σ H Q I h
  refine PySem.W.methodCall_KW (pl := pl) (thn (ho.run pins s σ H _ I h) ?_) ht
  rintro u s1 ⟨x, H1, I1, rx, a, dx, fs, rfl, ea, l, q⟩
  cases (show u = Value.ref a from rx)
  refine getmeth_ok I1 ea c hm l ?_
  refine PySem.W.callWith_KW0 (first := [.ref a]) (h₀ := X.base) I.ok.mod.kin hm.kp hall (thn (hkw.run pos pins s1 σ H1 _ I1 q) ?_) hpl
  rintro ws s3 ⟨zs, H3, I3, rz, l1, l2, q3⟩
  refine ⟨I3.kIn, ?_⟩
  rw [hks]
  exact run_fnG (us := [.ref a]) (vs := [.ref a]) F hq hr hb I3 (.cons rfl .nil) rz l1 l2 q3
/-- C(..) -/
theorem run_makeG {pins : List (Addr × Obj)} {σ : L2.St} {H : Hp} {s : Shared} {Q : VK} {us ws : List Value} {vs zs : List V} (M : Mk X.K C f) (F : FnG X.prog X.w X.K X.mg X.base k f fd ps sp) (hq : Quiet X.A) (hr : Room (k + 1) X.A) (hb : KBn X.K fd ps (n + 1) ks g gV)
    (I : Inv X pins σ H s) (r : Vals vs us) (rz : Vals zs ws) (l1 : vs.length = n) (l2 : zs.length = ks.length)
    (h : ∀ x dx, H x = none → H dx = none → dx ≠ x → sp (gV (.ref x :: vs) zs) (upd (upd H dx (.own x)) x (.ins C dx [])) (fun v H2 => v = .non ∧ Q (.ref x) H2) E) : wpAny (model X.prog X.w) X.A (call (.ref C) us (ks.zip ws)) (EP X pins σ Q) X.xe s := by
  have J := Inv.made (C := C) I
  have here := h (s.heap.objs.size + 1) s.heap.objs.size (I.hok.fresh (Nat.le_succ _)) (I.hok.fresh (Nat.le_refl _)) (Nat.ne_of_lt (Nat.lt_succ_self _))
  have r1 : Vals (V.ref (s.heap.objs.size + 1) :: vs) (Value.ref (s.heap.objs.size + 1) :: us) := .cons rfl r
  have hq' : Quiet (X.A.under (.builtin "type.__call__" ⟨.ref C :: us, ks.zip ws⟩)) := by
    have e : (Code.builtin "type.__call__" ⟨.ref C :: us, ks.zip ws⟩).guards = [] := by unfold Code.guards; rw [show (Code.builtin "type.__call__" ⟨.ref C :: us, ks.zip ws⟩).isGuard = false from (by show guardIds.contains "type.__call__" = false; decide +kernel)]; rfl
    show pushGuards (Code.builtin "type.__call__" ⟨.ref C :: us, ks.zip ws⟩).guards X.A.guards = some []
    rw [e]
    exact hq
  apply wpAny_call
  refine make_map (f := f) I.kIn M.makes M.init (beq_iff_eq.mp M.fn) (codeAny_mono (F.run _ X.stack _ _ ⟨Value.ref (s.heap.objs.size + 1) :: us, ks.zip ws⟩ (g (Value.ref (s.heap.objs.size + 1) :: us) ws) _ _ E hq' (hr.make C us (ks.zip ws)) (J.env0.make C us (ks.zip ws))
    (hb.to _ (Value.ref (s.heap.objs.size + 1) :: us) ws J.kIn (r1.length.symm.trans (congrArg Nat.succ l1)) (rz.length.symm.trans l2)) (hb.rel r1 rz) here) fun z s' hz => ?_)
  match z, hz with
  | .error _, hz => exact (hz : False).elim
  | .ok .next, hz => exact (hz : False).elim
  | .ok .brk, hz => exact (hz : False).elim
  | .ok .cont, hz => exact (hz : False).elim
  | .ok (.ret u), hz =>
    obtain ⟨v, H', I3, rv, ev, q3⟩ := J.after hz
    subst ev
    exact ⟨rv, ⟨V.ref (s.heap.objs.size + 1), H', I3, rfl, q3⟩⟩
theorem pe_makeG (M : Mk X.K C f) (F : FnG X.prog X.w X.K X.mg X.base k f fd ps sp) (hq : Quiet X.A) (hr : Room (k + 1) X.A) (hm : X.mg x = some (.ref C)) (hb : KBn X.K fd ps (n + 1) ks g gV) (ha : PA X (e :: es) t) (hkw : PK X kws tk) (hg : Gl X x)
    (hall : (backToKw pos (keywordEach kws X.env)).all (·.1.isSome) = true) (hks : (backToKw pos (keywordEach kws X.env)).filterMap (·.1) = ks) (hdb : (x == ("__debug__" : Str)) = false) (he : starEach (e :: es) X.env = (false, eval e X.env) :: starEach es X.env)
    (hpl : ((backTo pos (starEach (e :: es) X.env)).any (·.1) || (backToKw pos (keywordEach kws X.env)).any (·.1.isNone)) = false) : PE X (.Call (.Name x p) (e :: es) kws pos) (tMakeN C n ks.length sp gV E t tk) := by
  constructor
  intro pins s σ H Q I h
  apply wpAny_Call_Name_kw
  apply ld_glob I hg hm _ hdb
  refine PySem.W.callWith_KW (h₀ := X.base) I.ok.mod.kin M.kp hall (thn (ha.run pos pins s σ H _ I h) ?_) hpl he
  rintro us s1 ⟨vs, H1, I1, r, q⟩
  refine thn (hkw.run pos pins s1 σ H1 _ I1 q) ?_
  rintro ws s2 ⟨zs, H2, I2, rz, l1, l2, q2⟩
  refine ⟨I2.kIn, ?_⟩
  rw [hks]
  exact run_makeG M F hq hr hb I2 r rz l1 l2 q2
theorem pe_makeG0 (M : Mk X.K C f) (F : FnG X.prog X.w X.K X.mg X.base k f fd ps sp) (hq : Quiet X.A) (hr : Room (k + 1) X.A) (hm : X.mg x = some (.ref C)) (hb : KBn X.K fd ps (n + 1) ks g gV) (hkw : PK X kws tk) (hg : Gl X x)
    (hall : (backToKw pos (keywordEach kws X.env)).all (·.1.isSome) = true) (hks : (backToKw pos (keywordEach kws X.env)).filterMap (·.1) = ks) (hdb : (x == ("__debug__" : Str)) = false)
    (hpl : ((backTo pos (starEach [] X.env)).any (·.1) || (backToKw pos (keywordEach kws X.env)).any (·.1.isNone)) = false) : PE X (.Call (.Name x p) [] kws pos) (tMakeN C n ks.length sp gV E tNil tk) := by
  constructor
  intro pins s σ H Q I h
  apply wpAny_Call_Name_kw
  apply ld_glob I hg hm _ hdb
  refine PySem.W.callWith_KW0 (h₀ := X.base) I.ok.mod.kin M.kp hall (thn (hkw.run pos pins s σ H _ I h) ?_) hpl
  rintro ws s2 ⟨zs, H2, I2, rz, l1, l2, q2⟩
  refine ⟨I2.kIn, ?_⟩
  rw [hks]
  exact run_makeG (us := []) (vs := []) M F hq hr hb I2 .nil rz l1 l2 q2
/-- a property -/
theorem pe_propG {a' : Addr} {pr : Addr} (ho : PE X o ta) (c : Cls X.K C) (hp : PropOf X.K C m pr f) (F : FnG X.prog X.w X.K X.mg X.base k f fd ps sp) (hq : Quiet X.A) (hr : Room (k + 1) X.A) (hb : Binds X.K fd ps []) (hab : attributeBase o m X.env (eval o X.env) = eval o X.env) : PE X (.Attribute o m pos) (tProp C sp [] E ta) := by
  constructor
  intro pins s σ H Q I h
  refine attr_of hab (thn (ho.run pins s σ H _ I h) ?_)
  rintro u s1 ⟨x, H1, I1, rx, a, dx, fs, rfl, ea, q⟩
  cases (show u = Value.ref a from rx)
  obtain ⟨mA, O, _⟩ := ins_get I1.hok ea
  obtain ⟨od, J, _⟩ := O.look
  obtain ⟨rest, hrec⟩ := hp.rec_
  have I2 := I1.tok (s1.toks + 1)
  obtain ⟨cd, hcd, _⟩ := PySem.W.any_some c.hd
  have hc : (PySem.W.clsIn X.K C).isSome = true := by rw [hcd]; rfl
  have hl := F.len _ _ _ _ q
  refine PySem.W.get_bind I1.kIn J (PySem.W.plainGet_of (c.get m)).1 (PySem.W.findObj_data hc hp.at_ hp.get hp.tak) (PySem.W.plainGet_of (c.get m)).2 (wpAny_call (PySem.W.prop_get (s := { s1 with toks := s1.toks + 1 }) I1.kIn hrec ?_))
  refine codeAny_mono (F.run X.A.in1 X.stack { s1 with toks := s1.toks + 1 } H1 ⟨[.ref a], []⟩ [.ref a] [.ref a] Q E hq hr.in1 I2.env0.in1 (by simpa using hb _ [.ref a] I2.kIn (by simpa using hl)) (.cons rfl .nil) q) fun z s' hz => ?_
  match z, hz with
  | .error _, hz => exact (hz : False).elim
  | .ok .next, hz => exact (hz : False).elim
  | .ok .brk, hz => exact (hz : False).elim
  | .ok .cont, hz => exact (hz : False).elim
  | .ok (.ret u), hz =>
    obtain ⟨v, H', I3, rv, q3⟩ := I2.after hz
    show wpAny _ _ (handedOut u) _ _ _
    rw [PySem.W.handedOut_of (handed_of rv)]
    exact wpAny_pure ⟨v, H', I3, rv, q3⟩
end
end Dl
namespace Dl
open PySem PySem.Spec PyProof.Rows L2

/-! ### promises by data -/
/-- a def of n parameters that changes nothing: what F tells -/
def sp0 (T : CT) (n : Nat) (F : List D → Option D) : Sp := fun vs H Q _ => ∃ S ds d, (∀ b, S b → ∃ o, H b = some o) ∧ ds.length = n ∧ Reps T H S ds vs ∧ F ds = some d ∧ ∀ v H', Same H H' → Rep T H' S d v → Q v H'
/-- a def whose first parameter is a list that it changes, and n more -/
def sp1 (T : CT) (n : Nat) (F : List D → List D → Option (D × List D)) : Sp := fun vs H Q _ => ∃ S p us xs ws ds d xs', vs = V.ref p :: ws ∧ (∀ b, S b → ∃ o, H b = some o) ∧ S p ∧ H p = some (.lst us) ∧ Reps T H S xs us ∧ ds.length = n ∧
  Reps T H S ds ws ∧ F xs ds = some (d, xs') ∧ ∀ v H' us', (∀ b o, H b = some o → b ≠ p → H' b = some o) → H' p = some (.lst us') → Reps T H' S xs' us' → Rep T H' S d v → Q v H'
/-- an __init__: n parameters behind self; F tells the attributes -/
def spI (T : CT) (c n : Nat) (F : List D → Option (List D)) : Sp := fun vs H Q _ => ∃ S x C dx ns ws ds fs, vs = V.ref x :: ws ∧ T c = some (C, ns) ∧ H x = some (.ins C dx []) ∧ (∀ b, S b → ∃ o, H b = some o) ∧ S x ∧ ds.length = n ∧ Reps T H S ds ws ∧
  F ds = some fs ∧ ∀ H' vs', (∀ b o, H b = some o → b ≠ x → H' b = some o) → H' x = some (.ins C dx (ns.zip vs')) → ns.length = vs'.length → Reps T H' S fs vs' → Q .non H'
/-- a classmethod: the class itself first -/
def spC (T : CT) (C : Addr) (n : Nat) (F : List D → Option D) : Sp := fun vs H Q E => ∃ ws, vs = V.ref C :: ws ∧ sp0 T n F ws H Q E

def LenA (f : FA) (n : Nat) : Prop := ∀ δ ds δ', f δ = some (ds, δ') → ds.length = n
theorem lenA_nil : LenA fNil 0 := fun δ ds δ' h => by cases h; rfl
theorem lenA_cons {f : FE} {g : FA} {n : Nat} (h : LenA g n) : LenA (fCons f g) (n + 1) := fun δ ds δ' e => by
  obtain ⟨d, δ1, e1, e⟩ := bind_some2 e
  obtain ⟨dr, δ2, e2, e⟩ := bind_some2 e
  cases e
  simp [h _ _ _ e2]

section
variable {X : Cx} {T : CT} {k n c : Nat} {f C : Addr} {fd : FuncData} {ps : List Str} {x m : Str} {p pos apos : Pos} {e o : Expr} {es : List Expr} {fa : FA} {fo : FE}

/-! ### calls -/
theorem pks_nil : PK X [] (tDs T fNil) := PK.imp pk_nil fun σ H Q ⟨S0, δ, ds, δ', ok, e, q⟩ => by
  cases e
  exact q [] H ok Step.refl Reps.nil
theorem pks_cons {e : Expr} {kws : List Keyword} {nm : Option Str} {kpos : Pos} {f : FE} {g : FA} (h1 : PE X e (tD T f)) (h2 : PK X kws (tDs T g)) : PK X (⟨nm, e, kpos⟩ :: kws) (tDs T (fCons f g)) := PK.imp (pk_cons h1 h2) fun σ H Q ⟨S0, δ, ds, δ', ok, e, q⟩ => by
  obtain ⟨d, δ1, e1, e⟩ := bind_some2 e
  obtain ⟨dr, δ2, e2, e⟩ := bind_some2 e
  cases e
  exact ⟨S0, δ, d, δ1, ok, e1, fun v H1 ok1 s1 r1 => ⟨S0, δ1, dr, δ', ok1, e2, fun vs H2 ok2 s2 r2 => q _ H2 ok2 (s1.trans s2) (Reps.cons (s2.rep r1) r2)⟩⟩
def fCall (F : List D → Option D) (gD : List D → List D → List D) (fa fk : FA) : FE := fun δ => (fa δ).bind fun (ds, δ1) => (fk δ1).bind fun (es, δ2) => (F (gD ds es)).map fun d => (d, δ2)
theorem call_imp {F : List D → Option D} {gD : List D → List D → List D} {gV : List V → List V → List V} {fk : FA} {j i : Nat} (hl : LenA fa j) (hk : LenA fk i) (hn : ∀ ds es, ds.length = j → es.length = i → (gD ds es).length = n)
    (hG : ∀ (T : CT) (H : Hp) (S : Addr → Prop) (ds es : List D) (vs zs : List V), ds.length = j → es.length = i → Reps T H S ds vs → Reps T H S es zs → Reps T H S (gD ds es) (gV vs zs)) {σ : L2.St} {H : Hp} {Q : VK} {E : XK} (h : tD T (fCall F gD fa fk) σ H Q) : tCallN j i (sp0 T n F) gV E (tDs T fa) (tDs T fk) σ H Q := by
  obtain ⟨S0, δ, d, δ', ok, e, q⟩ := h
  obtain ⟨ds, δ1, e1, e2⟩ := bind_some2 e
  obtain ⟨es, δ2, e3, e4⟩ := bind_some2 e2
  dsimp only at e4
  obtain ⟨d', e5, e6⟩ := map_some1 e4
  cases e6
  refine ⟨S0, δ, ds, δ1, ok, e1, fun vs H1 ok1 s1 r1 => ⟨S0, δ1, es, δ', ok1, e3, fun zs H2 ok2 s2 r2 => ?_⟩⟩
  have r1' := s2.reps r1
  have l1 := hl _ _ _ e1
  have l2 := hk _ _ _ e3
  exact ⟨by rw [r1.length, l1], by rw [r2.length, l2], _, gD ds es, d, fun b z => ok2.trk z, hn _ _ l1 l2, hG _ _ _ _ _ _ _ l1 l2 r1' r2, e5, fun v H' sm r => q v H' (ok2.same sm) ((s1.trans s2).trans (Step.same sm)) r⟩
theorem pd_call {F : List D → Option D} {gD : List D → List D → List D} {ks : List Str} {kws : List Keyword} {fk : FA} {j : Nat} (G : FnG X.prog X.w X.K X.mg X.base k f fd ps (sp0 T n F)) (hq : Quiet X.A) (hr : Room k X.A) (hm : X.mg x = some (.ref f)) (hk : PySem.W.keepIn X.K (.ref f) = true) (hb : Bnd X.K fd ps j ks gD)
    (ha : PA X (e :: es) (tDs T fa)) (hkw : PK X kws (tDs T fk)) (hn : ∀ ds es, ds.length = j → es.length = ks.length → (gD ds es).length = n := by intro ds es h1 h2; simp [gPos, h1, h2]) (hl : LenA fa j := by repeat (first | exact lenA_nil | refine lenA_cons ?_)) (hlk : LenA fk ks.length := by repeat (first | exact lenA_nil | refine lenA_cons ?_)) (hg : Gl X x := by rfl)
    (hall : (backToKw pos (keywordEach kws X.env)).all (·.1.isSome) = true := by rfl) (hks : (backToKw pos (keywordEach kws X.env)).filterMap (·.1) = ks := by rfl) (hdb : (x == ("__debug__" : Str)) = false := by decide) (he : starEach (e :: es) X.env = (false, eval e X.env) :: starEach es X.env := by rfl)
    (hpl : ((backTo pos (starEach (e :: es) X.env)).any (·.1) || (backToKw pos (keywordEach kws X.env)).any (·.1.isNone)) = false := by rfl) : PE X (.Call (.Name x p) (e :: es) kws pos) (tD T (fCall F gD fa fk)) := by
  obtain ⟨g, gV, hb, hG⟩ := hb
  exact PE.imp (pe_callG (E := E0) G hq hr hm hk hb ha hkw hg hall hks hdb he hpl) fun _ _ _ h => call_imp hl hlk hn hG h
theorem pd_call0 {F : List D → Option D} {gD : List D → List D → List D} {ks : List Str} {kws : List Keyword} {fk : FA} (G : FnG X.prog X.w X.K X.mg X.base k f fd ps (sp0 T n F)) (hq : Quiet X.A) (hr : Room k X.A) (hm : X.mg x = some (.ref f)) (hk : PySem.W.keepIn X.K (.ref f) = true) (hb : Bnd X.K fd ps 0 ks gD)
    (hkw : PK X kws (tDs T fk)) (hn : ∀ ds es, ds.length = 0 → es.length = ks.length → (gD ds es).length = n := by intro ds es h1 h2; simp [gPos, h1, h2]) (hlk : LenA fk ks.length := by repeat (first | exact lenA_nil | refine lenA_cons ?_)) (hg : Gl X x := by rfl)
    (hall : (backToKw pos (keywordEach kws X.env)).all (·.1.isSome) = true := by rfl) (hks : (backToKw pos (keywordEach kws X.env)).filterMap (·.1) = ks := by rfl) (hdb : (x == ("__debug__" : Str)) = false := by decide)
    (hpl : ((backTo pos (starEach [] X.env)).any (·.1) || (backToKw pos (keywordEach kws X.env)).any (·.1.isNone)) = false := by rfl) : PE X (.Call (.Name x p) [] kws pos) (tD T (fCall F gD fNil fk)) := by
  obtain ⟨g, gV, hb, hG⟩ := hb
  refine PE.imp (pe_callG0 (E := E0) G hq hr hm hk hb hkw hg hall hks hdb hpl) fun σ H Q h => ?_
  obtain ⟨S0, δ, ds, δ1, ok, e1, q⟩ := call_imp (E := E0) lenA_nil hlk hn hG h
  cases e1
  exact q [] H ok Step.refl Reps.nil

/-- f(pot, ..): the first argument a name that holds its own list -/
def isL : Ow → Bool
  | .mine => true | .pot => true | .ini _ _ _ => false
theorem isL_ho : ∀ {q : Ow}, isL q = true → ∀ vs, hoOf q vs = .lst vs
  | .mine, _, _ => rfl
  | .pot, _, _ => rfl
  | .ini _ _ _, h, _ => by cases h
def isOwn : Option Sl → Bool
  | some (.own _ _) => true | _ => false
def fCallP (i : Nat) (F : List D → List D → Option (D × List D)) (fa : FA) : FE := fun δ => if isOwn δ[i]? = true then (fa δ).bind fun (ds, δ1) => match δ1[i]? with
    | some (.own w xs) => if isL w = true then (F xs ds).map fun (d, xs') => (d, δ1.set i (.own w xs')) else none
    | _ => none
  else none
theorem callP_core {q : Ow} {hq : ∀ vs, hoOf q vs = .lst vs} {i : Nat} {F : List D → List D → Option (D × List D)} {S0 : Addr → Prop} {σ : L2.St} {δ1 : Es} {H1 : Hp} {Q : VK} {E : XK} {ds xs xs' : List D} {vs : List V} {d : D} {a : Addr} (hn : ds.length = n)
    (ok1 : Ok T S0 σ δ1 H1) (ea : σ[i]? = some (some (.ref a))) (e1 : δ1[i]? = some (.own q xs)) (r1 : Reps T H1 (Av S0 σ δ1) ds vs) (eF : F xs ds = some (d, xs'))
    (h : ∀ v H', Ok T S0 σ (δ1.set i (.own q xs')) H' → Step σ δ1 H1 σ (δ1.set i (.own q xs')) H' → Rep T H' (Av S0 σ (δ1.set i (.own q xs'))) d v → Q v H') : sp1 T n F (V.ref a :: vs) H1 Q E := by
  obtain ⟨b, us, q1, q2, q3, _⟩ := ok1.ow i q xs e1
  rw [ea] at q1; cases q1
  rw [hq] at q2
  refine ⟨Av S0 σ δ1, a, us, xs, vs, ds, d, xs', rfl, fun b z => ok1.trk z, .inr ⟨i, q, xs, e1, ea⟩, q2, q3, hn, r1, eF, fun v H' us' hk ha rs r => ?_⟩
  obtain ⟨ok2, s2⟩ := ok1.change e1 ea hk (by rw [hq]; exact ha) rs
  refine h v H' ok2 s2 (r.sub fun b z => z.elim .inl fun z => .inr ?_)
  obtain ⟨j, p, es, h1, h2⟩ := z
  rcases get_set h1 with ⟨rfl, _, z⟩ | ⟨_, h1⟩
  · exact ⟨j, q, xs, e1, h2⟩
  · exact ⟨j, p, es, h1, h2⟩
theorem kbn_pos {K : PySem.W.Frag} (hb : Binds K fd ps []) (hn : ps.length = n) : KBn K fd ps n [] (fun us _ => us) (fun vs _ => vs) := ⟨fun s us ws X l1 l2 => by
  have : ws = [] := by cases ws with | nil => rfl | cons _ _ => cases l2
  subst this
  have h := hb s us X (by rw [List.append_nil, l1, hn])
  rw [List.append_nil] at h
  exact h, fun r _ => r⟩
theorem pd_callP {i : Nat} {y : Str} {F : List D → List D → Option (D × List D)} {py : Pos} (G : FnG X.prog X.w X.K X.mg X.base k f fd ps (sp1 T n F)) (hq : Quiet X.A) (hr : Room k X.A) (hm : X.mg x = some (.ref f)) (hk : PySem.W.keepIn X.K (.ref f) = true) (hb : Binds X.K fd ps []) (hps : ps.length = n + 1)
    (ha : PA X es (tDs T fa)) (hl : LenA fa n := by repeat (first | exact lenA_nil | refine lenA_cons ?_)) (hN : X.N[i]? = some y := by rfl) (hv : Vis X.env.scope y := by first | exact Or.inl rfl | exact Or.inr (Or.inl rfl) | exact Or.inr (Or.inr rfl)) (hdy : (y == ("__debug__" : Str)) = false := by decide)
    (hcd : (y == ("__classdict__" : Str)) = false := by decide) (hg : Gl X x := by rfl) (hdb : (x == ("__debug__" : Str)) = false := by decide) (he : starEach (.Name y py :: es) X.env = (false, eval (.Name y py) X.env) :: starEach es X.env := by rfl)
    (hpl : ((backTo pos (starEach (.Name y py :: es) X.env)).any (·.1) || (backToKw pos (keywordEach [] X.env)).any (·.1.isNone)) = false := by rfl) :
    PE X (.Call (.Name x p) (.Name y py :: es) [] pos) (tD T (fCallP i F fa)) := PE.imp (pe_callG (E := E0) G hq hr hm hk (kbn_pos hb hps) (pa_cons (pe_var hN hv hdy hcd) ha he) pk_nil hg rfl rfl hdb he hpl) fun σ H Q h => by
  obtain ⟨S0, δ, d, δ', ok, e, q⟩ := h
  unfold fCallP at e
  by_cases h0 : isOwn δ[i]? = true
  case neg => rw [if_neg h0] at e; cases e
  rw [if_pos h0] at e
  obtain ⟨ds, δ1, e1, e2⟩ := bind_some2 e
  obtain ⟨w0, xs0, e0⟩ : ∃ w0 xs0, δ[i]? = some (.own w0 xs0) := by
    cases z : δ[i]? with
    | none => rw [z] at h0; cases h0
    | some sl =>
      rw [z] at h0
      cases sl with
      | un => cases h0
      | val _ => cases h0
      | own p xs => exact ⟨p, xs, rfl⟩
  obtain ⟨a, us, ea, _⟩ := ok.ow i w0 xs0 e0
  refine ⟨_, ea, S0, δ, ds, δ1, ok, e1, fun vs H1 ok1 s1 r1 => ⟨by rw [List.length_cons, r1.length, hl _ _ _ e1], rfl, ?_⟩⟩
  dsimp only at e2
  cases z : δ1[i]? with
  | none => rw [z] at e2; cases e2
  | some sl =>
    rw [z] at e2
    cases sl with
    | un => cases e2
    | val _ => cases e2
    | own p1 xs =>
      dsimp only at e2
      by_cases hp : isL p1 = true
      case neg => rw [if_neg hp] at e2; cases e2
      rw [if_pos hp] at e2
      obtain ⟨d1, xs', e4, e5⟩ := map_some2 e2
      cases e5
      exact callP_core (hq := isL_ho hp) (hl _ _ _ e1) ok1 ea z r1 e4 fun v H' ok' s' r => q v H' ok' (s1.trans s') r

/-! ### attributes -/
def fFld (c j : Nat) (fo : FE) : FE := fun δ => (fo δ).bind fun (d, δ1) => match d with
  | .obj c' ds => if c' = c then (ds[j]?).map fun d => (d, δ1) else none
  | _ => none
theorem zip_look : ∀ {ns : List Str} {vs : List V} {j : Nat} {v : V} {f : Str}, ns.Nodup → ns[j]? = some f → vs[j]? = some v → (ns.zip vs).lookup f = some v
  | [], _, _, _, _, _, h, _ => by simp at h
  | _, [], _, _, _, _, _, h => by simp at h
  | g :: ns, w :: vs, 0, v, f, _, h1, h2 => by
    simp at h1 h2
    subst h1; subst h2
    simp [List.lookup]
  | g :: ns, w :: vs, j + 1, v, f, nd, h1, h2 => by
    simp at h1 h2
    have hne : f ≠ g := fun z => by
      subst z
      exact (List.nodup_cons.mp nd).1 (List.mem_of_getElem? h1)
    have hb : (f == g) = false := by simpa using hne
    rw [List.zip_cons_cons, List.lookup_cons, hb]
    exact zip_look (List.nodup_cons.mp nd).2 h1 h2
theorem zip_none : ∀ {ns : List Str} {vs : List V} {f : Str}, f ∉ ns → (ns.zip vs).lookup f = none
  | [], _, _, _ => rfl
  | _ :: _, [], _, _ => rfl
  | g :: ns, w :: vs, f, h => by
    have hne : f ≠ g := fun z => h (by rw [z]; exact List.mem_cons_self)
    have hb : (f == g) = false := by simpa using hne
    rw [List.zip_cons_cons, List.lookup_cons, hb]
    exact zip_none fun z => h (List.mem_cons_of_mem _ z)
theorem pd_fld {ns : List Str} {j : Nat} {g : Str} (ho : PE X o (tD T fo)) (hT : T c = some (C, ns)) (hc : Cls X.K C) (hn : NoAttr X.K C g) (hj : ns[j]? = some g := by rfl) (nd : ns.Nodup := by decide +kernel) (hb : attributeBase o g X.env (eval o X.env) = eval o X.env := by rfl) :
    PE X (.Attribute o g pos) (tD T (fFld c j fo)) := PE.imp (pe_fld ho hb) fun σ H Q ⟨S0, δ, d, δ', ok, e, q⟩ => by
  obtain ⟨d0, δ1, e1, e2⟩ := bind_some2 e
  cases d0 <;> first | cases e2 | skip
  rename_i c' ds
  dsimp only at e2
  by_cases hcc : c' = c
  · subst hcc
    rw [if_pos rfl] at e2
    obtain ⟨d1, e3, e4⟩ := map_some1 e2
    cases e4
    refine ⟨S0, δ, _, δ', ok, e1, fun v H1 ok1 s1 r => ?_⟩
    rw [Rep] at r
    obtain ⟨a, dx, C', ns', vs, rfl, hT', ha, hl, na, rs⟩ := r
    rw [hT] at hT'; cases hT'
    obtain ⟨v, hv, rv⟩ := rs.get e3
    exact ⟨a, C, dx, _, v, rfl, ha, hc, hn, zip_look nd hj hv, q v H1 ok1 s1 rv⟩
  · rw [if_neg hcc] at e2; cases e2
/-- a property -/
def fProp (c : Nat) (F : List D → Option D) (fo : FE) : FE := fun δ => (fo δ).bind fun (d, δ1) => match d with
  | .obj c' ds => if c' = c then (F [.obj c' ds]).map fun d => (d, δ1) else none
  | _ => none
theorem pd_prop {ns : List Str} {F : List D → Option D} {g : Str} {q : Addr} (ho : PE X o (tD T fo)) (hT : T c = some (C, ns)) (hc : Cls X.K C) (hp : PropOf X.K C g q f) (G : FnG X.prog X.w X.K X.mg X.base k f fd ps (sp0 T 1 F)) (hq : Quiet X.A) (hr : Room (k + 1) X.A) (hb : Binds X.K fd ps [])
    (hab : attributeBase o g X.env (eval o X.env) = eval o X.env := by rfl) : PE X (.Attribute o g pos) (tD T (fProp c F fo)) := PE.imp (pe_propG (E := E0) (a' := f) ho hc hp G hq hr hb hab) fun σ H Q ⟨S0, δ, d, δ', ok, e, q⟩ => by
  obtain ⟨d0, δ1, e1, e2⟩ := bind_some2 e
  cases d0 <;> first | cases e2 | skip
  rename_i c' ds
  dsimp only at e2
  by_cases hcc : c' = c
  · subst hcc
    rw [if_pos rfl] at e2
    obtain ⟨d1, e3, e4⟩ := map_some1 e2
    cases e4
    refine ⟨S0, δ, _, δ', ok, e1, fun v H1 ok1 s1 r => ?_⟩
    have r' := r
    rw [Rep] at r
    obtain ⟨a, dx, C', ns', vs, rfl, hT', ha, hl, na, rs⟩ := r
    rw [hT] at hT'; cases hT'
    exact ⟨a, dx, _, rfl, ha, _, [.obj c' ds], d, fun b z => ok1.trk z, rfl, Reps.cons r' Reps.nil, e3, fun v H' sm r => q v H' (ok1.same sm) (s1.trans (Step.same sm)) r⟩
  · rw [if_neg hcc] at e2; cases e2
/-- o.m(..) -/
def fMeth (c : Nat) (F : List D → Option D) (gD : List D → List D → List D) (fo : FE) (fa fk : FA) : FE := fun δ => (fo δ).bind fun (d, δ1) => match d with
  | .obj c' ds => if c' = c then (fa δ1).bind fun (xs, δ2) => (fk δ2).bind fun (es, δ3) => (F (gD (.obj c' ds :: xs) es)).map fun d => (d, δ3) else none
  | _ => none
theorem meth_imp {ns : List Str} {F : List D → Option D} {gD : List D → List D → List D} {gV : List V → List V → List V} {fk : FA} {j i : Nat} (hT : T c = some (C, ns)) (hmn : m ∉ ns) (hl : LenA fa j) (hk : LenA fk i) (hn : ∀ ds es, ds.length = j + 1 → es.length = i → (gD ds es).length = n)
    (hG : ∀ (T : CT) (H : Hp) (S : Addr → Prop) (ds es : List D) (vs zs : List V), ds.length = j + 1 → es.length = i → Reps T H S ds vs → Reps T H S es zs → Reps T H S (gD ds es) (gV vs zs)) {σ : L2.St} {H : Hp} {Q : VK} {E : XK} (h : tD T (fMeth c F gD fo fa fk) σ H Q) :
    tMethN C m (j + 1) i (sp0 T n F) gV E (tD T fo) (tDs T fa) (tDs T fk) σ H Q := by
  obtain ⟨S0, δ, d, δ', ok, e, q⟩ := h
  obtain ⟨d0, δ1, e1, e2⟩ := bind_some2 e
  cases d0 <;> first | cases e2 | skip
  rename_i c' ds
  dsimp only at e2
  by_cases hcc : c' = c
  · subst hcc
    rw [if_pos rfl] at e2
    obtain ⟨xs, δ2, e3, e4⟩ := bind_some2 e2
    obtain ⟨es, δ3, e5, e6⟩ := bind_some2 e4
    dsimp only at e6
    obtain ⟨d1, e7, e8⟩ := map_some1 e6
    cases e8
    refine ⟨S0, δ, _, δ1, ok, e1, fun v H1 ok1 s1 r => ?_⟩
    have r' := r
    rw [Rep] at r
    obtain ⟨a, dx, C', ns', vs, rfl, hT', ha, hlen, na, rs⟩ := r
    rw [hT] at hT'; cases hT'
    refine ⟨a, dx, _, rfl, ha, zip_none hmn, S0, δ1, xs, δ2, ok1, e3, fun ws H2 ok2 s2 r2 => ⟨S0, δ2, es, δ', ok2, e5, fun zs H3 ok3 s3 r3 => ?_⟩⟩
    have l1 := hl _ _ _ e3
    have l2 := hk _ _ _ e5
    have rr : Reps T H3 (Av S0 σ δ') (.obj c' ds :: xs) (V.ref a :: ws) := Reps.cons ((s2.trans s3).rep r') (s3.reps r2)
    exact ⟨by rw [r2.length, l1], by rw [r3.length, l2], _, _, d, fun b z => ok3.trk z, hn _ _ (by rw [List.length_cons, l1]) l2, hG _ _ _ _ _ _ _ (by rw [List.length_cons, l1]) l2 rr r3, e7, fun v H' sm r => q v H' (ok3.same sm) (((s1.trans s2).trans s3).trans (Step.same sm)) r⟩
  · rw [if_neg hcc] at e2; cases e2
theorem pd_meth {pl : Sem Bool} {ns : List Str} {F : List D → Option D} {gD : List D → List D → List D} {ks : List Str} {kws : List Keyword} {fk : FA} {j : Nat} (ho : PE X o (tD T fo)) (hT : T c = some (C, ns)) (hc : Cls X.K C) (hm : Meth X.K C m f) (G : FnG X.prog X.w X.K X.mg X.base k f fd ps (sp0 T n F)) (hq : Quiet X.A) (hr : Room k X.A) (hb : Bnd X.K fd ps (j + 1) ks gD)
    (ha : PA X (e :: es) (tDs T fa)) (hkw : PK X kws (tDs T fk)) (hmn : m ∉ ns := by decide +kernel) (hn : ∀ ds es, ds.length = j + 1 → es.length = ks.length → (gD ds es).length = n := by intro ds es h1 h2; simp [gPos, h1, h2]) (hl : LenA fa j := by repeat (first | exact lenA_nil | refine lenA_cons ?_)) (hlk : LenA fk ks.length := by repeat (first | exact lenA_nil | refine lenA_cons ?_))
    (hall : (backToKw pos (keywordEach kws X.env)).all (·.1.isSome) = true := by rfl) (hks : (backToKw pos (keywordEach kws X.env)).filterMap (·.1) = ks := by rfl) (he : starEach (e :: es) X.env = (false, eval e X.env) :: starEach es X.env := by rfl)
    (hpl : ((backTo pos (starEach (e :: es) X.env)).any (·.1) || (backToKw pos (keywordEach kws X.env)).any (·.1.isNone)) = false := by rfl)
    (ht : eval (.Call (.Attribute o m apos) (e :: es) kws pos) X.env = (do
      let y ← eval o X.env
      standAt apos.atName
      let (h, first) ← holding [y] (getMethod y m pl)
      callWith pos h first (backTo pos (starEach (e :: es) X.env)) (backToKw pos (keywordEach kws X.env))) := by rfl) : PE X (.Call (.Attribute o m apos) (e :: es) kws pos) (tD T (fMeth c F gD fo fa fk)) := by
  obtain ⟨g, gV, hb, hG⟩ := hb
  exact PE.imp (pe_methG (E := E0) ho hc hm G hq hr hb ha hkw hall hks he hpl ht) fun _ _ _ h => meth_imp hT hmn hl hlk hn hG h
theorem pd_meth0 {pl : Sem Bool} {ns : List Str} {F : List D → Option D} {gD : List D → List D → List D} {ks : List Str} {kws : List Keyword} {fk : FA} (ho : PE X o (tD T fo)) (hT : T c = some (C, ns)) (hc : Cls X.K C) (hm : Meth X.K C m f) (G : FnG X.prog X.w X.K X.mg X.base k f fd ps (sp0 T n F)) (hq : Quiet X.A) (hr : Room k X.A) (hb : Bnd X.K fd ps 1 ks gD)
    (hkw : PK X kws (tDs T fk)) (hmn : m ∉ ns := by decide +kernel) (hn : ∀ ds es, ds.length = 0 + 1 → es.length = ks.length → (gD ds es).length = n := by intro ds es h1 h2; simp [gPos, h1, h2]) (hlk : LenA fk ks.length := by repeat (first | exact lenA_nil | refine lenA_cons ?_))
    (hall : (backToKw pos (keywordEach kws X.env)).all (·.1.isSome) = true := by rfl) (hks : (backToKw pos (keywordEach kws X.env)).filterMap (·.1) = ks := by rfl)
    (hpl : ((backTo pos (starEach [] X.env)).any (·.1) || (backToKw pos (keywordEach kws X.env)).any (·.1.isNone)) = false := by rfl)
    (ht : eval (.Call (.Attribute o m apos) [] kws pos) X.env = (do
      let y ← eval o X.env
      standAt apos.atName
      let (h, first) ← holding [y] (getMethod y m pl)
      callWith pos h first (backTo pos (starEach [] X.env)) (backToKw pos (keywordEach kws X.env))) := by rfl) : PE X (.Call (.Attribute o m apos) [] kws pos) (tD T (fMeth c F gD fo fNil fk)) := by
  obtain ⟨g, gV, hb, hG⟩ := hb
  refine PE.imp (pe_methG0 (E := E0) ho hc hm G hq hr hb hkw hall hks hpl ht) fun σ H Q h => ?_
  obtain ⟨S0, δ, d, δ1, ok, e1, q⟩ := meth_imp (E := E0) hT hmn lenA_nil hlk hn hG h
  refine ⟨S0, δ, d, δ1, ok, e1, fun v H1 ok1 s1 r => ?_⟩
  obtain ⟨a, dx, fs, q1, q2, q3, S1, δ2, ds, δ3, ok2, e2, q4⟩ := q v H1 ok1 s1 r
  cases e2
  exact ⟨a, dx, fs, q1, q2, q3, q4 [] H1 ok2 Step.refl Reps.nil⟩

/-! ### objects made -/
def fMake (c : Nat) (F : List D → Option (List D)) (gD : List D → List D → List D) (fa fk : FA) : FE := fun δ => (fa δ).bind fun (ds, δ1) => (fk δ1).bind fun (es, δ2) => (F (gD ds es)).map fun fs => (.obj c fs, δ2)
theorem make_core {ns : List Str} {F : List D → Option (List D)} {ds fs : List D} {S0 : Addr → Prop} {σ : L2.St} {δ1 : Es} {H1 : Hp} {Q : VK} {E : XK} {vs : List V} {y dx : Addr} (hT : T c = some (C, ns)) (hn : ds.length = n) (ok1 : Ok T S0 σ δ1 H1) (r1 : Reps T H1 (Av S0 σ δ1) ds vs) (eF : F ds = some fs)
    (ny : H1 y = none) (nd : H1 dx = none) (ne : dx ≠ y) (q : ∀ v H', Ok T S0 σ δ1 H' → Step σ δ1 H1 σ δ1 H' → Rep T H' (Av S0 σ δ1) (.obj c fs) v → Q v H') :
    spI T c n F (V.ref y :: vs) (upd (upd H1 dx (.own y)) y (.ins C dx [])) (fun v H2 => v = .non ∧ Q (.ref y) H2) E := by
  have sm : Same H1 (upd (upd H1 dx (.own y)) y (.ins C dx [])) := fun b o e => by rw [upd_ne (ne_of_none e ny), upd_ne (ne_of_none e nd)]; exact e
  refine ⟨fun b => Av S0 σ δ1 b ∨ b = y, y, C, dx, ns, vs, ds, fs, rfl, hT, upd_same, fun b z => z.elim (fun z => let ⟨o, e⟩ := ok1.trk z; ⟨o, sm b o e⟩) (fun z => ⟨.ins C dx [], by rw [z]; exact upd_same⟩), .inr rfl, hn, r1.move (fun b o e _ => sm b o e) fun b z => z.elim .inl fun z => .inr (by rw [z]; exact ny), eF, fun H' vs' hk hy hl rs => ⟨rfl, ?_⟩⟩
  have sm' : Same H1 H' := fun b o e => hk b o (sm b o e) (ne_of_none e ny)
  refine q _ H' (ok1.same sm') (Step.same sm') ?_
  rw [Rep]
  exact ⟨y, dx, C, ns, vs', rfl, hT, hy, hl, ok1.fresh ny, rs.sub fun b z => .inl z⟩
/-- how the values behind self come to an __init__ -/
def BndI (K : PySem.W.Frag) (fd : FuncData) (ps : List Str) (n : Nat) (ks : List Str) (gD : List D → List D → List D) : Prop :=
  ∃ g gV, KBn K fd ps (n + 1) ks g gV ∧ ∃ hV : List V → List V → List V, (∀ x vs zs, vs.length = n → zs.length = ks.length → gV (x :: vs) zs = x :: hV vs zs) ∧ ∀ (T : CT) (H : Hp) (S : Addr → Prop) (ds es : List D) (vs zs : List V), ds.length = n → es.length = ks.length → Reps T H S ds vs → Reps T H S es zs → Reps T H S (gD ds es) (hV vs zs)
theorem make_imp {ns : List Str} {F : List D → Option (List D)} {gD : List D → List D → List D} {gV hV : List V → List V → List V} {fk : FA} {j i : Nat} (hT : T c = some (C, ns)) (hl : LenA fa j) (hk : LenA fk i) (hn : ∀ ds es, ds.length = j → es.length = i → (gD ds es).length = n)
    (hx : ∀ x vs zs, vs.length = j → zs.length = i → gV (x :: vs) zs = x :: hV vs zs) (hG : ∀ (T : CT) (H : Hp) (S : Addr → Prop) (ds es : List D) (vs zs : List V), ds.length = j → es.length = i → Reps T H S ds vs → Reps T H S es zs → Reps T H S (gD ds es) (hV vs zs))
    {σ : L2.St} {H : Hp} {Q : VK} {E : XK} (h : tD T (fMake c F gD fa fk) σ H Q) : tMakeN C j i (spI T c n F) gV E (tDs T fa) (tDs T fk) σ H Q := by
  obtain ⟨S0, δ, d, δ', ok, e, q⟩ := h
  obtain ⟨ds, δ1, e1, e2⟩ := bind_some2 e
  obtain ⟨es, δ2, e3, e4⟩ := bind_some2 e2
  dsimp only at e4
  obtain ⟨fs, e5, e6⟩ := map_some1 e4
  cases e6
  refine ⟨S0, δ, ds, δ1, ok, e1, fun vs H1 ok1 s1 r1 => ⟨S0, δ1, es, δ', ok1, e3, fun zs H2 ok2 s2 r2 => ?_⟩⟩
  have l1 := hl _ _ _ e1
  have l2 := hk _ _ _ e3
  refine ⟨by rw [r1.length, l1], by rw [r2.length, l2], fun y dx ny nd ne => ?_⟩
  rw [hx _ _ _ (by rw [r1.length, l1]) (by rw [r2.length, l2])]
  exact make_core hT (hn _ _ l1 l2) ok2 (hG _ _ _ _ _ _ _ l1 l2 (s2.reps r1) r2) e5 ny nd ne fun v H' ok' s' r => q v H' ok' ((s1.trans s2).trans s') r
theorem pd_make {ns : List Str} {F : List D → Option (List D)} {gD : List D → List D → List D} {ks : List Str} {kws : List Keyword} {fk : FA} {j : Nat} (hT : T c = some (C, ns)) (M : Mk X.K C f) (G : FnG X.prog X.w X.K X.mg X.base k f fd ps (spI T c n F)) (hq : Quiet X.A) (hr : Room (k + 1) X.A) (hm : X.mg x = some (.ref C)) (hb : BndI X.K fd ps j ks gD)
    (ha : PA X (e :: es) (tDs T fa)) (hkw : PK X kws (tDs T fk)) (hn : ∀ ds es, ds.length = j → es.length = ks.length → (gD ds es).length = n := by intro ds es h1 h2; simp [gPos, h1, h2]) (hl : LenA fa j := by repeat (first | exact lenA_nil | refine lenA_cons ?_)) (hlk : LenA fk ks.length := by repeat (first | exact lenA_nil | refine lenA_cons ?_)) (hg : Gl X x := by rfl)
    (hall : (backToKw pos (keywordEach kws X.env)).all (·.1.isSome) = true := by rfl) (hks : (backToKw pos (keywordEach kws X.env)).filterMap (·.1) = ks := by rfl) (hdb : (x == ("__debug__" : Str)) = false := by decide) (he : starEach (e :: es) X.env = (false, eval e X.env) :: starEach es X.env := by rfl)
    (hpl : ((backTo pos (starEach (e :: es) X.env)).any (·.1) || (backToKw pos (keywordEach kws X.env)).any (·.1.isNone)) = false := by rfl) : PE X (.Call (.Name x p) (e :: es) kws pos) (tD T (fMake c F gD fa fk)) := by
  obtain ⟨g, gV, hb, hV, hx, hG⟩ := hb
  exact PE.imp (pe_makeG (E := E0) M G hq hr hm hb ha hkw hg hall hks hdb he hpl) fun _ _ _ h => make_imp hT hl hlk hn hx hG h
theorem pd_make0 {ns : List Str} {F : List D → Option (List D)} {gD : List D → List D → List D} {ks : List Str} {kws : List Keyword} {fk : FA} (hT : T c = some (C, ns)) (M : Mk X.K C f) (G : FnG X.prog X.w X.K X.mg X.base k f fd ps (spI T c n F)) (hq : Quiet X.A) (hr : Room (k + 1) X.A) (hm : X.mg x = some (.ref C)) (hb : BndI X.K fd ps 0 ks gD)
    (hkw : PK X kws (tDs T fk)) (hn : ∀ ds es, ds.length = 0 → es.length = ks.length → (gD ds es).length = n := by intro ds es h1 h2; simp [gPos, h1, h2]) (hlk : LenA fk ks.length := by repeat (first | exact lenA_nil | refine lenA_cons ?_)) (hg : Gl X x := by rfl)
    (hall : (backToKw pos (keywordEach kws X.env)).all (·.1.isSome) = true := by rfl) (hks : (backToKw pos (keywordEach kws X.env)).filterMap (·.1) = ks := by rfl) (hdb : (x == ("__debug__" : Str)) = false := by decide)
    (hpl : ((backTo pos (starEach [] X.env)).any (·.1) || (backToKw pos (keywordEach kws X.env)).any (·.1.isNone)) = false := by rfl) : PE X (.Call (.Name x p) [] kws pos) (tD T (fMake c F gD fNil fk)) := by
  obtain ⟨g, gV, hb, hV, hx, hG⟩ := hb
  refine PE.imp (pe_makeG0 (E := E0) M G hq hr hm hb hkw hg hall hks hdb hpl) fun σ H Q h => ?_
  obtain ⟨S0, δ, ds, δ1, ok, e1, q⟩ := make_imp (E := E0) hT lenA_nil hlk hn hx hG h
  cases e1
  exact q [] H ok Step.refl Reps.nil
/-- self.f = e in an __init__: the next attribute -/
def sIni (i : Nat) (C : Addr) (ns : List Str) (g : Str) (fv : FE) : FS := fun δ => (fv δ).bind fun (d, δ1) => match δ1[i]? with
  | some (.own (.ini C' dx ns') ds) => if C' = C ∧ ns' = ns ∧ ns[ds.length]? = some g then some (.nx (δ1.set i (.own (.ini C' dx ns') (ds ++ [d])))) else none
  | _ => none
theorem putF_zip : ∀ {ns : List Str} {vs : List V} {g : Str} {v : V}, ns.Nodup → ns[vs.length]? = some g → putF g v (ns.zip vs) = ns.zip (vs ++ [v])
  | [], _, _, _, _, h => by simp at h
  | a :: ns, [], g, v, _, h => by
    simp at h
    subst h
    simp [putF]
  | a :: ns, w :: vs, g, v, nd, h => by
    simp at h
    have hne : ¬ a = g := fun z => by
      subst z
      exact (List.nodup_cons.mp nd).1 (List.mem_of_getElem? h)
    rw [List.zip_cons_cons]
    show (if a = g then _ else (a, w) :: putF g v (ns.zip vs)) = _
    rw [if_neg hne, putF_zip (List.nodup_cons.mp nd).2 h]
    rfl
theorem st_ini {i : Nat} {y g : Str} {py pa : Pos} {v : Expr} {fv : FE} {ns : List Str} (hv : PE X v (tD T fv)) (hc : Cls X.K C) (hn : NoAttr X.K C g) (nd : ns.Nodup := by decide +kernel) (hlen : ns.length < 1000 := by decide) (hN : X.N[i]? = some y := by rfl)
    (hvis : Vis X.env.scope y := by first | exact Or.inl rfl | exact Or.inr (Or.inl rfl) | exact Or.inr (Or.inr rfl)) (hdy : (y == ("__debug__" : Str)) = false := by decide) (hcd : (y == ("__classdict__" : Str)) = false := by decide)
    (hs : swapsWith v (some (.Attribute (.Name y py) g pa)) pos.line X.env = pure false := by rfl) : PS X (.Assign [.Attribute (.Name y py) g pa] v pos) (tSt T (sIni i C ns g fv)) := PS.imp (ps_fld (pe_var hN hvis hdy hcd) hv hs) fun E σ H ⟨S0, δ, r, ok, e, q⟩ => by
  obtain ⟨d, δ1, e1, e2⟩ := bind_some2 e
  refine ⟨S0, δ, d, δ1, ok, e1, fun w H1 ok1 s1 rw' => ?_⟩
  dsimp only at e2
  cases z : δ1[i]? with
  | none => rw [z] at e2; cases e2
  | some sl =>
    rw [z] at e2
    cases sl with
    | un => cases e2
    | val _ => cases e2
    | own p1 ds =>
      cases p1 with
      | mine => cases e2
      | pot => cases e2
      | ini C' dx' ns' =>
        dsimp only at e2
        obtain ⟨⟨hC, hns, hg⟩, e3⟩ := ite_some e2
        subst hC hns
        subst e3
        obtain ⟨a, vs, ea, ha, rs, _⟩ := ok1.ow i _ ds z
        have hl := rs.length
        have hlt : ds.length < ns'.length := (List.getElem?_eq_some_iff.mp hg).1
        refine ⟨_, ea, a, C', dx', ns'.zip vs, rfl, ha, hc, hn, by rw [List.length_zip]; omega, ?_⟩
        rw [putF_zip nd (by rw [hl]; exact hg)]
        have hk : ∀ b o, H1 b = some o → b ≠ a → upd H1 a (.ins C' dx' (ns'.zip (vs ++ [w]))) b = some o := fun b o e ne => by rw [upd_ne ne]; exact e
        have na : Av S0 σ δ1 a := .inr ⟨i, _, ds, z, ea⟩
        obtain ⟨ok2, s2⟩ := ok1.change (H' := upd H1 a (.ins C' dx' (ns'.zip (vs ++ [w])))) (us := vs ++ [w]) z ea hk upd_same ((rs.append (Reps.cons rw' Reps.nil)).move (fun b o e n => hk b o e fun q => n (by rw [q]; exact na)) fun b z => .inl z)
        exact q _ _ ok2 (s1.trans s2)
end
end Dl
namespace Dl
open PySem PySem.Spec PyProof.Rows L2

/-- the slots at a def's entry -/
def ini (m : Nat) (ds : List D) : Es := ds.map .val ++ List.replicate (m - ds.length) .un
theorem ini_ok {T : CT} {S : Addr → Prop} {H : Hp} {N : List Str} {ds : List D} {vs : List V} (tr : ∀ b, S b → ∃ o, H b = some o) (r : Reps T H S ds vs) : Ok T S (L2.start N vs) (ini N.length ds) H := by
  have hl := r.length
  have nown : ∀ b, ¬ ownAt (L2.start N vs) (ini N.length ds) b := fun b ⟨i, p, es, h1, _⟩ => by
    unfold ini at h1
    rw [List.getElem?_append] at h1
    split at h1
    · rw [List.getElem?_map] at h1
      cases q : ds[i]? with
      | none => rw [q] at h1; cases h1
      | some d => rw [q] at h1; cases h1
    · rw [List.getElem?_replicate] at h1
      split at h1 <;> cases h1
  refine ⟨?_, tr, fun i d h => ?_, fun i p es h => ?_, fun i j p q es fs a h1 h2 h3 h4 => ?_⟩
  · unfold L2.start ini
    simp only [List.length_append, List.length_map, List.length_replicate]
    omega
  · unfold ini at h
    rw [List.getElem?_append] at h
    split at h
    · rename_i hi
      rw [List.getElem?_map] at h
      cases q : ds[i]? with
      | none => rw [q] at h; cases h
      | some d' =>
        rw [q] at h
        cases h
        obtain ⟨v, hv, rv⟩ := r.get q
        refine ⟨v, ?_, rv.sub fun b z => z.elim id fun z => (nown b z).elim⟩
        unfold L2.start
        have hi' : i < vs.length := (List.getElem?_eq_some_iff.mp hv).1
        rw [List.getElem?_append_left (by simpa using hi'), List.getElem?_map, hv]
        rfl
    · rw [List.getElem?_replicate] at h
      split at h <;> cases h
  · unfold ini at h
    rw [List.getElem?_append] at h
    split at h
    · rw [List.getElem?_map] at h
      cases q : ds[i]? with
      | none => rw [q] at h; cases h
      | some d => rw [q] at h; cases h
    · rw [List.getElem?_replicate] at h
      split at h <;> cases h
  · obtain ⟨⟩ := nown a ⟨i, p, es, h1, h3⟩
theorem ini_own {N : List Str} {ds : List D} {vs : List V} : ∀ b, ¬ ownAt (L2.start N vs) (ini N.length ds) b := fun b ⟨i, p, es, h1, _⟩ => by
  unfold ini at h1
  rw [List.getElem?_append] at h1
  split at h1
  · rw [List.getElem?_map] at h1
    cases q : ds[i]? with
    | none => rw [q] at h1; cases h1
    | some d => rw [q] at h1; cases h1
  · rw [List.getElem?_replicate] at h1
    split at h1 <;> cases h1
/-- .. whose first parameter is the caller's own -/
theorem iniP_ok {T : CT} {S : Addr → Prop} {H : Hp} {N : List Str} {ds xs : List D} {vs us : List V} {p : Addr} {w : Ow} (hw : w ≠ .mine) (tr : ∀ b, S b → ∃ o, H b = some o) (hp : S p) (ha : H p = some (hoOf w us)) (rx : Reps T H S xs us) (r : Reps T H S ds vs) (hN : 0 < N.length) :
    Ok T S (L2.start N (V.ref p :: vs)) (.own w xs :: ini (N.length - 1) ds) H ∧ ∀ b, ownAt (L2.start N (V.ref p :: vs)) (.own w xs :: ini (N.length - 1) ds) b → b = p := by
  have hl := r.length
  have hst : L2.start N (V.ref p :: vs) = some (V.ref p) :: (vs.map some ++ List.replicate (N.length - (vs.length + 1)) none) := by
    unfold L2.start
    simp
  have nth : ∀ (i : Nat) q es, (ini (N.length - 1) ds)[i]? = some (.own q es) → False := fun i q es h1 => by
    unfold ini at h1
    rw [List.getElem?_append] at h1
    split at h1
    · rw [List.getElem?_map] at h1
      cases q : ds[i]? with
      | none => rw [q] at h1; cases h1
      | some d => rw [q] at h1; cases h1
    · rw [List.getElem?_replicate] at h1
      split at h1 <;> cases h1
  have own1 : ∀ b, ownAt (L2.start N (V.ref p :: vs)) (.own w xs :: ini (N.length - 1) ds) b → b = p := fun b ⟨i, q, es, h1, h2⟩ => by
    rw [hst] at h2
    cases i with
    | zero => simp at h2; exact h2.symm
    | succ i => simp at h1; exact (nth i q es h1).elim
  have sub : ∀ b, Av S (L2.start N (V.ref p :: vs)) (.own w xs :: ini (N.length - 1) ds) b → S b := fun b z => z.elim id fun z => by rw [own1 b z]; exact hp
  refine ⟨⟨?_, tr, fun i d h => ?_, fun i q es h => ?_, fun i j q1 q2 es fs a h1 h2 h3 h4 => ?_⟩, own1⟩
  · rw [hst]
    unfold ini
    simp only [List.length_cons, List.length_append, List.length_map, List.length_replicate]
    omega
  · cases i with
    | zero => simp at h
    | succ i =>
      simp at h
      unfold ini at h
      rw [List.getElem?_append] at h
      split at h
      · rw [List.getElem?_map] at h
        cases q : ds[i]? with
        | none => rw [q] at h; cases h
        | some d' =>
          rw [q] at h
          cases h
          obtain ⟨v, hv, rv⟩ := r.get q
          refine ⟨v, ?_, rv.sub sub⟩
          rw [hst]
          have hi' : i < vs.length := (List.getElem?_eq_some_iff.mp hv).1
          rw [List.getElem?_cons_succ, List.getElem?_append_left (by simpa using hi'), List.getElem?_map, hv]
          rfl
      · rw [List.getElem?_replicate] at h
        split at h <;> cases h
  · cases i with
    | zero =>
      simp at h
      obtain ⟨rfl, rfl⟩ := h
      exact ⟨p, us, by rw [hst]; rfl, ha, rx.sub sub, fun z => absurd z hw⟩
    | succ i => simp at h; exact (nth i q es h).elim
  · cases i with
    | zero => cases j with
      | zero => rfl
      | succ j => simp at h2; exact (nth j q2 fs h2).elim
    | succ i => simp at h1; exact (nth i q1 es h1).elim

/-- how a body's end tells the value -/
def endD : Fl → Option D
  | .rt d _ => some d
  | .nx _ => some .non
  | _ => none
def endP : Fl → Option (D × List D)
  | .rt d (.own .pot xs :: _) => some (d, xs)
  | .nx (.own .pot xs :: _) => some (.non, xs)
  | _ => none
def endI (C : Addr) (ns : List Str) : Fl → Option (List D)
  | .nx (.own (.ini C' _ ns') xs :: _) => if C' = C ∧ ns' = ns ∧ xs.length = ns.length then some xs else none
  | _ => none
section
variable {P : Program} {w : World} {K : PySem.W.Frag} {mg : Str → Option Value} {base : Heap} {T : CT}
theorem end0 {S : Addr → Prop} {H : Hp} {N : List Str} {ds : List D} {vs : List V} {g : FS} {d : D} {r : Fl} {Q : VK} (tr : ∀ b, S b → ∃ o, H b = some o) (rr : Reps T H S ds vs) (eg : g (ini N.length ds) = some r) (er : endD r = some d) (q : ∀ v H', Same H H' → Rep T H' S d v → Q v H') :
    tSt T g { nx := fun _ H' => Q .non H', rt := Q } (L2.start N vs) H := by
  refine ⟨S, ini N.length ds, r, ini_ok tr rr, eg, ?_⟩
  cases r with
  | nx δ' => cases er; exact fun σ' H' ok s => q _ H' (fun b o e => s.keep b o e (ini_own b)) (rep_lit rfl)
  | bk δ' => cases er
  | ct δ' => cases er
  | rt d' δ' => cases er; exact fun v σ' H' ok s r => q v H' (fun b o e => s.keep b o e (ini_own b)) (r.sub fun b z => .inl z)
/-- THE RULE for a def: its body's function tells what G tells -/
theorem ok0 {x qual : Str} {st : Stmt} {f : Addr} {fd : FuncData} {N ps : List Str} {k : Nat} {g : FS} (G : List D → Option D) (F : Fun K x qual st f fd) (S : FnScope N ps (defScope st))
    (body : ∀ (cdv : Value) (A : Around) (outer : List PySem.Env) (s : Shared) (H : Hp) (E : XK), Quiet A → Room k (A.deeper (envOfC qual (defScope st) s.heap.objs.size f cdv)) → PSs (cxOf CX0 P w K mg base N qual (defScope st) f cdv A outer s H E).nox (defBody st) (tSt T g))
    (tell : ∀ ds d, ds.length = ps.length → G ds = some d → ∃ r, g (ini N.length ds) = some r ∧ endD r = some d) : FnG P w K mg base (k + 1) f fd ps (sp0 T ps.length G) := by
  obtain ⟨oc, od, kV, doc, pm, an, cdv, ct, osl, rfl, lk, hcd⟩ := F.ex
  refine fnG_of lk hcd S (fun vs H Q E h => ?_) (fun A outer s H vs Q E hq hr h => ?_)
  · obtain ⟨S, ds, d, _, hl, r, _⟩ := h
    rw [r.length, hl]
  · obtain ⟨S, ds, d, tr, hl, r, eG, q⟩ := h
    obtain ⟨r1, e1, e2⟩ := tell ds d hl eG
    exact ⟨_, body cdv A outer s H E hq hr, end0 tr r e1 e2 q⟩
theorem endP_some {r : Fl} {d : D} {xs : List D} (h : endP r = some (d, xs)) : (∃ δ, r = .rt d (.own .pot xs :: δ)) ∨ (d = .non ∧ ∃ δ, r = .nx (.own .pot xs :: δ)) := by
  unfold endP at h
  split at h
  · cases h; exact .inl ⟨_, rfl⟩
  · cases h; exact .inr ⟨rfl, _, rfl⟩
  · cases h
theorem ok1 {x qual : Str} {st : Stmt} {f : Addr} {fd : FuncData} {N ps : List Str} {k n : Nat} {g : FS} (G : List D → List D → Option (D × List D)) (F : Fun K x qual st f fd) (S : FnScope N ps (defScope st)) (hn : ps.length = n + 1)
    (body : ∀ (cdv : Value) (A : Around) (outer : List PySem.Env) (s : Shared) (H : Hp) (E : XK), Quiet A → Room k (A.deeper (envOfC qual (defScope st) s.heap.objs.size f cdv)) → PSs (cxOf CX0 P w K mg base N qual (defScope st) f cdv A outer s H E).nox (defBody st) (tSt T g))
    (tell : ∀ xs ds d xs', ds.length = n → G xs ds = some (d, xs') → ∃ r, g (.own .pot xs :: ini (N.length - 1) ds) = some r ∧ endP r = some (d, xs')) : FnG P w K mg base (k + 1) f fd ps (sp1 T n G) := by
  have hN : 0 < N.length := by
    have h := congrArg List.length S.pre
    rw [List.length_take, hn] at h
    omega
  obtain ⟨oc, od, kV, doc, pm, an, cdv, ct, osl, rfl, lk, hcd⟩ := F.ex
  refine fnG_of lk hcd S (fun vs H Q E h => ?_) (fun A outer s H vs Q E hq hr h => ?_)
  · obtain ⟨S, p, us, xs, ws, ds, d, xs', rfl, _, _, _, _, hl, r, _⟩ := h
    rw [List.length_cons, r.length, hl, hn]
  · obtain ⟨S, p, us, xs, ws, ds, d, xs', rfl, tr, hp, ha, rx, hl, r, eG, q⟩ := h
    obtain ⟨r1, e1, e2⟩ := tell xs ds d xs' hl eG
    obtain ⟨ok, own1⟩ := iniP_ok (w := .pot) (by intro z; cases z) tr hp ha rx r hN
    refine ⟨_, body cdv A outer s H E hq hr, S, _, r1, ok, e1, ?_⟩
    have fin : ∀ (σ' : L2.St) (H' : Hp) (δ1 : Es) (v : V), Ok T S σ' (.own .pot xs' :: δ1) H' → Step (L2.start N (V.ref p :: ws)) (.own .pot xs :: ini (N.length - 1) ds) H σ' (.own .pot xs' :: δ1) H' → Rep T H' S d v → Q v H' := fun σ' H' δ1 v ok' s r => by
      obtain ⟨a, us', e3, e4, rs, _⟩ := ok'.ow 0 .pot xs' rfl
      obtain ⟨_, e5⟩ := s.pot 0 .pot xs' (by intro z; cases z) rfl
      rw [e3] at e5
      have ep : a = p := by
        have h0 : (L2.start N (V.ref p :: ws))[0]? = some (some (V.ref p)) := by unfold L2.start; simp
        rw [h0] at e5
        injection e5 with e5
        injection e5 with e5
        injection e5
      subst ep
      exact q v H' us' (fun b o e ne => s.keep b o e fun z => ne (own1 b z)) e4 (rs.sub fun b z => .inl z) r
    rcases endP_some e2 with ⟨δ1, rfl⟩ | ⟨rfl, δ1, rfl⟩
    · exact fun v σ' H' ok' s r => fin σ' H' δ1 v ok' s (r.sub fun b z => .inl z)
    · exact fun σ' H' ok' s => fin σ' H' δ1 _ ok' s (rep_lit rfl)
theorem endI_some {C : Addr} {ns : List Str} {r : Fl} {xs : List D} (h : endI C ns r = some xs) : ∃ dx δ, r = .nx (.own (.ini C dx ns) xs :: δ) ∧ xs.length = ns.length := by
  unfold endI at h
  split at h
  · obtain ⟨⟨e1, e2, e3⟩, e4⟩ := ite_some h
    subst e1 e2 e4
    exact ⟨_, _, rfl, e3⟩
  · cases h
/-- an __init__ with defaults -/
theorem okI {x qual : Str} {params : Arguments} {bd : List Stmt} {scope : Scope} {dvs : List V} {f : Addr} {fd : FuncData} {N ps : List Str} {k n c : Nat} {C : Addr} {ns : List Str} {g : FS} (G : List D → Option (List D)) (F : FunD K x qual params bd scope dvs [] f fd) (S : FnScope N ps scope) (hn : ps.length = n + 1) (hT : T c = some (C, ns))
    (body : ∀ (cdv : Value) (A : Around) (outer : List PySem.Env) (s : Shared) (H : Hp) (E : XK), Quiet A → Room k (A.deeper (envOfC qual scope s.heap.objs.size f cdv)) → PSs (cxOf CX0 P w K mg base N qual scope f cdv A outer s H E).nox bd (tSt T g))
    (tell : ∀ dx ds fs, ds.length = n → G ds = some fs → ∃ r, g (.own (.ini C dx ns) [] :: ini (N.length - 1) ds) = some r ∧ endI C ns r = some fs) : FnG P w K mg base (k + 1) f fd ps (spI T c n G) := by
  have hN : 0 < N.length := by
    have h := congrArg List.length S.pre
    rw [List.length_take, hn] at h
    omega
  obtain ⟨oc, od, dV, kV, doc, pm, an, cdv, ct, osl, rfl, lk, hcd, _, _⟩ := F.ex
  refine fnG_of lk hcd S (fun vs H Q E h => ?_) (fun A outer s H vs Q E hq hr h => ?_)
  · obtain ⟨S, y, C', dx, ns', ws, ds, fs, rfl, _, _, _, _, hl, r, _⟩ := h
    rw [List.length_cons, r.length, hl, hn]
  · obtain ⟨S, y, C', dx, ns', ws, ds, fs, rfl, hT', hy, tr, hp, hl, r, eG, q⟩ := h
    rw [hT] at hT'; cases hT'
    obtain ⟨r1, e1, e2⟩ := tell dx ds fs hl eG
    obtain ⟨ok, own1⟩ := iniP_ok (w := .ini C dx ns) (us := []) (xs := []) (by intro z; cases z) tr hp (by rw [hy]; simp [hoOf]) Reps.nil r hN
    refine ⟨_, body cdv A outer s H E hq hr, S, _, r1, ok, e1, ?_⟩
    obtain ⟨dx', δ1, rfl, hlen⟩ := endI_some e2
    refine fun σ' H' ok' s => ?_
    obtain ⟨a, us', e3, e4, rs, _⟩ := ok'.ow 0 _ fs rfl
    obtain ⟨⟨es, e6⟩, e5⟩ := s.pot 0 _ fs (by intro z; cases z) rfl
    simp at e6
    obtain ⟨rfl, _⟩ := e6
    rw [e3] at e5
    have ep : a = y := by
      have h0 : (L2.start N (V.ref y :: ws))[0]? = some (some (V.ref y)) := by unfold L2.start; simp
      rw [h0] at e5
      injection e5 with e5
      injection e5 with e5
      injection e5
    subst ep
    exact q H' us' (fun b o e ne => s.keep b o e fun z => ne (own1 b z)) e4 (by rw [rs.length, hlen]) (rs.sub fun b z => .inl z)
end
end Dl
namespace OwB
open PySem PySem.W PySem.SeqAt PyProof.Rows PySem.Builtin
section
variable {prog : Program} {w : World} {A : Around} {E : Value → Shared → Prop} {s : Shared} {K : Frag} {x C f : Addr} {h₀ : Heap} {m : Str → Option Value} {ox : Obj} {od : Option Obj}
theorem ne_body {b : Value} {Q : Fin → Shared → Prop} (X : K.In s.heap) (I : InstAt s.heap x ox C od) (hu : A.units < cLine) (hs : findIn K (.ref C) "__eq__" = some (some (.ref f))) (hf : isFn K (.ref f) = true)
    (h : wpAny (model prog w) A (call (.ref f) [.ref x, b]) (fun v s' => ∃ k, v = .bool k ∧ Q (.done (.ret (.bool (!k)))) s') E s) : wpAny (model prog w) A (Builtin.«object.__ne__» ⟨[.ref x, b], []⟩) Q E s := by
  unfold Builtin.«object.__ne__»
  repeat (first
    | with_reducible refine wpAny_cRoomFor hu ?_
    | (refine wpAny_bind (m := callSpecialIfBound? (.ref x) (Str.ofString "__eq__") [b]) (ifBound_K X I hs hf (wpAny_mono h (fun r s' hr => by
          obtain ⟨k, rfl, hq⟩ := hr
          repeat (first | exact hq | exact wpAny_pure hq | exact wpAny_truthy_bool hq | (refine wpAny_bind (m := truthy (.bool _)) (wpAny_truthy_bool ?_)) | wp_step)) fun _ _ e => e)))
    | wp_step)
theorem try_ne {b : Value} {Q : Option Value → Shared → Prop} (X : K.In s.heap) (I : InstAt s.heap x ox C od) (hu : A.units + 1 < cLine) (hn : findIn K (.ref C) "__ne__" = some (some (.builtin "object.__ne__"))) (hob : subIn K (.ref C) (.type "object") = some true)
    (hs : findIn K (.ref C) "__eq__" = some (some (.ref f))) (hf : isFn K (.ref f) = true)
    (h : wpAny (model prog w) A.in1 (call (.ref f) [.ref x, b]) (fun v s' => ∃ k, v = .bool k ∧ Q (some (.bool (!k))) s') E s) : wpAny (model prog w) A (tryCompare (.ref x) "__ne__" b) Q E s := by
  have LI : Looks (model prog w) s.heap (isInstance (.ref x) (.type "object")) true := I.type.andThen (looks_subIn X hob)
  simp only [tryCompare, callSpecialIfBound?, bindSpecialIfBound?]
  refine wpAny_bind (wpAny_holding (wpAny_bind (wpAny_bind (wpAny_bind (I.type.here ((looks_findIn X hn).here ?_))))))
  have run : wpAny (model prog w) A (call (.builtin "object.__ne__") [.ref x, b]) (fun v s' => ∃ k, v = .bool k ∧ Q (some (.bool k)) s') E s := by
    refine wpAny_call (codeAny_call_builtin F.cmp_object.ne.plain F.cmpEntry_ne (@PySem.W.check_slot (model prog w) _ _ s "object.__ne__" "object" "__ne__" (.ref x) [b] [] _ (by decide +kernel) (by decide +kernel) LI (F.cmpArgs_ne _ _) ?_))
    refine ne_body (A := A.in1) X I hu hs hf (wpAny_mono h (fun v s' hv => ?_) fun _ _ e => e)
    obtain ⟨k, rfl, q⟩ := hv
    exact ⟨k, rfl, _, rfl, q⟩
  have fin : wpAny (model prog w) A (call (.builtin "object.__ne__") ([.ref x] ++ [b]) >>= fun v => pure (some v)) (fun r s' => ∃ k, r = some (.bool k) ∧ Q (some (.bool k)) s') E s := wpAny_bind (wpAny_mono run (fun v s' ⟨k, e, q⟩ => wpAny_pure ⟨k, by rw [e], q⟩) fun _ _ e => e)
  have end_ : ∀ r s', (∃ k, r = some (.bool k) ∧ Q (some (.bool k)) s') → wpAny (model prog w) A (match r with
        | some Value.notImplemented => pure none
        | none => pure none
        | some v => pure (some v)) Q E s' := fun r s' ⟨k, e, q⟩ => by
    subst e
    exact wpAny_pure q
  refine wpAny_bind (wpAny_askSetting (wpAny_ite ?_))
  simp only [F.cmp_object.ne.bind]
  split
  · exact wpAny_bind (wpAny_pure (wpAny_pure (wpAny_mono fin (fun r s' z => end_ r s' z) fun _ _ e => e)))
  · exact wpAny_tryCatch (wpAny_bind (wpAny_pure (wpAny_pure (wpAny_mono fin (fun r s' z => end_ r s' z) fun _ _ e => e))))
/-- x != b by the own == -/
theorem ne_own {b tb : Value} {Q : Value → Shared → Prop} (hu : A.units + 1 < cLine) (X : K.In s.heap) (I : InstAt s.heap x ox C od) (hb : Looks (model prog w) s.heap (typeOf b) tb) (hnf : notFirst K C tb = true) (hn : findIn K (.ref C) "__ne__" = some (some (.builtin "object.__ne__"))) (hob : subIn K (.ref C) (.type "object") = some true)
    (hs : findIn K (.ref C) "__eq__" = some (some (.ref f))) (hf : isFn K (.ref f) = true)
    (h : wpAny (model prog w) A.in1 (call (.ref f) [.ref x, b]) (fun v s' => ∃ k, v = .bool k ∧ Q (.bool (!k)) s') E s) : wpAny (model prog w) A (richCompare .NotEq (.ref x) b) Q E s := by
  have both : ∀ q : Value → Shared → Prop, (∀ v s', (∃ k, v = .bool k ∧ Q (.bool k) s') → q v s') → wpAny (model prog w) A (tryCompare (.ref x) "__ne__" b) (fun r s' => ∃ v, r = some v ∧ q v s') E s := fun q hq =>
    try_ne X I hu hn hob hs hf (wpAny_mono h (fun v s' ⟨k, e, z⟩ => ⟨k, e, _, rfl, hq _ _ ⟨_, rfl, z⟩⟩) fun _ _ e => e)
  unfold richCompare
  simp only [oneThing_ref]
  refine wpAny_holding (wpAny_bind (wpAny_cRoomFor (Nat.lt_of_succ_lt hu) (wpAny_bind (I.type.here (wpAny_bind (hb.here ?_))))))
  rw [cmpInfo_NotEq]
  dsimp only
  have tail : ∀ r s', (∃ v, r = some v ∧ ∃ k, v = Value.bool k ∧ Q (.bool k) s') → ∀ t : Sem Value, wpAny (model prog w) A (match r with
      | some v => pure v
      | none => t) Q E s' := fun r s' ⟨v, e, k, e2, q⟩ t => by
    subst e; subst e2
    exact wpAny_pure q
  split
  · rename_i q
    have e : subIn K tb (.ref C) = some false := by
      rcases Bool.or_eq_true_iff.mp hnf with e | e
      · rw [beq_iff_eq.mp e] at q; simp at q
      · exact beq_iff_eq.mp e
    refine wpAny_bind ((looks_subIn X e).here ?_)
    simp only [Bool.false_eq_true, if_false]
    refine wpAny_bind (wpAny_mono (both _ fun _ _ z => z) (fun r s' z => ?_) fun _ _ e => e)
    obtain ⟨v, rfl, k, rfl, hq⟩ := z
    exact wpAny_pure hq
  · refine wpAny_bind (wpAny_pure ?_)
    simp only [Bool.false_eq_true, if_false]
    refine wpAny_bind (wpAny_mono (both _ fun _ _ z => z) (fun r s' z => ?_) fun _ _ e => e)
    obtain ⟨v, rfl, k, rfl, hq⟩ := z
    exact wpAny_pure hq
end
end OwB
namespace Dl
open PySem PySem.Spec PyProof.Rows L2
/-! ### own operators -/
structure OwnOp (K : PySem.W.Frag) (C : Addr) (op : Operator) (f : Addr) : Prop where
  hc : PySem.W.selfFirst K C = true
  hs : PySem.W.findIn K (.ref C) (PySem.dunder op.info.2) = some (some (.ref f))
  hf : PySem.W.isFn K (.ref f) = true
  hr : ∃ rc, PySem.W.findIn K (.ref C) (PySem.dunderR op.info.2) = some rc ∧ (rc = none ∨ ∃ g : Addr, rc = some (.ref g))
  h1 : ∃ fo, PySem.W.findIn K (.type "int") (PySem.dunder op.info.2) = some fo
  h2 : ∃ ro, PySem.W.findIn K (.type "int") (PySem.dunderR op.info.2) = some ro
  sub : PySem.W.subIn K (.type "int") (.ref C) = some false
def rOwnB (C : Addr) (sp : Sp) (E : XK) : R2 := fun x y H Q => ∃ a dx fs, x = .ref a ∧ H a = some (.ins C dx fs) ∧ ((∃ i, y = .int i) ∨ ∃ b dy gs, y = .ref b ∧ H b = some (.ins C dy gs)) ∧ sp [x, y] H Q E
structure OwnRev (K : PySem.W.Frag) (C : Addr) (op : Operator) (g : Addr) (id : String) (B : Builtin) : Prop where
  hc : PySem.W.selfFirst K C = true
  hs : ∃ f : Addr, PySem.W.findIn K (.ref C) (PySem.dunder op.info.2) = some (some (.ref f))
  hr : PySem.W.findIn K (.ref C) (PySem.dunderR op.info.2) = some (some (.ref g))
  hf : PySem.W.isFn K (.ref g) = true
  sub : PySem.W.subIn K (.ref C) (.type "int") = some false
def rOwnR (C : Addr) (sp : Sp) (E : XK) : R2 := fun x y H Q => ∃ i b dy gs, x = .int i ∧ y = .ref b ∧ H b = some (.ins C dy gs) ∧ sp [y, x] H Q E
def rOwnU (C : Addr) (sp : Sp) (E : XK) : V → Hp → VK → Prop := fun x H Q => ∃ a dx fs, x = .ref a ∧ H a = some (.ins C dx fs) ∧ sp [x] H Q E
section
variable {X : Cx} {k : Nat} {f C : Addr} {fd : FuncData} {ps : List Str} {sp : Sp} {E : XK}
theorem op_ownB {op : Operator} (w : OwnOp X.K C op f) (F : FnG X.prog X.w X.K X.mg X.base k f fd ps sp) (hqt : Quiet X.A) (hr : Room k X.A) (hb : Binds X.K fd ps []) (hn : ps.length = 2) : OpR X (binaryOp op) (rOwnB C sp E) := by
  intro pins s σ H x y v u Q I rx ry h
  obtain ⟨a, dx, fs, rfl, ha, hy, q⟩ := h
  cases (show v = Value.ref a from rx)
  obtain ⟨mA, O, _⟩ := ins_get I.hok ha
  obtain ⟨od, J, _⟩ := O.look
  obtain ⟨m, hF⟩ := I.fr
  have run : wpAny (model X.prog X.w) X.A (call (.ref f) [.ref a, u]) (PySem.W.CmpBack (EP X pins σ Q)) X.xe s := by
    refine wpAny_mono (run_fnG (us := [.ref a, u]) (ws := []) (vs := [.ref a, y]) (zs := []) F hqt hr (kbn_pos hb hn) I (.cons rfl (.cons ry .nil)) .nil rfl rfl q) (fun z s' hz => ?_) fun _ _ x => x
    obtain ⟨z', H', I', rz, qz⟩ := hz
    exact SlX.cmpback rz ⟨z', H', I', rz, qz⟩
  rcases hy with ⟨i, rfl⟩ | ⟨b, dy, gs, rfl, hb'⟩
  · obtain ⟨t, rfl⟩ := ry
    obtain ⟨rc, r1, r2⟩ := w.hr
    obtain ⟨fo, h1⟩ := w.h1
    obtain ⟨ro, h2⟩ := w.h2
    exact PySem.W.ksp_binT (T := "int") hF I.ok.mod.kin J rfl w.hc w.hs w.hf r1 r2 h1 h2 w.sub run
  · cases (show u = Value.ref b from ry)
    obtain ⟨mB, O', _⟩ := ins_get I.hok hb'
    obtain ⟨od', J', _⟩ := O'.look
    exact OwB.bin_same I.kIn J J' w.hc w.hs w.hf run
theorem op_ownR {op : Operator} {id : String} {B : Builtin} (w : OwnRev X.K C op f id B) (F : FnG X.prog X.w X.K X.mg X.base k f fd ps sp) (hqt : Quiet X.A) (hr : Room k X.A) (hb : Binds X.K fd ps []) (hn : ps.length = 2)
    (fills : fillsNumberSlot (.type "int") op.info.2 = pure true) (slot : Slot "int" (PySem.dunder op.info.2) id) (entry : entryFor table id = some B) (args : ∀ a b, argsOk id ⟨[a, b], []⟩)
    (dec : ∀ (b : Int) (t : Tok) (y dx : Addr), Meets (B ⟨[.int b t, .ref y], []⟩) (fun _ R s => s.heap.get? y = some (PySem.W.instObj C dx) ∧ R (.ok (.ret .notImplemented)) s)) : OpR X (binaryOp op) (rOwnR C sp E) := by
  intro pins s σ H x y v u Q I rx ry h
  obtain ⟨i, b, dy, gs, rfl, rfl, hy, q⟩ := h
  cases (show u = Value.ref b from ry)
  obtain ⟨t, rfl⟩ := rx
  obtain ⟨mA, O, _⟩ := ins_get I.hok hy
  obtain ⟨od, J, _⟩ := O.look
  obtain ⟨_, _, _, hobj, _⟩ := (show ObjOk X.prog X.w H s.heap b (.ins C dy gs) from I.hok b _ hy)
  obtain ⟨f', hs⟩ := w.hs
  refine OwB.bin_rev I.kIn J w.hc hs w.hr w.hf w.sub fills slot entry (args _ _) (dec i t b dy) hobj ?_
  refine wpAny_mono (run_fnG (us := [.ref b, .int i t]) (ws := []) (vs := [.ref b, .int i]) (zs := []) F hqt hr (kbn_pos hb hn) I (.cons rfl (.cons ⟨t, rfl⟩ .nil)) .nil rfl rfl q) (fun z s' hz => ?_) fun _ _ x => x
  obtain ⟨z', H', I', rz, qz⟩ := hz
  exact SlX.cmpback rz ⟨z', H', I', rz, qz⟩
theorem un_ownN (hs : PySem.W.findIn X.K (.ref C) "__neg__" = some (some (.ref f))) (hf : PySem.W.isFn X.K (.ref f) = true) (F : FnG X.prog X.w X.K X.mg X.base k f fd ps sp) (hqt : Quiet X.A) (hr : Room k X.A) (hb : Binds X.K fd ps []) (hn : ps.length = 1) : UnR X (unaryOp .USub) (rOwnU C sp E) := by
  intro pins s σ H x v Q I rx h
  obtain ⟨a, dx, fs, rfl, ha, q⟩ := h
  cases (show v = Value.ref a from rx)
  obtain ⟨mA, O, _⟩ := ins_get I.hok ha
  obtain ⟨od, J, _⟩ := O.look
  obtain ⟨m, hF⟩ := I.fr
  exact PySem.W.ksp_neg hF I.ok.mod.kin J hs hf (run_fnG (us := [.ref a]) (ws := []) (vs := [.ref a]) (zs := []) F hqt hr (kbn_pos hb hn) I (.cons rfl .nil) .nil rfl rfl q)
end
end Dl
namespace Dl
open PySem PySem.Spec PyProof.Rows L2
/-! ### the kinds of values -/
/-- an own class as isinstance and == see it -/
structure ClsT (K : PySem.W.Frag) (C : Addr) : Prop where
  cl : Cls K C
  ca : PySem.W.findIn K (.ref C) "__class__" = some (some (.builtin "object.__class__"))
  cn : PySem.W.specialIn K (.builtin "object.__class__") "__get__" = some (some (.builtin "getset_descriptor.__get__"))
  ct : PySem.W.takesIn K (.builtin "object.__class__") = some true
  cm : PySem.W.mroIn K C (.type "object") = some true
/-- the kinds that data have, as values of types -/
def kindOf (T : CT) : D → Option Value
  | .non => some (.type "NoneType") | .bl _ => some (.type "bool") | .int _ => some (.type "int") | .str _ => some (.type "str") | .lst _ => some (.type "list") | .tup _ => some (.type "tuple")
  | .obj c _ => (T c).map fun q => .ref q.1
  | .cls _ => none
  | .scr _ => none
/-- all the own classes of T are known -/
def ClsAll (K : PySem.W.Frag) (T : CT) : Prop := ∀ c q, T c = some q → ClsT K q.1
theorem tyx_of {K : PySem.W.Frag} {T : CT} {H : Hp} {S : Addr → Prop} {d : D} {v : V} (hA : ClsAll K T) (hd : isC d = false) (r : Rep T H S d v) : ∃ t, kindOf T d = some t ∧ TyX K H v t := by
  cases d with
  | non => rw [rep_non r]; exact ⟨_, rfl, .base .non⟩
  | bl b => rw [rep_bl r]; exact ⟨_, rfl, .base (.bl b)⟩
  | int i => rw [rep_int r]; exact ⟨_, rfl, .base (.int i)⟩
  | str s => rw [rep_str r]; exact ⟨_, rfl, .base (.str s)⟩
  | lst ds =>
    rw [Rep] at r
    obtain ⟨a, vs, rfl, ha, _⟩ := r
    exact ⟨_, rfl, .base (.lst ha)⟩
  | tup ds =>
    rw [Rep] at r
    obtain ⟨a, vs, rfl, ha, _⟩ := r
    exact ⟨_, rfl, .base (.tup ha)⟩
  | obj c ds =>
    rw [Rep] at r
    obtain ⟨a, dx, C, ns, vs, rfl, hT, ha, _⟩ := r
    have q := hA c _ hT
    exact ⟨.ref C, by show (T c).map _ = _; rw [hT]; rfl, .base (.ins ha q.cl q.ca q.cn q.ct q.cm)⟩
  | cls c => cases hd
  | scr c => cases hd
/-- what isinstance(x, u) is, by the kinds -/
def Isi (K : PySem.W.Frag) (T : CT) (u : Value) (p : D → Bool) : Prop := ∀ d t, kindOf T d = some t → PySem.W.kitOne K t u = some (p d)
def fIsi (p : D → Bool) (fe : FE) : FE := fun δ => (fe δ).bind fun (d, δ1) => if isC d = false then some (.bl (p d), δ1) else none
section
variable {X : Cx} {T : CT} {k n c : Nat} {f C : Addr} {fd : FuncData} {ps : List Str} {x m : Str} {p pos apos : Pos} {e o : Expr} {es : List Expr} {fa : FA} {fo fe : FE}
theorem pd_isi {te : Expr} {u : Value} {cv : V} {pr : D → Bool} (he : PE X e (tD T fe)) (hc : PE X te (tC cv)) (hcv : ClsV cv u) (hA : ClsAll X.K T) (hI : Isi X.K T u pr) (hm : X.mg "isinstance" = none) (hg : Gl X "isinstance" := by rfl)
    (h1 : starEach [e, te] X.env = (false, eval e X.env) :: starEach [te] X.env := by rfl) (h2 : starEach [te] X.env = (false, eval te X.env) :: starEach [] X.env := by rfl) (hpl : (backTo pos (starEach [te] X.env)).any (·.1) = false := by rfl) : PE X (.Call (.Name "isinstance" p) [e, te] [] pos) (tD T (fIsi pr fe)) :=
  PE.imp (pe_callB call_isi hg hm (by decide +kernel) (pa_cons he (pa_cons hc pa_nil h2) h1) (by decide) (by decide) h1 hpl) fun σ H Q ⟨S0, δ, d, δ', ok, e, q⟩ => by
    obtain ⟨d1, δ1, e1, e2⟩ := bind_some2 e
    obtain ⟨hd, e2⟩ := ite_some e2
    cases e2
    refine ⟨S0, δ, d1, δ', ok, e1, fun v H1 ok1 s1 r => ?_⟩
    obtain ⟨t, ht, ty⟩ := tyx_of hA hd r
    exact ⟨v, cv, t, u, pr d1, rfl, hcv, ty, hI d1 t ht, q _ H1 ok1 s1 (rep_lit rfl)⟩
theorem pd_isi2 {te1 te2 : Expr} {u1 u2 : Value} {c1 c2 : V} {p1 p2 : D → Bool} {kt : Nat} {pt : Pos} (he : PE X e (tD T fe)) (hc1 : PE X te1 (tC c1)) (hc2 : PE X te2 (tC c2)) (hv1 : ClsV c1 u1) (hv2 : ClsV c2 u2) (hA : ClsAll X.K T) (hI1 : Isi X.K T u1 p1) (hI2 : Isi X.K T u2 p2) (hm : X.mg "isinstance" = none) (hg : Gl X "isinstance" := by rfl)
    (h0 : starEach [te1, te2] X.env = (false, eval te1 X.env) :: starEach [te2] X.env := by rfl) (h00 : starEach [te2] X.env = (false, eval te2 X.env) :: starEach [] X.env := by rfl)
    (h1 : starEach [e, .Tuple [te1, te2] kt pt] X.env = (false, eval e X.env) :: starEach [.Tuple [te1, te2] kt pt] X.env := by rfl) (h2 : starEach [.Tuple [te1, te2] kt pt] X.env = (false, eval (.Tuple [te1, te2] kt pt) X.env) :: starEach [] X.env := by rfl)
    (hpl : (backTo pos (starEach [.Tuple [te1, te2] kt pt] X.env)).any (·.1) = false := by rfl) : PE X (.Call (.Name "isinstance" p) [e, .Tuple [te1, te2] kt pt] [] pos) (tD T (fIsi (fun d => p1 d || p2 d) fe)) :=
  PE.imp (pe_callB call_isiT hg hm (by decide +kernel) (pa_cons he (pa_cons (pe_tup (pa_cons hc1 (pa_cons hc2 pa_nil h00) h0)) pa_nil h2) h1) (by decide) (by decide) h1 hpl) fun σ H Q ⟨S0, δ, d, δ', ok, e, q⟩ => by
    obtain ⟨d1, δ1, e1, e2⟩ := bind_some2 e
    obtain ⟨hd, e2⟩ := ite_some e2
    cases e2
    refine ⟨S0, δ, d1, δ', ok, e1, fun v H1 ok1 s1 r => ⟨by show 2 ≤ sizeLine; decide, fun tp htp => ?_⟩⟩
    have sm : Same H1 (upd H1 tp (.tup [c1, c2])) := fun b o e => by rw [upd_ne (ne_of_none e htp)]; exact e
    have r' := r.same sm
    obtain ⟨t, ht, ty⟩ := tyx_of hA hd r'
    have k1 := hI1 d1 t ht
    have k2 := hI2 d1 t ht
    have kk : PySem.W.kitAny X.K t [u1, u2] = some (p1 d1 || p2 d1) := by
      cases hp : p1 d1 with
      | true => rw [hp] at k1; exact kitAny_cons k1 (fun z => by cases z) (fun _ => rfl)
      | false => rw [hp] at k1; exact kitAny_cons k1 (fun _ => by
          cases hp2 : p2 d1 with
          | true => rw [hp2] at k2; exact kitAny_cons k2 (fun z => by cases z) (fun _ => rfl)
          | false => rw [hp2] at k2; exact kitAny_cons k2 (fun _ => kitAny_nil) (fun z => by cases z)) (fun z => by cases z)
    exact ⟨v, tp, [c1, c2], t, [u1, u2], p1 d1 || p2 d1, rfl, upd_same, .cons hv1 (.cons hv2 .nil), ty, kk, q _ _ (ok1.same sm) (s1.trans (Step.same sm)) (rep_lit rfl)⟩

/-! ### calls of built-ins by values -/
/-- r, of the values, follows from F, of the data -/
def CallV (T : CT) (r : List V → Hp → VK → Prop) (F : List D → Option D) : Prop := ∀ (S : Addr → Prop) (ds : List D) (vs : List V) (H : Hp) (d : D) (Q : VK), (∀ b, S b → ∃ o, H b = some o) → Reps T H S ds vs → F ds = some d → (∀ v H', Same H H' → Rep T H' S d v → Q v H') → r vs H Q
def fFun (F : List D → Option D) (fa : FA) : FE := fun δ => (fa δ).bind fun (ds, δ1) => (F ds).map fun d => (d, δ1)
theorem fun_imp {r : List V → Hp → VK → Prop} {F : List D → Option D} (hv : CallV T r F) {σ : L2.St} {H : Hp} {Q : VK} (h : tD T (fFun F fa) σ H Q) : tCB r (tDs T fa) σ H Q := by
  obtain ⟨S0, δ, d, δ', ok, e, q⟩ := h
  obtain ⟨ds, δ1, e1, e2⟩ := bind_some2 e
  dsimp only at e2
  obtain ⟨d1, e3, e4⟩ := map_some1 e2
  cases e4
  exact ⟨S0, δ, ds, δ', ok, e1, fun vs H1 ok1 s1 r1 => hv _ ds vs H1 d Q (fun b z => ok1.trk z) r1 e3 fun v H' sm r => q v H' (ok1.same sm) (s1.trans (Step.same sm)) r⟩
theorem pd_blt {id : String} {r : List V → Hp → VK → Prop} {F : List D → Option D} (hc : CallR X (.builtin id) r) (hv : CallV T r F) (hm : X.mg x = none) (hb : bootBuiltins x = some (.builtin id)) (ha : PA X (e :: es) (tDs T fa)) (hg : Gl X x := by rfl) (hn : x ≠ "__name__" := by decide) (hdb : (x == ("__debug__" : Str)) = false := by decide)
    (he : starEach (e :: es) X.env = (false, eval e X.env) :: starEach es X.env := by rfl) (hpl : (backTo pos (starEach es X.env)).any (·.1) = false := by rfl) : PE X (.Call (.Name x p) (e :: es) [] pos) (tD T (fFun F fa)) :=
  PE.imp (pe_callB hc hg hm hb ha hn hdb he hpl) fun _ _ _ h => fun_imp hv h
theorem pd_bty {id : String} {r : List V → Hp → VK → Prop} {F : List D → Option D} (hc : CallR X (.type id) r) (hv : CallV T r F) (hm : X.mg x = none) (hb : bootBuiltins x = some (.type id)) (ha : PA X (e :: es) (tDs T fa)) (hg : Gl X x := by rfl) (hn : x ≠ "__name__" := by decide) (hdb : (x == ("__debug__" : Str)) = false := by decide)
    (he : starEach (e :: es) X.env = (false, eval e X.env) :: starEach es X.env := by rfl) (hpl : (backTo pos (starEach es X.env)).any (·.1) = false := by rfl) : PE X (.Call (.Name x p) (e :: es) [] pos) (tD T (fFun F fa)) :=
  PE.imp (pe_callTy hc hg hm hb ha hn hdb he hpl) fun _ _ _ h => fun_imp hv h
theorem pd_bfun {id : String} {r : List V → Hp → VK → Prop} {F : List D → Option D} (hc : CallR X (.builtin id) r) (hv : CallV T r F) (hm : X.mg x = some (.builtin id)) (ha : PA X (e :: es) (tDs T fa)) (hg : Gl X x := by rfl) (hdb : (x == ("__debug__" : Str)) = false := by decide)
    (he : starEach (e :: es) X.env = (false, eval e X.env) :: starEach es X.env := by rfl) (hpl : (backTo pos (starEach es X.env)).any (·.1) = false := by rfl) : PE X (.Call (.Name x p) (e :: es) [] pos) (tD T (fFun F fa)) :=
  PE.imp (pe_callBfun hc hg hm ha hdb he hpl) fun _ _ _ h => fun_imp hv h
/-- one, two literal values in, one out -/
def fun1I (k : Int → D) : List D → Option D
  | [.int i] => some (k i)
  | _ => none
theorem reps_int1 {H : Hp} {S : Addr → Prop} {i : Int} {vs : List V} (h : Reps T H S [.int i] vs) : vs = [.int i] := by
  rw [Reps] at h
  obtain ⟨v, r, rfl, h1, h2⟩ := h
  rw [Reps] at h2; subst h2
  rw [rep_int h1]
theorem reps_int2 {H : Hp} {S : Addr → Prop} {i j : Int} {vs : List V} (h : Reps T H S [.int i, .int j] vs) : vs = [.int i, .int j] := by
  rw [Reps] at h
  obtain ⟨v, r, rfl, h1, h2⟩ := h
  rw [reps_int1 h2, rep_int h1]
theorem callv_abs : CallV T (fun xs H Q => ∃ i, xs = [.int i] ∧ Q (.int (if i < 0 then -i else i)) H) (fun1I fun i => .int (if i < 0 then -i else i)) := by
  intro S ds vs H d Q tr r e q
  unfold fun1I at e
  split at e <;> cases e
  exact ⟨_, reps_int1 r, q _ H (Same.refl _) (rep_lit rfl)⟩
def funGcd : List D → Option D
  | [.int i, .int j] => some (.int ((Nat.gcd i.natAbs j.natAbs : Nat) : Int))
  | _ => none
theorem callv_gcd : CallV T rGcd funGcd := by
  intro S ds vs H d Q tr r e q
  unfold funGcd at e
  split at e <;> cases e
  exact ⟨_, _, reps_int2 r, q _ H (Same.refl _) (rep_lit rfl)⟩
def funMax2 : List D → Option D
  | [.int i, .int j] => some (.int (if j > i then j else i))
  | _ => none
theorem callv_max2 : CallV T (fun xs H Q => ∃ i j, xs = [.int i, .int j] ∧ Q (.int (if j > i then j else i)) H) funMax2 := by
  intro S ds vs H d Q tr r e q
  unfold funMax2 at e
  split at e <;> cases e
  exact ⟨_, _, reps_int2 r, q _ H (Same.refl _) (rep_lit rfl)⟩
def funInt : List D → Option D
  | [.int i] => some (.int i)
  | [.bl b] => some (.int (if b then 1 else 0))
  | _ => none
theorem callv_int : CallV T (fun xs H Q => (∃ i, xs = [.int i] ∧ Q (.int i) H) ∨ ∃ k, xs = [.bl k] ∧ Q (.int (if k then 1 else 0)) H) funInt := by
  intro S ds vs H d Q tr r e q
  unfold funInt at e
  split at e
  · cases e
    exact .inl ⟨_, reps_int1 r, q _ H (Same.refl _) (rep_lit rfl)⟩
  · cases e
    rw [Reps] at r
    obtain ⟨v, r', rfl, h1, h2⟩ := r
    rw [Reps] at h2; subst h2
    exact .inr ⟨_, by rw [rep_bl h1], q _ H (Same.refl _) (rep_lit rfl)⟩
  · cases e
/-- str(n) -/
def okNum (i : Int) : Bool := decide (i.natAbs.log2 < 1920)
def funStrI : List D → Option D
  | [.int i] => if okNum i = true then some (.str (toString i)) else none
  | _ => none
theorem callv_strI : CallV T (fun xs H Q => ∃ i, xs = [.int i] ∧ i.natAbs.log2 < 1920 ∧ Q (.str (toString i)) H) funStrI := by
  intro S ds vs H d Q tr r e q
  unfold funStrI at e
  split at e
  · obtain ⟨h, e⟩ := ite_some e
    subst e
    exact ⟨_, reps_int1 r, of_decide_eq_true h, q _ H (Same.refl _) (rep_lit rfl)⟩
  · cases e

/-! ### numbers of any size -/
/-- sizes within which numbers are multiplied and divided -/
def okMul (i j : Int) : Bool := decide (i.natAbs < 2 ^ 4000) && decide (j.natAbs < 2 ^ 4000)
def okDiv (i j : Int) : Bool := decide (0 < j) && decide (j.natAbs < 2 ^ 4000)
def okPos (_ j : Int) : Bool := decide (0 < j)
theorem opv_mulW : OpV T (rI CMulW fun i j => .int (i * j)) (gI okMul fun i j => .int (i * j)) := opv_I (fun i j h => by
  unfold okMul at h
  rw [Bool.and_eq_true] at h
  exact wide_mul (of_decide_eq_true h.1) (of_decide_eq_true h.2) (by decide) (by decide) (by decide)) fun _ _ => rfl
theorem opv_divW : OpV T (rI CDivW fun i j => .int (i / j)) (gI okDiv fun i j => .int (i / j)) := opv_I (fun i j h => by
  unfold okDiv at h
  rw [Bool.and_eq_true] at h
  exact wide_div (of_decide_eq_true h.1) (of_decide_eq_true h.2) (by decide) (by decide)) fun _ _ => rfl
theorem opv_mod : OpV T (rI (fun _ j => 0 < j) fun i j => .int (i % j)) (gI okPos fun i j => .int (i % j)) := opv_I (fun i j h => of_decide_eq_true h) fun _ _ => rfl
def okPow (i j : Int) : Bool := decide (0 ≤ j) && decide (j ≤ 1000) && decide (i.natAbs < 2 ^ 64)
theorem opv_pow : OpV T (rI CPow fun i j => .int (i ^ j.toNat)) (gI okPow fun i j => .int (i ^ j.toNat)) := opv_I (fun i j h => by
  unfold okPow at h
  rw [Bool.and_eq_true, Bool.and_eq_true] at h
  exact ⟨of_decide_eq_true h.1.1, Int.le_trans (of_decide_eq_true h.1.2) (by decide), of_decide_eq_true h.2⟩) fun _ _ => rfl
theorem opv_add : OpV T (rI0 fun i j => .int (i + j)) (gI0 fun i j => .int (i + j)) := opv_I0 fun _ _ => rfl
theorem opv_sub : OpV T (rI0 fun i j => .int (i - j)) (gI0 fun i j => .int (i - j)) := opv_I0 fun _ _ => rfl
theorem opv_lt : OpV T (rI0 fun i j => .bl (decide (i < j))) (gI0 fun i j => .bl (decide (i < j))) := opv_I0 fun _ _ => rfl
theorem opv_le : OpV T (rI0 fun i j => .bl (decide (i ≤ j))) (gI0 fun i j => .bl (decide (i ≤ j))) := opv_I0 fun _ _ => rfl
theorem opv_gt : OpV T (rI0 fun i j => .bl (decide (j < i))) (gI0 fun i j => .bl (decide (j < i))) := opv_I0 fun _ _ => rfl
theorem opv_ge : OpV T (rI0 fun i j => .bl (decide (j ≤ i))) (gI0 fun i j => .bl (decide (j ≤ i))) := opv_I0 fun _ _ => rfl
/-- one operand -/
def UnV (T : CT) (r : V → Hp → VK → Prop) (g : D → Option D) : Prop := ∀ (S : Addr → Prop) (x : D) (v : V) (H : Hp) (d : D) (Q : VK), (∀ b, S b → ∃ o, H b = some o) → Rep T H S x v → g x = some d → (∀ v H', Same H H' → Rep T H' S d v → Q v H') → r v H Q
def fUn (g : D → Option D) (fa : FE) : FE := fun δ => (fa δ).bind fun (x, δ1) => (g x).map fun d => (d, δ1)
theorem pd_un {op : UnaryOp} {r : V → Hp → VK → Prop} {g : D → Option D} (ho : UnR X (unaryOp op) r) (hv : UnV T r g) (ha : PE X e (tD T fe)) : PE X (.UnaryOp op e pos) (tD T (fUn g fe)) := PE.imp (pe_un ho ha) fun σ H Q ⟨S0, δ, d, δ', ok, e, q⟩ => by
  obtain ⟨x, δ1, e1, e2⟩ := bind_some2 e
  dsimp only at e2
  obtain ⟨d1, e3, e4⟩ := map_some1 e2
  cases e4
  exact ⟨S0, δ, x, δ', ok, e1, fun v H1 ok1 s1 r1 => hv _ x v H1 d Q (fun b z => ok1.trk z) r1 e3 fun v H' sm r => q v H' (ok1.same sm) (s1.trans (Step.same sm)) r⟩
def gNeg : D → Option D
  | .int i => some (.int (-i))
  | _ => none
theorem unv_neg : UnV T (rU fun i => .int (-i)) gNeg := by
  intro S x v H d Q tr r e q
  cases x <;> cases e
  rw [rep_int r]
  exact ⟨_, rfl, q _ H (Same.refl _) (rep_lit rfl)⟩
/-- own -x -/
def gOwn1 (c : Nat) (F : List D → Option D) : D → Option D
  | .obj c' ds => if c' = c then F [.obj c' ds] else none
  | _ => none
theorem unv_own {ns : List Str} {F : List D → Option D} {E : XK} (hT : T c = some (C, ns)) : UnV T (rOwnU C (sp0 T 1 F) E) (gOwn1 c F) := by
  intro S x v H d Q tr r e q
  cases x <;> first | cases e | skip
  rename_i c' ds
  unfold gOwn1 at e
  dsimp only at e
  by_cases hc : c' = c
  · subst hc
    rw [if_pos rfl] at e
    have r' := r
    rw [Rep] at r
    obtain ⟨a, dx, C', ns', vs, rfl, hT', ha, _⟩ := r
    rw [hT] at hT'; cases hT'
    exact ⟨a, dx, _, rfl, ha, S, [.obj c' ds], d, tr, rfl, Reps.cons r' Reps.nil, e, q⟩
  · rw [if_neg hc] at e; cases e
/-- own a + b, b one of the class or an int -/
def gOwn2 (c : Nat) (F : List D → Option D) : D → D → Option D
  | .obj c' ds, .int i => if c' = c then F [.obj c' ds, .int i] else none
  | .obj c' ds, .obj c'' es => if c' = c ∧ c'' = c then F [.obj c' ds, .obj c'' es] else none
  | _, _ => none
theorem opv_own2 {ns : List Str} {F : List D → Option D} {E : XK} (hT : T c = some (C, ns)) : OpV T (rOwnB C (sp0 T 2 F) E) (gOwn2 c F) := by
  intro S x y vx vy H d Q tr rx ry e q
  unfold gOwn2 at e
  split at e
  · rename_i c' ds i
    by_cases hc : c' = c
    · subst hc
      rw [if_pos rfl] at e
      have rx' := rx
      rw [Rep] at rx
      obtain ⟨a, dx, C', ns', vs, rfl, hT', ha, _⟩ := rx
      rw [hT] at hT'; cases hT'
      exact ⟨a, dx, _, rfl, ha, .inl ⟨i, rep_int ry⟩, S, _, d, tr, rfl, Reps.cons rx' (Reps.cons ry Reps.nil), e, q⟩
    · rw [if_neg hc] at e; cases e
  · rename_i c' ds c'' es
    by_cases hc : c' = c ∧ c'' = c
    · obtain ⟨h1, h2⟩ := hc
      subst h1
      rw [if_pos ⟨rfl, h2⟩] at e
      subst h2
      have rx' := rx
      have ry' := ry
      rw [Rep] at rx ry
      obtain ⟨a, dx, C', ns', vs, rfl, hT', ha, _⟩ := rx
      obtain ⟨b, dy, C'', ns'', ws, rfl, hT'', hb, _⟩ := ry
      rw [hT] at hT' hT''; cases hT'; cases hT''
      exact ⟨a, dx, _, rfl, ha, .inr ⟨b, dy, _, rfl, hb⟩, S, _, d, tr, rfl, Reps.cons rx' (Reps.cons ry' Reps.nil), e, q⟩
    · rw [if_neg hc] at e; cases e
  · cases e
/-- an int on the left -/
def gOwnR (c : Nat) (F : List D → Option D) : D → D → Option D
  | .int i, .obj c' es => if c' = c then F [.obj c' es, .int i] else none
  | _, _ => none
theorem opv_ownR {ns : List Str} {F : List D → Option D} {E : XK} (hT : T c = some (C, ns)) : OpV T (rOwnR C (sp0 T 2 F) E) (gOwnR c F) := by
  intro S x y vx vy H d Q tr rx ry e q
  unfold gOwnR at e
  split at e
  · rename_i i c' es
    by_cases hc : c' = c
    · subst hc
      rw [if_pos rfl] at e
      have ry' := ry
      rw [Rep] at ry
      obtain ⟨b, dy, C', ns', ws, rfl, hT', hb, _⟩ := ry
      rw [hT] at hT'; cases hT'
      exact ⟨i, b, dy, _, rep_int rx, rfl, hb, S, _, d, tr, rfl, Reps.cons ry' (Reps.cons rx Reps.nil), e, q⟩
    · rw [if_neg hc] at e; cases e
  · cases e
end
end Dl
namespace Dl
open PySem PySem.Spec PyProof.Rows L2
section
variable {X : Cx} {T : CT} {k n c : Nat} {f C : Addr} {fd : FuncData} {ps : List Str} {sp : Sp} {E : XK}
/-- a call somewhat below the body -/
theorem run_lowG {A : Around} {pins : List (Addr × Obj)} {σ : L2.St} {H : Hp} {s : Shared} {Q : VK} {us : List Value} {vs : List V} (F : FnG X.prog X.w X.K X.mg X.base k f fd ps sp) (hq : Quiet A) (hr : Room k A) (e0 : Env0 X.prog X.w X.K X.mg X.base A X.stack s H) (hb : Binds X.K fd ps []) (hn : ps.length = us.length)
    (I : Inv X pins σ H s) (r : Vals vs us) (h : sp vs H Q E) : wpAny (model X.prog X.w) A (call (.ref f) us) (EP X pins σ Q) X.xe s := by
  apply wpAny_call
  have hbt := hb s us I.kIn (by rw [List.append_nil, hn])
  rw [List.append_nil] at hbt
  refine codeAny_mono (F.run A X.stack s H ⟨us, []⟩ us vs Q E hq hr e0 hbt r h) fun z s' hz => ?_
  have e := endG I z s' hz
  match z, e with
  | .ok (.ret _), e => exact e
  | .error _, e => exact e

/-! ### == and != -/
def gEqF : D → D → Option D := fun x y => match litV x, litV y with
  | some a, some b => if scal a b = true then some (.bl (decide (a = b))) else none
  | _, _ => none
def gNeF : D → D → Option D := fun x y => match litV x, litV y with
  | some a, some b => if scal a b = true then some (.bl (!decide (a = b))) else none
  | _, _ => none
theorem lit_rep {H : Hp} {S : Addr → Prop} {d : D} {v w : V} (r : Rep T H S d v) (h : litV d = some w) : v = w := by
  cases d <;> simp [litV] at h <;> subst h
  · exact rep_non r
  · exact rep_bl r
  · exact rep_int r
  · exact rep_str r
theorem opv_eqF : OpV T rEq gEqF := by
  intro S x y vx vy H d Q tr rx ry e q
  unfold gEqF at e
  split at e
  · rename_i a b ha hb
    obtain ⟨hs, e⟩ := ite_some e
    subst e
    rw [lit_rep rx ha, lit_rep ry hb]
    exact ⟨hs, q _ H (Same.refl _) (rep_lit rfl)⟩
  · cases e
theorem opv_neF : OpV T rNe gNeF := by
  intro S x y vx vy H d Q tr rx ry e q
  unfold gNeF at e
  split at e
  · rename_i a b ha hb
    obtain ⟨hs, e⟩ := ite_some e
    subst e
    rw [lit_rep rx ha, lit_rep ry hb]
    exact ⟨hs, q _ H (Same.refl _) (rep_lit rfl)⟩
  · cases e
/-- a value's kind -/
def Kd (T : CT) (H : Hp) (y : V) (t : Value) : Prop := ∃ d S, Rep T H S d y ∧ kindOf T d = some t
theorem looks_kind {pins : List (Addr × Obj)} {σ : L2.St} {H : Hp} {s : Shared} {y : V} {u t : Value} (I : Inv X pins σ H s) (r : RelV y u) (h : Kd T H y t) : PySem.W.Looks (model X.prog X.w) s.heap (typeOf u) t := by
  obtain ⟨d, S, rd, ht⟩ := h
  have byObj : ∀ (a : Addr) (o : Obj), s.heap.get? a = some o → o.cls = t → PySem.W.Looks (model X.prog X.w) s.heap (typeOf (.ref a)) t := fun a o ho hc A Q E s1 kk q => by
    have h1 := kk _ _ ho
    refine wpAny_typeOf_ref (o := o) h1 ?_
    rw [hc]
    exact q
  cases d with
  | non => cases ht; rw [rep_non rd] at r; cases r; exact PySem.W.Looks.of_pure rfl
  | bl b => cases ht; rw [rep_bl rd] at r; cases r; exact PySem.W.Looks.of_pure rfl
  | int i => cases ht; rw [rep_int rd] at r; obtain ⟨tk, rfl⟩ := r; exact PySem.W.Looks.of_pure rfl
  | str x => cases ht; rw [rep_str rd] at r; obtain ⟨tk, rfl⟩ := r; exact PySem.W.Looks.of_pure rfl
  | lst ds =>
    cases ht
    rw [Rep] at rd
    obtain ⟨a, vs, rfl, ha, _⟩ := rd
    cases r
    obtain ⟨_, its, m, _, ho⟩ := (show ObjOk X.prog X.w H s.heap a (.lst vs) from I.hok a _ ha)
    exact byObj a _ ho rfl
  | tup ds =>
    cases ht
    rw [Rep] at rd
    obtain ⟨a, vs, rfl, ha, _⟩ := rd
    cases r
    obtain ⟨_, its, _, o, ho, hc, _⟩ := (show ObjOk X.prog X.w H s.heap a (.tup vs) from I.hok a _ ha)
    exact byObj a _ ho hc
  | obj c ds =>
    rw [Rep] at rd
    obtain ⟨a, dx, C', ns, vs, rfl, hT, ha, _⟩ := rd
    have e : t = .ref C' := by
      have h2 : (T c).map (fun q => Value.ref q.1) = some t := ht
      rw [hT] at h2
      exact (Option.some.inj h2).symm
    subst e
    cases r
    obtain ⟨mA, O, _⟩ := ins_get I.hok ha
    obtain ⟨od, J, _⟩ := O.look
    exact J.type
  | cls c => cases ht
  | scr c => cases ht
def rOwnE (K : PySem.W.Frag) (T : CT) (C : Addr) (sp : Sp) (E : XK) : R2 := fun x y H Q => ∃ a dx fs t, x = .ref a ∧ H a = some (.ins C dx fs) ∧ Kd T H y t ∧ PySem.W.notFirst K C t = true ∧ sp [x, y] H Q E
theorem op_ownE (hs : PySem.W.findIn X.K (.ref C) "__eq__" = some (some (.ref f))) (hf : PySem.W.isFn X.K (.ref f) = true) (F : FnG X.prog X.w X.K X.mg X.base k f fd ps sp) (hqt : Quiet X.A) (hr : Room k X.A) (hb : Binds X.K fd ps []) (hps : ps.length = 2) : OpR X (compareOp .Eq) (rOwnE X.K T C sp E) := by
  intro pins s σ H x y v u Q I rx ry h
  obtain ⟨a, dx, fs, t, rfl, ha, hy, hn, q⟩ := h
  cases (show v = Value.ref a from rx)
  obtain ⟨mA, O, _⟩ := ins_get I.hok ha
  obtain ⟨od, J, _⟩ := O.look
  obtain ⟨m, hF⟩ := I.fr
  show wpAny (model X.prog X.w) X.A (richCompare .Eq (.ref a) u) (EP X pins σ Q) X.xe s
  refine PySem.W.cmp_K (op := .Eq) (tb := t) hr.units0 hF I.ok.mod.kin J (looks_kind I ry hy) hn hs hf ?_
  refine wpAny_mono (run_lowG (us := [.ref a, u]) (vs := [.ref a, y]) F hqt hr I.env0 hb hps I (.cons rfl (.cons ry .nil)) q) (fun z s' hz => ?_) fun _ _ x => x
  obtain ⟨z', H', I', rz, qz⟩ := hz
  exact SlX.cmpback rz ⟨z', H', I', rz, qz⟩
def rOwnNe (K : PySem.W.Frag) (T : CT) (C : Addr) (sp : Sp) (E : XK) : R2 := fun x y H Q => ∃ a dx fs t, x = .ref a ∧ H a = some (.ins C dx fs) ∧ Kd T H y t ∧ PySem.W.notFirst K C t = true ∧ sp [x, y] H (fun v H' => ∃ b, v = .bl b ∧ Q (.bl (!b)) H') E
theorem op_ownNe (hs : PySem.W.findIn X.K (.ref C) "__eq__" = some (some (.ref f))) (hf : PySem.W.isFn X.K (.ref f) = true) (hne : PySem.W.findIn X.K (.ref C) "__ne__" = some (some (.builtin "object.__ne__"))) (hob : PySem.W.subIn X.K (.ref C) (.type "object") = some true)
    (F : FnG X.prog X.w X.K X.mg X.base k f fd ps sp) (hqt : Quiet X.A) (hr : Room (k + 1) X.A) (hb : Binds X.K fd ps []) (hps : ps.length = 2) : OpR X (compareOp .NotEq) (rOwnNe X.K T C sp E) := by
  intro pins s σ H x y v u Q I rx ry h
  obtain ⟨a, dx, fs, t, rfl, ha, hy, hn, q⟩ := h
  cases (show v = Value.ref a from rx)
  obtain ⟨mA, O, _⟩ := ins_get I.hok ha
  obtain ⟨od, J, _⟩ := O.look
  show wpAny (model X.prog X.w) X.A (richCompare .NotEq (.ref a) u) (EP X pins σ Q) X.xe s
  refine OwB.ne_own (by have := hr.units; omega) I.kIn J (looks_kind I ry hy) hn hne hob hs hf ?_
  refine wpAny_mono (run_lowG (A := X.A.in1) (us := [.ref a, u]) (vs := [.ref a, y]) F hqt hr.in1 I.env0.in1 hb hps I (.cons rfl (.cons ry .nil)) q) (fun z s' hz => ?_) fun _ _ x => x
  obtain ⟨z', H', I', rz, b, e, qz⟩ := hz
  subst e
  cases rz
  exact ⟨b, rfl, .bl (!b), H', I', rfl, qz⟩
/-- x == y, x an object of class c -/
def gOwnE (c : Nat) (F : List D → Option D) : D → D → Option D
  | .obj c' ds, y => if c' = c ∧ isC y = false then F [.obj c' ds, y] else none
  | _, _ => none
def gOwnNe (c : Nat) (F : List D → Option D) : D → D → Option D
  | .obj c' ds, y => if c' = c ∧ isC y = false then (match F [.obj c' ds, y] with
    | some (.bl b) => some (.bl (!b))
    | _ => none) else none
  | _, _ => none
/-- no kind is a class below C -/
def Top (K : PySem.W.Frag) (T : CT) (C : Addr) : Prop := ∀ d t, kindOf T d = some t → PySem.W.notFirst K C t = true
theorem kind_some {H : Hp} {S : Addr → Prop} {d : D} {v : V} (hd : isC d = false) (r : Rep T H S d v) : ∃ t, kindOf T d = some t := by
  cases d <;> first | exact ⟨_, rfl⟩ | cases hd | skip
  rw [Rep] at r
  obtain ⟨a, dx, C', ns, vs, rfl, hT, _⟩ := r
  exact ⟨.ref C', by show (T _).map _ = _; rw [hT]; rfl⟩
theorem opv_ownE {ns : List Str} {F : List D → Option D} (hT : T c = some (C, ns)) (hN : Top X.K T C) : OpV T (rOwnE X.K T C (sp0 T 2 F) E) (gOwnE c F) := by
  intro S x y vx vy H d Q tr rx ry e q
  unfold gOwnE at e
  split at e
  · rename_i c' ds
    by_cases hc : c' = c ∧ isC y = false
    · obtain ⟨rfl, hy⟩ := hc
      rw [if_pos ⟨rfl, hy⟩] at e
      have rx' := rx
      rw [Rep] at rx
      obtain ⟨a, dx, C', ns', vs, rfl, hT', ha, _⟩ := rx
      rw [hT] at hT'; cases hT'
      obtain ⟨t, ht⟩ := kind_some hy ry
      exact ⟨a, dx, _, t, rfl, ha, ⟨y, S, ry, ht⟩, hN y t ht, S, _, d, tr, rfl, Reps.cons rx' (Reps.cons ry Reps.nil), e, q⟩
    · rw [if_neg hc] at e; cases e
  · cases e
theorem opv_ownNe {ns : List Str} {F : List D → Option D} (hT : T c = some (C, ns)) (hN : Top X.K T C) : OpV T (rOwnNe X.K T C (sp0 T 2 F) E) (gOwnNe c F) := by
  intro S x y vx vy H d Q tr rx ry e q
  unfold gOwnNe at e
  split at e
  · rename_i c' ds
    by_cases hc : c' = c ∧ isC y = false
    · obtain ⟨rfl, hy⟩ := hc
      rw [if_pos ⟨rfl, hy⟩] at e
      have rx' := rx
      rw [Rep] at rx
      obtain ⟨a, dx, C', ns', vs, rfl, hT', ha, _⟩ := rx
      rw [hT] at hT'; cases hT'
      obtain ⟨t, ht⟩ := kind_some hy ry
      split at e
      · rename_i b hb
        cases e
        exact ⟨a, dx, _, t, rfl, ha, ⟨y, S, ry, ht⟩, hN y t ht, S, _, _, tr, rfl, Reps.cons rx' (Reps.cons ry Reps.nil), hb, fun v H' sm r => ⟨b, rep_bl r, q _ H' sm (rep_lit rfl)⟩⟩
      · cases e
    · rw [if_neg hc] at e; cases e
  · cases e
/-- is, is not of truths -/
def gIsB : D → D → Option D
  | .bl a, .bl b => some (.bl (decide (a = b)))
  | _, _ => none
def gIsNotB : D → D → Option D
  | .bl a, .bl b => some (.bl (!decide (a = b)))
  | _, _ => none
theorem opv_isB : OpV T (fun x y H Q => ∃ a b, x = .bl a ∧ y = .bl b ∧ Q (.bl (decide (a = b))) H) gIsB := by
  intro S x y vx vy H d Q tr rx ry e q
  unfold gIsB at e
  split at e <;> cases e
  exact ⟨_, _, rep_bl rx, rep_bl ry, q _ H (Same.refl _) (rep_lit rfl)⟩
theorem opv_isNotB : OpV T (fun x y H Q => ∃ a b, x = .bl a ∧ y = .bl b ∧ Q (.bl (!decide (a = b))) H) gIsNotB := by
  intro S x y vx vy H d Q tr rx ry e q
  unfold gIsNotB at e
  split at e <;> cases e
  exact ⟨_, _, rep_bl rx, rep_bl ry, q _ H (Same.refl _) (rep_lit rfl)⟩

/-! ### texts of objects and of data -/
def rTxt (C : Addr) (sp : Sp) (E : XK) : List V → Hp → VK → Prop := fun vs H Q => ∃ a dx fs, vs = [.ref a] ∧ H a = some (.ins C dx fs) ∧ sp [.ref a] H (fun v H' => ∃ y, v = .str y ∧ Q v H') E
theorem strback {P : Value → Shared → Prop} {y : Str} {v : Value} {s : Shared} (r : RelV (.str y) v) (h : P v s) : PySem.W.StrBack P v s := by
  obtain ⟨t, rfl⟩ := r
  exact h
theorem call_strOwn (hs : PySem.W.findIn X.K (.ref C) "__str__" = some (some (.ref f))) (hf : PySem.W.isFn X.K (.ref f) = true) (F : FnG X.prog X.w X.K X.mg X.base k f fd ps sp) (hqt : Quiet X.A) (hr : Room (k + 2) X.A) (hb : Binds X.K fd ps []) (hps : ps.length = 1) : CallR X (.type "str") (rTxt C sp E) := by
  intro pins s σ H xs us Q I r h
  obtain ⟨a, dx, fs, rfl, ha, q⟩ := h
  obtain ⟨u, rfl, ru⟩ := r.one
  cases (show u = Value.ref a from ru)
  obtain ⟨mA, O, _⟩ := ins_get I.hok ha
  obtain ⟨od, J, _⟩ := O.look
  have hr1 : Room (k + 1) X.A.in1 := hr.in1
  refine PySem.W.kso_call hr1.in1.units0 I.kIn J hs hf ?_
  refine wpAny_mono (run_lowG (A := X.A.in1.in1) (us := [.ref a]) (vs := [.ref a]) F hqt hr1.in1 I.env0.in1.in1 hb hps I (.cons rfl .nil) q) (fun z s' hz => ?_) fun _ _ x => x
  obtain ⟨z', H', I', rz, y, e, qz⟩ := hz
  subst e
  exact strback rz ⟨_, H', I', rz, qz⟩
theorem call_reprOwn (hs : PySem.W.findIn X.K (.ref C) "__repr__" = some (some (.ref f))) (hf : PySem.W.isFn X.K (.ref f) = true) (F : FnG X.prog X.w X.K X.mg X.base k f fd ps sp) (hqt : Quiet X.A) (hr : Room (k + 1) X.A) (hb : Binds X.K fd ps []) (hps : ps.length = 1) : CallR X (.builtin "repr") (rTxt C sp E) := by
  intro pins s σ H xs us Q I r h
  obtain ⟨a, dx, fs, rfl, ha, q⟩ := h
  obtain ⟨u, rfl, ru⟩ := r.one
  cases (show u = Value.ref a from ru)
  obtain ⟨mA, O, _⟩ := ins_get I.hok ha
  obtain ⟨od, J, _⟩ := O.look
  obtain ⟨m, hF⟩ := I.fr
  refine PySem.W.repr_K hr.in1.units0 hF I.ok.mod.kin J hs hf ?_
  refine wpAny_mono (run_lowG (A := X.A.in1) (us := [.ref a]) (vs := [.ref a]) F hqt hr.in1 I.env0.in1 hb hps I (.cons rfl .nil) q) (fun z s' hz => ?_) fun _ _ x => x
  obtain ⟨z', H', I', rz, y, e, qz⟩ := hz
  subst e
  exact strback rz ⟨_, H', I', rz, qz⟩
def funTxt (c : Nat) (F : List D → Option D) : List D → Option D
  | [.obj c' ds] => if c' = c then (match F [.obj c' ds] with
    | some (.str y) => some (.str y)
    | _ => none) else none
  | _ => none
theorem callv_txt {ns : List Str} {F : List D → Option D} (hT : T c = some (C, ns)) : CallV T (rTxt C (sp0 T 1 F) E) (funTxt c F) := by
  intro S ds vs H d Q tr r e q
  unfold funTxt at e
  split at e
  · rename_i c' es
    by_cases hc : c' = c
    · subst hc
      rw [if_pos rfl] at e
      have r' := r
      rw [Reps] at r
      obtain ⟨v, r2, rfl, h1, h2⟩ := r
      rw [Reps] at h2; subst h2
      rw [Rep] at h1
      obtain ⟨a, dx, C', ns', ws, rfl, hT', ha, _⟩ := h1
      rw [hT] at hT'; cases hT'
      split at e
      · rename_i y hy
        cases e
        exact ⟨a, dx, _, rfl, ha, S, _, _, tr, rfl, r', hy, fun v H' sm rr => ⟨y, rep_str rr, q v H' sm rr⟩⟩
      · cases e
    · rw [if_neg hc] at e; cases e
  · cases e
/-! data without objects -/
mutual
def toPy : D → Option PyData
  | .non => some .none
  | .bl b => some (.bool b)
  | .int i => some (.int i)
  | .str s => some (.str s)
  | .lst ds => (toPys ds).map .list
  | .tup ds => (toPys ds).map .tuple
  | .obj _ _ => none
  | .cls _ => none
  | .scr _ => none
def toPys : List D → Option (List PyData)
  | [] => some []
  | d :: ds => (toPy d).bind fun x => (toPys ds).map fun xs => x :: xs
end
mutual
theorem dp_of {K : PySem.W.Frag} {H : Hp} {S : Addr → Prop} : ∀ {d : D} {v : V} {y : PyData}, Rep T H S d v → toPy d = some y → Dp K H v y
  | .non, v, y, r, e => by rw [rep_non r]; cases e; exact .non
  | .bl b, v, y, r, e => by rw [rep_bl r]; cases e; exact .bl b
  | .int i, v, y, r, e => by rw [rep_int r]; cases e; exact .int i
  | .str s, v, y, r, e => by rw [rep_str r]; cases e; exact .str s
  | .lst ds, v, y, r, e => by
    rw [toPy] at e
    obtain ⟨xs, e1, e2⟩ := map_some1 e
    subst e2
    rw [Rep] at r
    obtain ⟨a, vs, rfl, ha, _, rs⟩ := r
    exact .lst (SqL.of ha) (dps_of rs e1)
  | .tup ds, v, y, r, e => by
    rw [toPy] at e
    obtain ⟨xs, e1, e2⟩ := map_some1 e
    subst e2
    rw [Rep] at r
    obtain ⟨a, vs, rfl, ha, _, rs⟩ := r
    exact .tup (SqT.of ha) (dps_of rs e1)
  | .obj _ _, _, _, _, e => by rw [toPy] at e; cases e
  | .cls _, _, _, _, e => by rw [toPy] at e; cases e
  | .scr _, _, _, _, e => by rw [toPy] at e; cases e
theorem dps_of {K : PySem.W.Frag} {H : Hp} {S : Addr → Prop} : ∀ {ds : List D} {vs : List V} {ys : List PyData}, Reps T H S ds vs → toPys ds = some ys → DpAll K H vs ys
  | [], vs, ys, r, e => by rw [Reps] at r; subst r; rw [toPys] at e; cases e; exact .nil
  | d :: ds, vs, ys, r, e => by
    rw [toPys] at e
    cases h1 : toPy d with
    | none => rw [h1] at e; cases e
    | some x =>
      rw [h1] at e
      obtain ⟨xs, h2, e2⟩ := map_some1 e
      subst e2
      rw [Reps] at r
      obtain ⟨v, w, rfl, r1, r2⟩ := r
      exact .cons (dp_of r1 h1) (dps_of r2 h2)
end
/-- repr of a list or tuple of plain data -/
def okRepr (y : PyData) : Bool := y.showable && decide (y.shown.length ≤ big) && !y.hasDict && decide (y.depth ≤ 40)
def funReprD : List D → Option D
  | [.lst ds] => (toPy (.lst ds)).bind fun y => if okRepr y = true then some (.str y.shown) else none
  | [.tup ds] => (toPy (.tup ds)).bind fun y => if okRepr y = true then some (.str y.shown) else none
  | _ => none
def rReprD (K : PySem.W.Frag) : List V → Hp → VK → Prop := fun vs H Q => ∃ a y, vs = [.ref a] ∧ Dp K H (.ref a) y ∧ okRepr y = true ∧ Q (.str y.shown) H
theorem call_reprD (hq : Quiet X.A) (hr : Room 1 X.A) : CallR X (.builtin "repr") (rReprD X.K) := by
  intro pins s σ H xs us Q I r h
  obtain ⟨a, y, rfl, hd, hok, q⟩ := h
  obtain ⟨u, rfl, ru⟩ := r.one
  cases (show u = Value.ref a from ru)
  obtain ⟨as, rd⟩ := Dp.reads I y (.ref a) (.ref a) hd rfl
  unfold okRepr at hok
  simp only [Bool.and_eq_true, Bool.not_eq_true', decide_eq_true_eq] at hok
  obtain ⟨⟨⟨h1, h2⟩, h3⟩, h4⟩ := hok
  have hu := hr.un
  refine repr_of_reads' rd h1 (fun z => by rw [h3] at z; cases z) hq (by omega) (fun _ _ e => e) (fun h' w tk kk => ⟨.str y.shown, H, I.kept (t' := tk) kk, ⟨w, rfl⟩, q⟩) (big_line h2)
theorem callv_reprD {K : PySem.W.Frag} : CallV T (rReprD K) funReprD := by
  intro S ds vs H d Q tr r e q
  have go : ∀ (x : D) (v : V), (∃ a, v = V.ref a) → Rep T H S x v → ((toPy x).bind fun y => if okRepr y = true then some (D.str y.shown) else none) = some d → rReprD K [v] H Q := fun x v ⟨a, ea⟩ rx e => by
    subst ea
    cases h1 : toPy x with
    | none => rw [h1] at e; cases e
    | some y =>
      rw [h1] at e
      obtain ⟨hok, e⟩ := ite_some e
      subst e
      exact ⟨a, y, rfl, dp_of rx h1, hok, q _ H (Same.refl _) (rep_lit rfl)⟩
  unfold funReprD at e
  split at e
  · rename_i es
    rw [Reps] at r
    obtain ⟨v, r2, rfl, h1, h2⟩ := r
    rw [Reps] at h2; subst h2
    exact go _ v (by rw [Rep] at h1; obtain ⟨a, _, rfl, _⟩ := h1; exact ⟨a, rfl⟩) h1 e
  · rename_i es
    rw [Reps] at r
    obtain ⟨v, r2, rfl, h1, h2⟩ := r
    rw [Reps] at h2; subst h2
    exact go _ v (by rw [Rep] at h1; obtain ⟨a, _, rfl, _⟩ := h1; exact ⟨a, rfl⟩) h1 e
  · cases e
/-- either of two rules for a call -/
def funOr (F G : List D → Option D) : List D → Option D := fun ds => match F ds with
  | some d => some d
  | none => G ds
theorem CallV.or {r r' : List V → Hp → VK → Prop} {F G : List D → Option D} (h : CallV T r F) (h' : CallV T r' G) : CallV T (fun xs H Q => r xs H Q ∨ r' xs H Q) (funOr F G) := by
  intro S ds vs H d Q tr rr e q
  unfold funOr at e
  cases z : F ds with
  | some d' => rw [z] at e; cases e; exact .inl (h S ds vs H d Q tr rr z q)
  | none => rw [z] at e; exact .inr (h' S ds vs H d Q tr rr e q)
/-! f-strings of texts and ints -/
def fFmt (fe : FE) : FE := fun δ => (fe δ).bind fun (d, δ1) => match d with
  | .str y => if y.length ≤ big then some (.str y, δ1) else none
  | .int i => if okNum i = true then some (.str (toString i), δ1) else none
  | _ => none
theorem pd_fmt {e : Expr} {fe : FE} {pos : Pos} (he : PE X e (tD T fe)) : PE X (.FormattedValue e (-1) none pos) (tD T (fFmt fe)) := PE.imp (pe_fmt he) fun σ H Q ⟨S0, δ, d, δ', ok, e, q⟩ => by
  obtain ⟨d1, δ1, e1, e2⟩ := bind_some2 e
  refine ⟨S0, δ, d1, δ1, ok, e1, fun v H1 ok1 s1 r => ?_⟩
  cases d1 <;> first | cases e2 | skip
  · rename_i i
    dsimp only at e2
    obtain ⟨h, e2⟩ := ite_some e2
    cases e2
    exact .inr ⟨i, rep_int r, of_decide_eq_true h, q _ H1 ok1 s1 (rep_lit rfl)⟩
  · rename_i y
    dsimp only at e2
    obtain ⟨h, e2⟩ := ite_some e2
    cases e2
    exact .inl ⟨y, rep_str r, big_line h, q _ H1 ok1 s1 (rep_lit rfl)⟩
def fJoin : List FE → Str → FE
  | [], acc => fun δ => some (.str acc, δ)
  | f :: fs, acc => fun δ => (f δ).bind fun (d, δ1) => match d with
    | .str y => if (acc ++ y).length ≤ big then fJoin fs (acc ++ y) δ1 else none
    | _ => none
inductive JD (X : Cx) (T : CT) : List Expr → List FE → Prop where
  | nil : JD X T [] []
  | cons {e : Expr} {f : FE} {es : List Expr} {fs : List FE} (h : PE X e (tD T f)) (r : JD X T es fs) : JD X T (e :: es) (f :: fs)
theorem JD.pj {es : List Expr} {fs : List FE} (h : JD X T es fs) : PJ X es (fs.map (tD T)) := by
  induction h with
  | nil => exact .nil
  | cons h _ ih => exact .cons h ih
theorem join_imp : ∀ (fs : List FE) (acc : Str) {σ : L2.St} {H : Hp} {Q : VK}, tD T (fJoin fs acc) σ H Q → tJs (fs.map (tD T)) acc σ H fun out H1 => Q (.str out) H1
  | [], acc, σ, H, Q, ⟨S0, δ, d, δ', ok, e, q⟩ => by
    cases e
    exact q _ H ok Step.refl (rep_lit rfl)
  | f :: fs, acc, σ, H, Q, ⟨S0, δ, d, δ', ok, e, q⟩ => by
    obtain ⟨d1, δ1, e1, e2⟩ := bind_some2 e
    refine ⟨S0, δ, d1, δ1, ok, e1, fun v H1 ok1 s1 r => ?_⟩
    cases d1 <;> first | cases e2 | skip
    rename_i y
    dsimp only at e2
    by_cases hz : (acc ++ y).length ≤ big
    · rw [if_pos hz] at e2
      exact ⟨y, rep_str r, big_line hz, join_imp fs (acc ++ y) ⟨S0, δ1, d, δ', ok1, e2, fun v H' ok' s' r' => q v H' ok' (s1.trans s') r'⟩⟩
    · rw [if_neg hz] at e2; cases e2
theorem pd_joined {v1 v2 : Expr} {rest : List Expr} {fs : List FE} {pos : Pos} (h : JD X T (v1 :: v2 :: rest) fs) : PE X (.JoinedStr (v1 :: v2 :: rest) pos) (tD T (fJoin fs Str.empty)) := PE.imp (pe_joined h.pj) fun _ _ _ z => join_imp fs Str.empty z
/-- text + text -/
def gCatS : D → D → Option D
  | .str a, .str b => if a.length + b.length ≤ big then some (.str (a ++ b)) else none
  | _, _ => none
theorem opv_catS : OpV T (fun x y H Q => ∃ i j, x = .str i ∧ y = .str j ∧ i.length + j.length ≤ sizeLine ∧ Q (.str (i ++ j)) H) gCatS := by
  intro S x y vx vy H d Q tr rx ry e q
  unfold gCatS at e
  split at e
  · obtain ⟨h, e⟩ := ite_some e
    subst e
    exact ⟨_, _, rep_str rx, rep_str ry, big_line h, q _ H (Same.refl _) (rep_lit rfl)⟩
  · cases e
end
end Dl
namespace Dl
open PySem PySem.Spec PyProof.Rows L2
section
variable {X : Cx} {T : CT} {k n c : Nat} {x m : Str} {p pos apos : Pos} {e o : Expr} {es : List Expr} {fa : FA} {fo fe fb : FE}

/-! ### items, slices, lengths -/
def gIx : D → D → Option D
  | .lst ds, .int i => atI ds i
  | .tup ds, .int i => atI ds i
  | _, _ => none
theorem atI_reps {H : Hp} {S : Addr → Prop} {ds : List D} {vs : List V} {i : Int} {d : D} (r : Reps T H S ds vs) (h : atI ds i = some d) : ∃ v, atI vs i = some v ∧ Rep T H S d v := by
  unfold atI at h ⊢
  rw [r.length]
  cases q : ixN ds.length i with
  | none => rw [q] at h; cases h
  | some j =>
    rw [q] at h
    exact r.get h
def rIx2 (K : PySem.W.Frag) : R2 := fun x y H Q => rIxL K x y H Q ∨ rIxT K x y H Q
theorem ix_two : IxR X (rIx2 X.K) := ix_list.or ix_tup
theorem opv_ix {K : PySem.W.Frag} : OpV T (rIx2 K) gIx := by
  intro S x y vx vy H d Q tr rx ry e q
  unfold gIx at e
  split at e
  · rw [Rep] at rx
    obtain ⟨a, vs, rfl, ha, _, rs⟩ := rx
    obtain ⟨v, hv, rv⟩ := atI_reps rs e
    exact .inl ⟨a, vs, _, v, rfl, rep_int ry, SqL.of ha, hv, q v H (Same.refl _) rv⟩
  · rw [Rep] at rx
    obtain ⟨a, vs, rfl, ha, _, rs⟩ := rx
    obtain ⟨v, hv, rv⟩ := atI_reps rs e
    exact .inr ⟨a, vs, _, v, rfl, rep_int ry, SqT.of ha, hv, q v H (Same.refl _) rv⟩
  · cases e
theorem pd_ix {a b : Expr} (ha : PE X a (tD T fo)) (hb : PE X b (tD T fb)) (hs : PlainIx b := by exact fun _ _ => rfl) : PE X (.Subscript a b pos) (tD T (fBin gIx fo fb)) := PE.imp (pe_ix ix_two ha hb hs) fun _ _ _ h => bin_imp opv_ix h
/-- an item of a name's own list -/
def fIxO (i : Nat) (fb : FE) : FE := fun δ => if isOwn δ[i]? = true then (fb δ).bind fun (y, δ1) => match δ1[i]?, y with
    | some (.own w xs), .int j => if isL w = true then (atI xs j).map fun d => (d, δ1) else none
    | _, _ => none
  else none
theorem own_of {s : Option Sl} (h : isOwn s = true) : ∃ w xs, s = some (.own w xs) := by
  cases s with
  | none => cases h
  | some sl =>
    cases sl with
    | un => cases h
    | val _ => cases h
    | own p xs => exact ⟨p, xs, rfl⟩
theorem pd_ixO {i : Nat} {b : Expr} {y : Str} {py : Pos} (hb : PE X b (tD T fb)) (hs : PlainIx b := by exact fun _ _ => rfl) (hN : X.N[i]? = some y := by rfl) (hv : Vis X.env.scope y := by first | exact Or.inl rfl | exact Or.inr (Or.inl rfl) | exact Or.inr (Or.inr rfl))
    (hdy : (y == ("__debug__" : Str)) = false := by decide) (hcd : (y == ("__classdict__" : Str)) = false := by decide) : PE X (.Subscript (.Name y py) b pos) (tD T (fIxO i fb)) := PE.imp (pe_ix ix_list (pe_var hN hv hdy hcd) hb hs) fun σ H Q ⟨S0, δ, d, δ', ok, e, q⟩ => by
  unfold fIxO at e
  by_cases h0 : isOwn δ[i]? = true
  case neg => rw [if_neg h0] at e; cases e
  rw [if_pos h0] at e
  obtain ⟨yd, δ1, e1, e2⟩ := bind_some2 e
  obtain ⟨w0, xs0, e0⟩ := own_of h0
  obtain ⟨a, us, ea, _⟩ := ok.ow i w0 xs0 e0
  refine ⟨_, ea, S0, δ, yd, δ1, ok, e1, fun vy H1 ok1 s1 r1 => ?_⟩
  dsimp only at e2
  split at e2
  · rename_i w xs j hw
    by_cases hp : isL w = true
    case neg => rw [if_neg hp] at e2; cases e2
    rw [if_pos hp] at e2
    obtain ⟨d1, e4, e5⟩ := map_some1 e2
    cases e5
    obtain ⟨b, vs, q1, q2, q3, _⟩ := ok1.ow i w xs hw
    rw [ea] at q1; cases q1
    rw [isL_ho hp] at q2
    obtain ⟨v, hv, rv⟩ := atI_reps q3 e4
    exact ⟨a, vs, j, v, rfl, rep_int r1, SqL.of q2, hv, q v H1 ok1 s1 rv⟩
  · cases e2
/-- len -/
def funLen : List D → Option D
  | [.lst ds] => some (.int ds.length)
  | [.tup ds] => some (.int ds.length)
  | _ => none
theorem callv_len {K : PySem.W.Frag} : CallV T (fun xs H Q => ∃ p ys, xs = [.ref p] ∧ (SqL K H p ys ∨ SqT K H p ys) ∧ Q (.int ys.length) H) funLen := by
  intro S ds vs H d Q tr r e q
  unfold funLen at e
  split at e
  · cases e
    rw [Reps] at r
    obtain ⟨v, r2, rfl, h1, h2⟩ := r
    rw [Reps] at h2; subst h2
    rw [Rep] at h1
    obtain ⟨a, ws, rfl, ha, _, rs⟩ := h1
    exact ⟨a, ws, rfl, .inl (SqL.of ha), by rw [rs.length]; exact q _ H (Same.refl _) (rep_lit rfl)⟩
  · cases e
    rw [Reps] at r
    obtain ⟨v, r2, rfl, h1, h2⟩ := r
    rw [Reps] at h2; subst h2
    rw [Rep] at h1
    obtain ⟨a, ws, rfl, ha, _, rs⟩ := h1
    exact ⟨a, ws, rfl, .inr (SqT.of ha), by rw [rs.length]; exact q _ H (Same.refl _) (rep_lit rfl)⟩
  · cases e
/-- len of a name's own list -/
def fLenO (i : Nat) : FE := fun δ => match δ[i]? with
  | some (.own w xs) => if isL w = true then some (.int xs.length, δ) else none
  | _ => none
theorem pd_lenO {i : Nat} {y : Str} {py : Pos} (hm : X.mg "len" = none) (hN : X.N[i]? = some y := by rfl) (hv : Vis X.env.scope y := by first | exact Or.inl rfl | exact Or.inr (Or.inl rfl) | exact Or.inr (Or.inr rfl)) (hdy : (y == ("__debug__" : Str)) = false := by decide) (hcd : (y == ("__classdict__" : Str)) = false := by decide) (hg : Gl X "len" := by rfl)
    (he : starEach [.Name y py] X.env = (false, eval (.Name y py) X.env) :: starEach [] X.env := by rfl) (hpl : (backTo pos (starEach [] X.env)).any (·.1) = false := by rfl) : PE X (.Call (.Name "len" p) [.Name y py] [] pos) (tD T (fLenO i)) :=
  PE.imp (pe_callB call_len_seq hg hm PySem.boot_len (pa_cons (pe_var hN hv hdy hcd) pa_nil he) (by decide) (by decide) he hpl) fun σ H Q ⟨S0, δ, d, δ', ok, e, q⟩ => by
    unfold fLenO at e
    split at e
    · rename_i w xs hw
      obtain ⟨hp, e⟩ := ite_some e
      cases e
      obtain ⟨a, vs, q1, q2, q3, _⟩ := ok.ow i w xs hw
      rw [isL_ho hp] at q2
      exact ⟨_, q1, a, vs, rfl, .inl (SqL.of q2), by rw [q3.length]; exact q _ H ok Step.refl (rep_lit rfl)⟩
    · cases e
/-- slices of a list: a new one -/
def fPart (f : FE) : Es → Option (Option Int × Es) := fun δ => (f δ).bind fun (d, δ1) => match d with
  | .int i => some (some i, δ1)
  | _ => none
def fNoPart : Es → Option (Option Int × Es) := fun δ => some (none, δ)
def tDo (T : CT) (f : Es → Option (Option Int × Es)) : TO := fun σ H Q => ∃ S0 δ d δ', Ok T S0 σ δ H ∧ f δ = some (d, δ') ∧ ∀ H', Ok T S0 σ δ' H' → Step σ δ H σ δ' H' → Q d H'
theorem PO.imp {e : Option Expr} {t u : TO} (h : PO X e t) (i : ∀ σ H Q, u σ H Q → t σ H Q) : PO X e u := ⟨fun pins s σ H Q I q => h.run pins s σ H Q I (i σ H Q q)⟩
theorem pdo_none : PO X none (tDo T fNoPart) := PO.imp po_none fun σ H Q ⟨S0, δ, d, δ', ok, e, q⟩ => by
  cases e
  exact q H ok Step.refl
theorem pdo_some {e : Expr} {f : FE} (h : PE X e (tD T f)) : PO X (some e) (tDo T (fPart f)) := PO.imp (po_some h) fun σ H Q ⟨S0, δ, d, δ', ok, e, q⟩ => by
  obtain ⟨d1, δ1, e1, e2⟩ := bind_some2 e
  refine ⟨S0, δ, d1, δ1, ok, e1, fun v H1 ok1 s1 r => ?_⟩
  cases d1 <;> cases e2
  exact ⟨_, rep_int r, q H1 ok1 s1⟩
def cutD (xs : List D) (lo hi : Option Int) : List D := (xs.drop (HT.sIx xs.length 0 lo)).take (HT.sIx xs.length xs.length hi - HT.sIx xs.length 0 lo)
def fSlice (f : FE) (fl fh : Es → Option (Option Int × Es)) : FA := fun δ => (f δ).bind fun (d, δ1) => (fl δ1).bind fun (l, δ2) => (fh δ2).bind fun (h, δ3) => match d with
  | .lst ds => some (cutD ds l h, δ3)
  | _ => none
theorem pf_slice {lo hi : Option Expr} {fl fh : Es → Option (Option Int × Es)} {p2 : Pos} (he : PE X e (tD T fe)) (hl : PO X lo (tDo T fl)) (hh : PO X hi (tDo T fh)) : PE X (.Subscript e (.Slice lo hi none p2) pos) (tF T (fSlice fe fl fh)) := PE.imp (pe_slice sl_list he hl hh) fun σ H Q ⟨S0, δ, ds, δ', ok, e, q⟩ => by
  obtain ⟨d1, δ1, e1, e2⟩ := bind_some2 e
  obtain ⟨l, δ2, e3, e4⟩ := bind_some2 e2
  obtain ⟨h, δ3, e5, e6⟩ := bind_some2 e4
  refine ⟨S0, δ, d1, δ1, ok, e1, fun v H1 ok1 s1 r => ⟨S0, δ1, l, δ2, ok1, e3, fun H2 ok2 s2 => ⟨S0, δ2, h, δ3, ok2, e5, fun H3 ok3 s3 => ?_⟩⟩⟩
  have r3 := (s2.trans s3).rep r
  dsimp only at e6
  cases d1 <;> cases e6
  rw [Rep] at r3
  obtain ⟨a, vs, rfl, ha, _, rs⟩ := r3
  refine ⟨a, vs, rfl, SqL.of ha, fun p hp => q p _ H3 ok3 ((s1.trans s2).trans s3) hp ?_⟩
  unfold cutV cutD
  rw [rs.length]
  exact (rs.drop _).take _
/-- list + list -/
def gCatL : D → D → Option D
  | .lst a, .lst b => if a.length + b.length ≤ big then some (.lst (a ++ b)) else none
  | _, _ => none
theorem fresh_rep {H : Hp} {S : Addr → Prop} {ds : List D} {vs : List V} {p : Addr} (tr : ∀ b, S b → ∃ o, H b = some o) (hp : H p = none) (r : Reps T H S ds vs) : Same H (upd H p (.lst vs)) ∧ Rep T (upd H p (.lst vs)) S (.lst ds) (.ref p) := by
  have sm : Same H (upd H p (.lst vs)) := fun b o e => by rw [upd_ne (ne_of_none e hp)]; exact e
  refine ⟨sm, ?_⟩
  rw [Rep]
  exact ⟨p, vs, rfl, upd_same, (fun z => by obtain ⟨o, e⟩ := tr p z; rw [hp] at e; cases e), r.same sm⟩
theorem opv_catL : OpV T rCat gCatL := by
  intro S x y vx vy H d Q tr rx ry e q
  unfold gCatL at e
  split at e
  · obtain ⟨h, e⟩ := ite_some e
    subst e
    rw [Rep] at rx ry
    obtain ⟨a, vs, rfl, ha, _, rs⟩ := rx
    obtain ⟨b, ws, rfl, hb, _, rs'⟩ := ry
    refine ⟨a, b, vs, ws, rfl, rfl, ha, hb, by rw [rs.length, rs'.length]; exact big_line h, fun p hp => ?_⟩
    obtain ⟨sm, rr⟩ := fresh_rep tr hp (rs.append rs')
    exact q _ _ sm rr
  · cases e
/-- list(xs), tuple(xs) of a list -/
def funList : List D → Option D
  | [.lst ds] => some (.lst ds)
  | [.tup ds] => some (.lst ds)
  | _ => none
theorem callv_list {K : PySem.W.Frag} : CallV T (fun xs H Q => ∃ p ys, xs = [.ref p] ∧ (SqL K H p ys ∨ SqT K H p ys) ∧ ∀ l, H l = none → Q (.ref l) (upd H l (.lst ys))) funList := by
  intro S ds vs H d Q tr r e q
  unfold funList at e
  split at e
  · cases e
    rw [Reps] at r
    obtain ⟨v, r2, rfl, h1, h2⟩ := r
    rw [Reps] at h2; subst h2
    rw [Rep] at h1
    obtain ⟨a, ws, rfl, ha, _, rs⟩ := h1
    exact ⟨a, ws, rfl, .inl (SqL.of ha), fun l hl => let ⟨sm, rr⟩ := fresh_rep tr hl rs; q _ _ sm rr⟩
  · cases e
    rw [Reps] at r
    obtain ⟨v, r2, rfl, h1, h2⟩ := r
    rw [Reps] at h2; subst h2
    rw [Rep] at h1
    obtain ⟨a, ws, rfl, ha, _, rs⟩ := h1
    exact ⟨a, ws, rfl, .inr (SqT.of ha), fun l hl => let ⟨sm, rr⟩ := fresh_rep tr hl rs; q _ _ sm rr⟩
  · cases e
def funTup : List D → Option D
  | [.lst ds] => some (.tup ds)
  | [.tup ds] => some (.tup ds)
  | _ => none
theorem callv_tup {K : PySem.W.Frag} : CallV T (fun xs H Q => ∃ p ys, xs = [.ref p] ∧ ((SqL K H p ys ∧ ∀ l, H l = none → Q (.ref l) (upd H l (.tup ys))) ∨ (SqT K H p ys ∧ Q (.ref p) H))) funTup := by
  intro S ds vs H d Q tr r e q
  unfold funTup at e
  split at e
  · cases e
    rw [Reps] at r
    obtain ⟨v, r2, rfl, h1, h2⟩ := r
    rw [Reps] at h2; subst h2
    rw [Rep] at h1
    obtain ⟨a, ws, rfl, ha, _, rs⟩ := h1
    refine ⟨a, ws, rfl, .inl ⟨SqL.of ha, fun l hl => ?_⟩⟩
    have sm : Same H (upd H l (.tup ws)) := fun b o e => by rw [upd_ne (ne_of_none e hl)]; exact e
    refine q _ _ sm ?_
    rw [Rep]
    exact ⟨l, ws, rfl, upd_same, (fun z => by obtain ⟨o, e⟩ := tr l z; rw [hl] at e; cases e), rs.same sm⟩
  · cases e
    rw [Reps] at r
    obtain ⟨v, r2, rfl, h1, h2⟩ := r
    rw [Reps] at h2; subst h2
    have h1' := h1
    rw [Rep] at h1
    obtain ⟨a, ws, rfl, ha, _, rs⟩ := h1
    exact ⟨a, ws, rfl, .inr ⟨SqT.of ha, q _ H (Same.refl _) h1'⟩⟩
  · cases e
/-- all of a list of truths -/
def blsOf : List D → Option (List Bool)
  | [] => some []
  | .bl b :: r => (blsOf r).map fun bs => b :: bs
  | _ => none
theorem bls_reps {H : Hp} {S : Addr → Prop} : ∀ {ds : List D} {vs : List V} {bs : List Bool}, Reps T H S ds vs → blsOf ds = some bs → vs = bs.map V.bl
  | [], vs, bs, r, e => by rw [Reps] at r; cases e; exact r
  | d :: ds, vs, bs, r, e => by
    unfold blsOf at e
    cases d <;> first | cases e | skip
    dsimp only at e
    obtain ⟨b2, e1, e2⟩ := map_some1 e
    subst e2
    rw [Reps] at r
    obtain ⟨v, w, rfl, r1, r2⟩ := r
    rw [rep_bl r1, bls_reps r2 e1]
    rfl
def funAll : List D → Option D
  | [.lst ds] => (blsOf ds).map fun bs => .bl (bs.all id)
  | _ => none
theorem callv_all {K : PySem.W.Frag} : CallV T (rAll K) funAll := by
  intro S ds vs H d Q tr r e q
  unfold funAll at e
  split at e
  · obtain ⟨bs, e1, e2⟩ := map_some1 e
    subst e2
    rw [Reps] at r
    obtain ⟨v, r2, rfl, h1, h2⟩ := r
    rw [Reps] at h2; subst h2
    rw [Rep] at h1
    obtain ⟨a, ws, rfl, ha, _, rs⟩ := h1
    have e3 := bls_reps rs e1
    subst e3
    exact ⟨a, bs, rfl, SqL.of ha, q _ H (Same.refl _) (rep_lit rfl)⟩
  · cases e

/-! ### a name's own list changed -/
def isOwnL : Option Sl → Bool
  | some (.own w _) => isL w
  | _ => false
theorem ownL_of {s : Option Sl} (h : isOwnL s = true) : ∃ w xs, s = some (.own w xs) ∧ isL w = true := by
  cases s with
  | none => cases h
  | some sl =>
    cases sl with
    | un => cases h
    | val _ => cases h
    | own p xs => exact ⟨p, xs, rfl, h⟩
def sApp (i : Nat) (fe : FE) : FS := fun δ => if isOwnL δ[i]? = true then (fe δ).bind fun (d, δ1) => match δ1[i]? with
    | some (.own w xs) => if isL w = true ∧ xs.length ≤ big then some (.nx (δ1.set i (.own w (xs ++ [d])))) else none
    | _ => none
  else none
theorem st_app {i : Nat} {y : Str} {py pa pe : Pos} (he : PE X e (tD T fe)) (hN : X.N[i]? = some y := by rfl) (hv : Vis X.env.scope y := by first | exact Or.inl rfl | exact Or.inr (Or.inl rfl) | exact Or.inr (Or.inr rfl)) (hdy : (y == ("__debug__" : Str)) = false := by decide) (hcd : (y == ("__classdict__" : Str)) = false := by decide)
    (h : ∀ {ty : TE}, PE X (.Name y py) ty → PE X (.Call (.Attribute (.Name y py) "append" pa) [e] [] pe) (tBM X.K "list" rAppend ty (tCons (tD T fe) tNil))) (hs : swapsWith (.Call (.Attribute (.Name y py) "append" pa) [e] [] pe) none pos.line X.env = pure false := by rfl) :
    PS X (.Expr (.Call (.Attribute (.Name y py) "append" pa) [e] [] pe) pos) (tSt T (sApp i fe)) := PS.imp (ps_expr (h (pe_var hN hv hdy hcd)) hs) fun E σ H ⟨S0, δ, r, ok, e, q⟩ => by
  unfold sApp at e
  by_cases h0 : isOwnL δ[i]? = true
  case neg => rw [if_neg h0] at e; cases e
  rw [if_pos h0] at e
  obtain ⟨d, δ1, e1, e2⟩ := bind_some2 e
  obtain ⟨w0, xs0, e0, w0L⟩ := ownL_of h0
  obtain ⟨a, us, ea, ha0, _⟩ := ok.ow i w0 xs0 e0
  dsimp only at e2
  split at e2
  case h_2 => cases e2
  rename_i w xs hw
  obtain ⟨⟨hp, hlen⟩, e2⟩ := ite_some e2
  subst e2
  rw [isL_ho w0L] at ha0
  refine ⟨_, ea, .inl ⟨rfl, _, SqL.of ha0⟩, S0, δ, d, δ1, ok, e1, fun v H1 ok1 s1 r1 => ?_⟩
  obtain ⟨b, vs, q1, q2, q3, _⟩ := ok1.ow i w xs hw
  rw [ea] at q1; cases q1
  rw [isL_ho hp] at q2
  refine ⟨a, vs, v, rfl, rfl, q2, by rw [q3.length]; exact big_line' hlen, ?_⟩
  have na : Av S0 σ δ1 a := .inr ⟨i, w, xs, hw, ea⟩
  have hk : ∀ b o, H1 b = some o → b ≠ a → upd H1 a (.lst (vs ++ [v])) b = some o := fun b o e ne => by rw [upd_ne ne]; exact e
  obtain ⟨ok2, s2⟩ := ok1.change (H' := upd H1 a (.lst (vs ++ [v]))) (us := vs ++ [v]) hw ea hk (by rw [isL_ho hp]; exact upd_same) ((q3.append (Reps.cons r1 Reps.nil)).move (fun b o e n => hk b o e fun z => n (by rw [z]; exact na)) fun b z => .inl z)
  exact q _ _ ok2 (s1.trans s2)
end
end Dl
namespace Dl
open PySem PySem.Spec PyProof.Rows L2
section
variable {T : CT} {S0 S1 : Addr → Prop} {σ σ1 σ2 : L2.St} {δ δ1 δ2 : Es} {H H1 H2 : Hp}
/-- slots of which nothing is known may hold anything -/
theorem Ok.agree (k : Ok T S0 σ δ H) (hl : σ1.length = σ.length) (ha : ∀ (i : Nat) s, δ[i]? = some s → s ≠ .un → σ1[i]? = σ[i]?) : Ok T S0 σ1 δ H ∧ Step σ δ H σ1 δ H := by
  have own' : ∀ b, ownAt σ1 δ b → ownAt σ δ b := fun b ⟨i, p, ds, h1, h2⟩ => ⟨i, p, ds, h1, by rw [← ha i _ h1 (by intro z; cases z)]; exact h2⟩
  have sub : ∀ b, Av S0 σ1 δ b → Av S0 σ δ b := fun b z => z.elim .inl fun z => .inr (own' b z)
  refine ⟨⟨by rw [hl]; exact k.len, k.tr, fun i d h => ?_, fun i p ds h => ?_, fun i j p q ds es a h1 h2 h3 h4 => ?_⟩, ⟨fun _ _ z _ => z, fun b z => .inl (own' b z), fun _ o z => ⟨o, z⟩, fun i p ds _ h => ⟨⟨ds, h⟩, ha i _ h (by intro z; cases z)⟩⟩⟩
  · obtain ⟨v, q1, q2⟩ := k.sl i d h
    exact ⟨v, by rw [ha i _ h (by intro z; cases z)]; exact q1, q2.sub sub⟩
  · obtain ⟨a, vs, q1, q2, q3, q4⟩ := k.ow i p ds h
    exact ⟨a, vs, by rw [ha i _ h (by intro z; cases z)]; exact q1, q2, q3.sub sub, q4⟩
  · rw [ha i _ h1 (by intro z; cases z)] at h3
    rw [ha j _ h2 (by intro z; cases z)] at h4
    exact k.dj i j p q ds es a h1 h2 h3 h4
def wipeE (δ : Es) : List Nat → Es
  | [] => δ
  | v :: vs => (wipeE δ vs).set v .un
theorem Ok.wipe (k : Ok T S0 σ δ H) : ∀ vs : List Nat, Ok T S0 (L2.wipe σ vs) (wipeE δ vs) H ∧ Step σ δ H (L2.wipe σ vs) (wipeE δ vs) H
  | [] => ⟨k, Step.refl⟩
  | v :: vs => by
    obtain ⟨k1, s1⟩ := k.wipe vs
    obtain ⟨k2, s2⟩ := k1.junk (i := v) (v := none)
    exact ⟨k2, s1.trans s2⟩
theorem wipeE_un : ∀ {vs : List Nat} {δ : Es} {i : Nat} {s : Sl}, i ∈ vs → (wipeE δ vs)[i]? = some s → s = .un
  | v :: vs, δ, i, s, hi, h => by
    unfold wipeE at h
    rcases get_set h with ⟨_, _, z⟩ | ⟨hj, h⟩
    · exact z
    · rcases List.mem_cons.mp hi with e | e
      · exact absurd e hj
      · exact wipeE_un e h
theorem wipe_get : ∀ (vs : List Nat) (σ : L2.St) (i : Nat), (L2.wipe σ vs)[i]? = if i ∈ vs ∧ i < σ.length then some none else σ[i]?
  | [], σ, i => by simp [L2.wipe]
  | v :: vs, σ, i => by
    show ((L2.wipe σ vs).set v none)[i]? = _
    by_cases e : i = v
    · subst e
      by_cases hl : i < σ.length
      · rw [List.getElem?_set_self (by rw [L2.wipe_length]; exact hl), if_pos ⟨List.mem_cons_self, hl⟩]
      · rw [List.set_eq_of_length_le (by rw [L2.wipe_length]; omega), wipe_get vs σ i, if_neg (fun z => hl z.2), if_neg (fun z => hl z.2)]
    · rw [List.getElem?_set_ne (Ne.symm e), wipe_get vs σ i]
      simp [e]
theorem wipe_eq {vs : List Nat} {σ σ1 : L2.St} (hl : σ1.length = σ.length) (ha : ∀ i, i ∉ vs → σ1[i]? = (L2.wipe σ vs)[i]?) : L2.wipe σ1 vs = L2.wipe σ vs := by
  apply List.ext_getElem?
  intro i
  rw [wipe_get vs σ1 i, wipe_get vs σ i, hl]
  by_cases h : i ∈ vs ∧ i < σ.length
  · rw [if_pos h, if_pos h]
  · rw [if_neg h, if_neg h]
    by_cases hi : i ∈ vs
    · have : ¬ i < σ.length := fun z => h ⟨hi, z⟩
      rw [List.getElem?_eq_none (by omega), List.getElem?_eq_none (by omega)]
    · rw [ha i hi, wipe_get, if_neg h]
/-- an address that no name holds and no datum has is written -/
theorem Ok.poke {D : Addr} {o : HO} (k : Ok T S0 σ δ H) (hD : S0 D) (hn : ¬ ownAt σ δ D) : Ok T S0 σ δ (upd H D o) := by
  have mv : ∀ b u, H b = some u → ¬ Av S0 σ δ b → upd H D o b = some u := fun b u e n => by rw [upd_ne (fun z => n (by rw [z]; exact .inl hD))]; exact e
  refine ⟨k.len, fun b z => ?_, fun i d h => ?_, fun i p ds h => ?_, k.dj⟩
  · obtain ⟨u, e⟩ := k.tr b z
    by_cases q : b = D
    · exact ⟨o, by rw [q]; exact upd_same⟩
    · exact ⟨u, by rw [upd_ne q]; exact e⟩
  · obtain ⟨v, q1, q2⟩ := k.sl i d h
    exact ⟨v, q1, q2.move mv fun b z => .inl z⟩
  · obtain ⟨a, vs, q1, q2, q3, q4⟩ := k.ow i p ds h
    refine ⟨a, vs, q1, ?_, q3.move mv fun b z => .inl z, q4⟩
    rw [upd_ne (fun z => hn (by rw [← z]; exact ⟨i, p, ds, h, q1⟩))]
    exact q2
theorem Step.poke {D : Addr} {o : HO} (s : Step σ δ H σ1 δ1 H1) (hD : H D = none) : Step σ δ H σ1 δ1 (upd H1 D o) where
  keep := fun b u e n => by
    rw [upd_ne (ne_of_none e hD)]
    exact s.keep b u e n
  own := s.own
  trk := fun b u e => by
    rw [upd_ne (ne_of_none e hD)]
    exact s.trk b u e
  pot := s.pot
def er (H : Hp) (D : Addr) : Hp := fun b => if b = D then none else H b
theorem er_ne {H : Hp} {b D : Addr} (h : b ≠ D) : er H D b = H b := by unfold er; rw [if_neg h]
theorem er_self {H : Hp} {D : Addr} : er H D D = none := by unfold er; rw [if_pos rfl]
theorem upd_er {H : Hp} {D : Addr} {o : HO} (h : H D = some o) : upd (er H D) D o = H := by
  funext b
  by_cases e : b = D
  · subst e; rw [upd_same, h]
  · rw [upd_ne e, er_ne e]
def orD (S0 : Addr → Prop) (D : Addr) : Addr → Prop := fun b => S0 b ∨ b = D
theorem Ok.erase {D : Addr} (k : Ok T (orD S0 D) σ δ H) (hS : ¬ S0 D) (hn : ¬ ownAt σ δ D) : Ok T S0 σ δ (er H D) ∧ ∀ {ds : List Dl.D} {vs : List V}, Reps T H (Av (orD S0 D) σ δ) ds vs → Reps T (er H D) (Av S0 σ δ) ds vs := by
  have mv : ∀ b u, H b = some u → ¬ Av (orD S0 D) σ δ b → er H D b = some u := fun b u e n => by rw [er_ne (fun z => n (.inl (.inr z)))]; exact e
  have sub : ∀ b, Av S0 σ δ b → Av (orD S0 D) σ δ b ∨ H b = none := fun b z => .inl (z.elim (fun z => .inl (.inl z)) .inr)
  refine ⟨⟨k.len, fun b z => ?_, fun i d h => ?_, fun i p ds h => ?_, k.dj⟩, fun r => r.move mv sub⟩
  · obtain ⟨u, e⟩ := k.tr b (.inl z)
    exact ⟨u, by rw [er_ne (fun q => hS (by rw [← q]; exact z))]; exact e⟩
  · obtain ⟨v, q1, q2⟩ := k.sl i d h
    exact ⟨v, q1, q2.move mv sub⟩
  · obtain ⟨a, vs, q1, q2, q3, q4⟩ := k.ow i p ds h
    refine ⟨a, vs, q1, ?_, q3.move mv sub, fun z q => q4 z (.inl q)⟩
    rw [er_ne (fun z => hn (by rw [← z]; exact ⟨i, p, ds, h, q1⟩))]
    exact q2
theorem Step.erase {D : Addr} (s : Step σ δ H σ1 δ1 H1) (hD : H D = none) : Step σ δ H σ1 δ1 (er H1 D) where
  keep := fun b u e n => by
    rw [er_ne (ne_of_none e hD)]
    exact s.keep b u e n
  own := s.own
  trk := fun b u e => by
    rw [er_ne (ne_of_none e hD)]
    exact s.trk b u e
  pot := s.pot
/-- a new address is set apart -/
theorem Ok.apart {D : Addr} {o : HO} (k : Ok T S0 σ δ H) (hD : H D = none) : Ok T (orD S0 D) σ δ (upd H D o) ∧ ¬ ownAt σ δ D := by
  have hn : ¬ Av S0 σ δ D := k.fresh hD
  have mv : ∀ b u, H b = some u → ¬ Av S0 σ δ b → upd H D o b = some u := fun b u e n => by rw [upd_ne (ne_of_none e hD)]; exact e
  have sub : ∀ b, Av (orD S0 D) σ δ b → Av S0 σ δ b ∨ H b = none := fun b z => z.elim (fun z => z.elim (fun z => .inl (.inl z)) fun z => .inr (by rw [z]; exact hD)) fun z => .inl (.inr z)
  refine ⟨⟨k.len, fun b z => ?_, fun i d h => ?_, fun i p ds h => ?_, k.dj⟩, fun z => hn (.inr z)⟩
  · by_cases q : b = D
    · exact ⟨o, by rw [q]; exact upd_same⟩
    · obtain ⟨u, e⟩ := k.tr b (z.elim id fun z => absurd z q)
      exact ⟨u, by rw [upd_ne q]; exact e⟩
  · obtain ⟨v, q1, q2⟩ := k.sl i d h
    exact ⟨v, q1, q2.move mv sub⟩
  · obtain ⟨a, vs, q1, q2, q3, q4⟩ := k.ow i p ds h
    have hne : a ≠ D := fun z => by rw [z, hD] at q2; cases q2
    refine ⟨a, vs, q1, by rw [upd_ne hne]; exact q2, q3.move mv sub, fun z q => q.elim (q4 z) hne⟩
end

/-! ### targets -/
def Agr (ws : List Nat) (σ' σ : L2.St) : Prop := σ'.length = σ.length ∧ ∀ i, i ∉ ws → σ'[i]? = σ[i]?
theorem Agr.refl {ws : List Nat} {σ : L2.St} : Agr ws σ σ := ⟨rfl, fun _ _ => rfl⟩
theorem Agr.trans {ws : List Nat} {a b c : L2.St} (h : Agr ws a b) (h' : Agr ws b c) : Agr ws a c := ⟨h.1.trans h'.1, fun i hi => (h.2 i hi).trans (h'.2 i hi)⟩
abbrev FG := D → Es → Option Es
def tTg (T : CT) (ws : List Nat) (ft : FG) : TG := fun x σ H Q => ∃ S0 δ d δ', Ok T S0 σ δ H ∧ Rep T H (Av S0 σ δ) d x ∧ ft d δ = some δ' ∧ ∀ σ' H', Agr ws σ' σ → Ok T S0 σ' δ' H' → Step σ δ H σ' δ' H' → Q σ' H'
def tTgs (T : CT) (ws : List Nat) (ft : List D → Es → Option Es) : TGs := fun xs σ H Q => ∃ S0 δ ds δ', Ok T S0 σ δ H ∧ Reps T H (Av S0 σ δ) ds xs ∧ ft ds δ = some δ' ∧ ∀ σ' H', Agr ws σ' σ → Ok T S0 σ' δ' H' → Step σ δ H σ' δ' H' → Q σ' H'
section
variable {X : Cx} {T : CT} {pos : Pos} {ws : List Nat}
theorem PG.imp {e : Expr} {t u : TG} (h : PG X e t) (i : ∀ x σ H Q, u x σ H Q → t x σ H Q) : PG X e u := ⟨fun pins s σ H v x Q I r q => h.run pins s σ H v x Q I r (i _ σ H Q q)⟩
theorem PGs.imp {e : List Expr} {t u : TGs} (h : PGs X e t) (i : ∀ x σ H Q, u x σ H Q → t x σ H Q) : PGs X e u := ⟨fun pins s σ H v x Q I r q => h.run pins s σ H v x Q I r (i _ σ H Q q)⟩
theorem PI.imp {tg e : Expr} {t u : TI} (h : PI X tg e t) (i : ∀ σ H Q, u σ H Q → t σ H Q) : PI X tg e u := ⟨fun pins s σ H R I q => h.run pins s σ H R I (i σ H R q)⟩
def gN (i : Nat) : FG := fun d δ => some (δ.set i (.val d))
theorem tg_n (i : Nat) {x : Str} (hN : X.N.Nodup) (hw : i ∈ ws := by decide) (hi : X.N[i]? = some x := by rfl) (hx : Loc X.env.scope x := by first | exact .inl rfl | exact .inr rfl) (hf : X.fn x = true ∨ X.env.scope.names.lookup x = some .local := by first | exact .inl rfl | exact .inr rfl | assumption) :
    PG X (.Name x pos) (tTg T ws (gN i)) := PG.imp (pg_name hN hi hx hf) fun v σ H Q ⟨S0, δ, d, δ', ok, r, e, q⟩ => by
  cases e
  obtain ⟨ok2, s2⟩ := ok.store (i := i) r
  exact q _ H ⟨by rw [List.length_set], fun j hj => by rw [List.getElem?_set_ne (fun z => hj (by rw [← z]; exact hw))]⟩ ok2 s2
def gsNil : List D → Es → Option Es
  | [], δ => some δ
  | _, _ => none
def gsCons (f : FG) (g : List D → Es → Option Es) : List D → Es → Option Es
  | d :: ds, δ => (f d δ).bind fun δ1 => g ds δ1
  | _, _ => none
theorem bind_some1 {α γ : Type} {o : Option α} {k : α → Option γ} {c : γ} (h : o.bind k = some c) : ∃ a, o = some a ∧ k a = some c := by
  cases o with
  | none => cases h
  | some p => exact ⟨p, rfl, h⟩
theorem tgs_nil : PGs X [] (tTgs T ws gsNil) := PGs.imp pgs_nil fun xs σ H Q ⟨S0, δ, ds, δ', ok, r, e, q⟩ => by
  cases ds with
  | nil =>
    cases e
    rw [Reps] at r
    exact ⟨r, q σ H Agr.refl ok Step.refl⟩
  | cons _ _ => cases e
theorem tgs_cons {e : Expr} {es : List Expr} {f : FG} {g : List D → Es → Option Es} (h1 : PG X e (tTg T ws f)) (h2 : PGs X es (tTgs T ws g))
    (hs : (assignEach (e :: es) X.env).map (·.2) = assign e X.env :: (assignEach es X.env).map (·.2) := by rfl) : PGs X (e :: es) (tTgs T ws (gsCons f g)) := PGs.imp (pgs_cons h1 h2 hs) fun xs σ H Q ⟨S0, δ, ds, δ', ok, r, e, q⟩ => by
  cases ds with
  | nil => cases e
  | cons d ds =>
    obtain ⟨δ1, e1, e2⟩ := bind_some1 e
    rw [Reps] at r
    obtain ⟨v, vr, rfl, r1, r2⟩ := r
    exact ⟨v, vr, rfl, S0, δ, d, δ1, ok, r1, e1, fun σ1 H1 a1 ok1 s1 => ⟨S0, δ1, ds, δ', ok1, s1.reps r2, e2, fun σ2 H2 a2 ok2 s2 => q σ2 H2 (a2.trans a1) ok2 (s1.trans s2)⟩⟩
def gT (n : Nat) (g : List D → Es → Option Es) : FG := fun d δ => match d with
  | .tup ds => if ds.length = n then g ds δ else none
  | _ => none
theorem tg_t {es : List Expr} {k n : Nat} {g : List D → Es → Option Es} (hc : X.calm = true) (h : PGs X es (tTgs T ws g)) (hn : (assignEach es X.env).length = n := by rfl) (hst : (assignEach es X.env).findIdx? (·.1) = none := by rfl) :
    PG X (.Tuple es k pos) (tTg T ws (gT n g)) := PG.imp (pg_tup hc h hn hst) fun v σ H Q ⟨S0, δ, d, δ', ok, r, e, q⟩ => by
  cases d <;> first | cases e | skip
  rename_i ds
  change (if ds.length = n then g ds δ else none) = some δ' at e
  by_cases hl : ds.length = n
  case neg => rw [if_neg hl] at e; cases e
  rw [if_pos hl] at e
  rw [Rep] at r
  obtain ⟨a, vs, rfl, ha, _, rs⟩ := r
  exact ⟨a, vs, rfl, SqT.of ha, by rw [rs.length, hl], S0, δ, ds, δ', ok, rs, e, q⟩
/-- an item of a name's own list -/
def gI1 (i : Nat) (fe : FE) : FG := fun d δ => if isOwnL δ[i]? = true then (fe δ).bind fun (j, δ1) => match δ1[i]?, j with
    | some (.own w xs), .int k => if isL w = true then (ixN xs.length k).map fun n => δ1.set i (.own w (xs.set n d)) else none
    | _, _ => none
  else none
theorem tg_i {i : Nat} {e : Expr} {y : Str} {py : Pos} {fe : FE} (he : PE X e (tD T fe)) (hN : X.N[i]? = some y := by rfl) (hv : Vis X.env.scope y := by first | exact Or.inl rfl | exact Or.inr (Or.inl rfl) | exact Or.inr (Or.inr rfl)) (hdy : (y == ("__debug__" : Str)) = false := by decide) (hcd : (y == ("__classdict__" : Str)) = false := by decide)
    (ha : ∀ v, assign (.Subscript (.Name y py) e pos) X.env v = (do
      let ov ← holding [v] (eval (.Name y py) X.env)
      let iv ← holding [v, ov] (eval e X.env)
      standAt pos
      holding [v, ov, iv] (setItem ov iv v)
      release [v, ov, iv] []) := by intro _; rfl) : PG X (.Subscript (.Name y py) e pos) (tTg T ws (gI1 i fe)) := PG.imp (pg_sub (pe_var hN hv hdy hcd) he set_list ha) fun v σ H Q ⟨S0, δ, d, δ', ok, r, e, q⟩ => by
  unfold gI1 at e
  by_cases h0 : isOwnL δ[i]? = true
  case neg => rw [if_neg h0] at e; cases e
  rw [if_pos h0] at e
  obtain ⟨j, δ1, e1, e2⟩ := bind_some2 e
  obtain ⟨w0, xs0, e0, w0L⟩ := ownL_of h0
  obtain ⟨a, us, ea, ha0, _⟩ := ok.ow i w0 xs0 e0
  refine ⟨_, ea, S0, δ, j, δ1, ok, e1, fun vj H1 ok1 s1 r1 => ?_⟩
  dsimp only at e2
  split at e2
  case h_2 => cases e2
  rename_i w xs k hw
  by_cases hp : isL w = true
  case neg => rw [if_neg hp] at e2; cases e2
  rw [if_pos hp] at e2
  obtain ⟨n, e3, e4⟩ := map_some1 e2
  subst e4
  obtain ⟨b, vs, q1, q2, q3, _⟩ := ok1.ow i w xs hw
  rw [ea] at q1; cases q1
  rw [isL_ho hp] at q2
  refine ⟨a, vs, k, n, rfl, rep_int r1, q2, by rw [q3.length]; exact e3, ?_⟩
  have na : Av S0 σ δ1 a := .inr ⟨i, w, xs, hw, ea⟩
  have hk : ∀ b o, H1 b = some o → b ≠ a → upd H1 a (.lst (vs.set n v)) b = some o := fun b o e ne => by rw [upd_ne ne]; exact e
  obtain ⟨ok2, s2⟩ := ok1.change (H' := upd H1 a (.lst (vs.set n v))) (us := vs.set n v) hw ea hk (by rw [isL_ho hp]; exact upd_same) ((Reps.set (s1.rep r) n q3).move (fun b o e n => hk b o e fun z => n (by rw [z]; exact na)) fun b z => .inl z)
  exact q _ _ Agr.refl ok2 (s1.trans s2)

/-! ### stores -/
def sAsg (f : FE) (ft : FG) : FS := fun δ => (f δ).bind fun (d, δ1) => (ft d δ1).map fun δ2 => .nx δ2
theorem st_asg {tg e : Expr} {f : FE} {ft : FG} (he : PE X e (tD T f)) (hg : PG X tg (tTg T ws ft)) (hs : swapsWithSole [tg] e pos.line X.env = pure false := by rfl) (hw : swappedStores [tg] e X.env = pure none := by rfl)
    (h1 : (assignEach [tg] X.env).map (·.2) = [assign tg X.env] := by rfl) : PS X (.Assign [tg] e pos) (tSt T (sAsg f ft)) := PS.imp (ps_asg he hg hs hw h1) fun E σ H ⟨S0, δ, r, ok, e, q⟩ => by
  obtain ⟨d, δ1, e1, e2⟩ := bind_some2 e
  obtain ⟨δ2, e3, e4⟩ := map_some1 e2
  subst e4
  exact ⟨S0, δ, d, δ1, ok, e1, fun v H1 ok1 s1 r1 => ⟨S0, δ1, d, δ2, ok1, r1, e3, fun σ2 H2 _ ok2 s2 => q σ2 H2 ok2 (s1.trans s2)⟩⟩
def sPar (i j : Nat) (fa : FA) : FS := fun δ => (fa δ).bind fun (ds, δ1) => match ds with
  | [a, b] => some (.nx ((δ1.set i (.val a)).set j (.val b)))
  | _ => none
theorem st_par (i j : Nat) {x y : Str} {a b : Expr} {fa : FA} {px py pt : Pos} {kt k2 pt2} (hc : X.calm = true) (hN : X.N.Nodup) (ha : PA X [a, b] (tDs T fa)) (hij : i ≠ j := by decide) (hi : X.N[i]? = some x := by rfl) (hj : X.N[j]? = some y := by rfl)
    (hx : X.env.scope.names.lookup x = some .local := by rfl) (hy : X.env.scope.names.lookup y = some .local := by rfl)
    (hw : swappedStores [.Tuple [.Name x px, .Name y py] kt pt] (.Tuple [a, b] k2 pt2) X.env = pure (some [x, y]) := by rfl)
    (hs : swapsWithSole [.Tuple [.Name x px, .Name y py] kt pt] (.Tuple [a, b] k2 pt2) pos.line X.env = pure false := by rfl) :
    PS X (.Assign [.Tuple [.Name x px, .Name y py] kt pt] (.Tuple [a, b] k2 pt2) pos) (tSt T (sPar i j fa)) := PS.imp (ps_par hc hN hi hj hij hx hy ha hw hs) fun E σ H ⟨S0, δ, r, ok, e, q⟩ => by
  obtain ⟨ds, δ1, e1, e2⟩ := bind_some2 e
  dsimp only at e2
  split at e2
  case h_2 => cases e2
  rename_i da db
  cases e2
  refine ⟨S0, δ, [da, db], δ1, ok, e1, fun vs H1 ok1 s1 r1 => ?_⟩
  rw [Reps] at r1
  obtain ⟨v, vr, rfl, r2, r3⟩ := r1
  rw [Reps] at r3
  obtain ⟨w, wr, rfl, r4, r5⟩ := r3
  rw [Reps] at r5; subst r5
  obtain ⟨ok2, s2⟩ := ok1.store (i := i) r2
  obtain ⟨ok3, s3⟩ := ok2.store (i := j) (s2.rep r4)
  exact ⟨v, w, rfl, q _ H1 ok3 ((s1.trans s2).trans s3)⟩
def sPar3 (i j l : Nat) (fa : FA) : FS := fun δ => (fa δ).bind fun (ds, δ1) => match ds with
  | [a, b, c] => some (.nx (((δ1.set i (.val a)).set j (.val b)).set l (.val c)))
  | _ => none
theorem st_par3 (i j l : Nat) {x y z : Str} {a b c : Expr} {fa : FA} {px py pz pt : Pos} {kt k2 pt2} (hc : X.calm = true) (hN : X.N.Nodup) (ha : PA X [a, b, c] (tDs T fa)) (hij : i ≠ j := by decide) (hil : i ≠ l := by decide) (hjl : j ≠ l := by decide) (hi : X.N[i]? = some x := by rfl) (hj : X.N[j]? = some y := by rfl) (hl : X.N[l]? = some z := by rfl)
    (hx : X.env.scope.names.lookup x = some .local := by rfl) (hy : X.env.scope.names.lookup y = some .local := by rfl) (hz : X.env.scope.names.lookup z = some .local := by rfl)
    (hw : swappedStores [.Tuple [.Name x px, .Name y py, .Name z pz] kt pt] (.Tuple [a, b, c] k2 pt2) X.env = pure (some [x, y, z]) := by rfl)
    (hs : swapsWithSole [.Tuple [.Name x px, .Name y py, .Name z pz] kt pt] (.Tuple [a, b, c] k2 pt2) pos.line X.env = pure false := by rfl) :
    PS X (.Assign [.Tuple [.Name x px, .Name y py, .Name z pz] kt pt] (.Tuple [a, b, c] k2 pt2) pos) (tSt T (sPar3 i j l fa)) := PS.imp (ps_par3 hc hN hi hj hl hij hil hjl hx hy hz ha hw hs) fun E σ H ⟨S0, δ, r, ok, e, q⟩ => by
  obtain ⟨ds, δ1, e1, e2⟩ := bind_some2 e
  dsimp only at e2
  split at e2
  case h_2 => cases e2
  rename_i da db dc
  cases e2
  refine ⟨S0, δ, [da, db, dc], δ1, ok, e1, fun vs H1 ok1 s1 r1 => ?_⟩
  rw [Reps] at r1
  obtain ⟨v, vr, rfl, r2, r3⟩ := r1
  rw [Reps] at r3
  obtain ⟨w, wr, rfl, r4, r5⟩ := r3
  rw [Reps] at r5
  obtain ⟨u, ur, rfl, r6, r7⟩ := r5
  rw [Reps] at r7; subst r7
  obtain ⟨ok2, s2⟩ := ok1.store (i := i) r2
  obtain ⟨ok3, s3⟩ := ok2.store (i := j) (s2.rep r4)
  obtain ⟨ok4, s4⟩ := ok3.store (i := l) ((s2.trans s3).rep r6)
  exact ⟨v, w, u, rfl, q _ H1 ok4 (((s1.trans s2).trans s3).trans s4)⟩
end
end Dl
namespace Dl
open PySem PySem.Spec PyProof.Rows L2
/-! ### what is walked -/
def Runs (T : CT) (J : It) (ds : List D) (H : Hp) (S : Addr → Prop) : Prop := ∀ (S1 : Addr → Prop) (H1 : Hp), (∀ b, S1 b → ∃ o, H1 b = some o) → (∀ d v, Rep T H S d v → Rep T H1 S1 d v) →
  (∀ i d, ds[i]? = some d → J.go i H1 ∧ ∀ x H2, J.yld i H1 x H2 → Same H1 H2 ∧ Rep T H2 S1 d x) ∧ J.stop ds.length H1
def tIt (T : CT) (fI : FA) : TI := fun σ H R => ∃ S0 δ ds δ', Ok T S0 σ δ H ∧ fI δ = some (ds, δ') ∧ ∀ J H', Ok T S0 σ δ' H' → Step σ δ H σ δ' H' → Runs T J ds H' (Av S0 σ δ') → R J H'
section
variable {X : Cx} {T : CT} {pos p : Pos} {tg : Expr}
theorem runs_list {K : PySem.W.Frag} {H : Hp} {S : Addr → Prop} {ds : List D} {a : Addr} (r : Rep T H S (.lst ds) (.ref a)) : Runs T (Itl K a) ds H S := fun S1 H1 _ k => by
  have r1 := k _ _ r
  rw [Rep] at r1
  obtain ⟨b, vs, e, ha, _, rs⟩ := r1
  cases e
  refine ⟨fun i d hd => ?_, ⟨vs, SqL.of ha, by rw [rs.length]; exact Nat.le_refl _⟩⟩
  obtain ⟨v, hv, rv⟩ := rs.get hd
  refine ⟨⟨vs, v, SqL.of ha, hv⟩, fun x H2 hy => ?_⟩
  obtain ⟨e, hx⟩ := hy
  have := hx vs (SqL.of ha)
  rw [hv] at this; cases this
  subst e
  exact ⟨Same.refl _, rv⟩
theorem runs_tup {K : PySem.W.Frag} {H : Hp} {S : Addr → Prop} {ds : List D} {a : Addr} (r : Rep T H S (.tup ds) (.ref a)) : Runs T (Itt K a) ds H S := fun S1 H1 _ k => by
  have r1 := k _ _ r
  rw [Rep] at r1
  obtain ⟨b, vs, e, ha, _, rs⟩ := r1
  cases e
  refine ⟨fun i d hd => ?_, ⟨vs, SqT.of ha, by rw [rs.length]; exact Nat.le_refl _⟩⟩
  obtain ⟨v, hv, rv⟩ := rs.get hd
  refine ⟨⟨vs, v, SqT.of ha, hv⟩, fun x H2 hy => ?_⟩
  obtain ⟨e, hx⟩ := hy
  have := hx vs (SqT.of ha)
  rw [hv] at this; cases this
  subst e
  exact ⟨Same.refl _, rv⟩
def intsD (lo : Int) (n : Nat) : List D := (List.range n).map fun (i : Nat) => .int (lo + i)
theorem runs_range {H : Hp} {S : Addr → Prop} {lo : Int} {n : Nat} : Runs T (Itr lo n) (intsD lo n) H S := fun S1 H1 _ k => by
  refine ⟨fun i d hd => ?_, by show n ≤ _; simp [intsD]⟩
  unfold intsD at hd
  rw [List.getElem?_map] at hd
  by_cases h : i < n
  · rw [List.getElem?_range h] at hd
    cases hd
    refine ⟨h, fun x H2 hy => ?_⟩
    obtain ⟨e, rfl⟩ := hy
    subst e
    exact ⟨Same.refl _, rep_lit rfl⟩
  · rw [List.getElem?_eq_none (by simp; omega)] at hd; cases hd
def fSq (f : FE) : FA := fun δ => (f δ).bind fun (d, δ1) => match d with
  | .lst ds => some (ds, δ1)
  | .tup ds => some (ds, δ1)
  | _ => none
theorem pi_or {e : Expr} {t u : TI} (h : PI X tg e t) (h' : PI X tg e u) : PI X tg e (fun σ H R => t σ H R ∨ u σ H R) := ⟨fun pins s σ H R I q => q.elim (h.run pins s σ H R I) (h'.run pins s σ H R I)⟩
theorem pid_sq {e : Expr} {f : FE} (h : PE X e (tD T f)) : PI X tg e (tIt T (fSq f)) := PI.imp (pi_or (pi_list h) (pi_tup h)) fun σ H R ⟨S0, δ, ds, δ', ok, e, q⟩ => by
  obtain ⟨d, δ1, e1, e2⟩ := bind_some2 e
  cases d <;> first | cases e2 | skip
  · refine .inl ⟨S0, δ, _, δ', ok, e1, fun v H1 ok1 s1 r => ?_⟩
    have r0 := r
    rw [Rep] at r
    obtain ⟨a, vs, rfl, ha, _, rs⟩ := r
    exact ⟨a, rfl, ⟨vs, SqL.of ha⟩, q _ H1 ok1 s1 (runs_list r0)⟩
  · refine .inr ⟨S0, δ, _, δ', ok, e1, fun v H1 ok1 s1 r => ?_⟩
    have r0 := r
    rw [Rep] at r
    obtain ⟨a, vs, rfl, ha, _, rs⟩ := r
    exact ⟨a, rfl, ⟨vs, SqT.of ha⟩, q _ H1 ok1 s1 (runs_tup r0)⟩
def fRg1 (fa : FA) : FA := fun δ => (fa δ).bind fun (ds, δ1) => match ds with
  | [.int j] => if -(2 ^ 62) ≤ j ∧ j < 2 ^ 62 then some (intsD 0 j.toNat, δ1) else none
  | _ => none
theorem pid_rg1 {a : Expr} {fa : FA} (hm : X.mg "range" = none) (ha : PA X [a] (tDs T fa)) (hg : Gl X "range" := by rfl) (hs : starEach [a] X.env = [(false, eval a X.env)] := by rfl) : PI X tg (.Call (.Name "range" p) [a] [] pos) (tIt T (fRg1 fa)) := PI.imp (pi_range1 hg hm ha hs) fun σ H R ⟨S0, δ, ds, δ', ok, e, q⟩ => by
  obtain ⟨d, δ1, e1, e2⟩ := bind_some2 e
  dsimp only at e2
  split at e2
  case h_2 => cases e2
  obtain ⟨⟨h1, h2⟩, e2⟩ := ite_some e2
  cases e2
  refine ⟨S0, δ, _, δ', ok, e1, fun vs H1 ok1 s1 r => ?_⟩
  rw [Reps] at r
  obtain ⟨v, vr, rfl, r1, r2⟩ := r
  rw [Reps] at r2; subst r2
  exact ⟨_, by rw [rep_int r1], h1, h2, q _ H1 ok1 s1 runs_range⟩
def fRg2 (fa : FA) : FA := fun δ => (fa δ).bind fun (ds, δ1) => match ds with
  | [.int i, .int j] => if -(2 ^ 62) ≤ i ∧ i < 2 ^ 62 ∧ -(2 ^ 62) ≤ j ∧ j < 2 ^ 62 then some (intsD i (j - i).toNat, δ1) else none
  | _ => none
theorem pid_rg2 {a b : Expr} {fa : FA} (hm : X.mg "range" = none) (ha : PA X [a, b] (tDs T fa)) (hg : Gl X "range" := by rfl) (hs : starEach [a, b] X.env = [(false, eval a X.env), (false, eval b X.env)] := by rfl) (hs2 : starEach [b] X.env = [(false, eval b X.env)] := by rfl) :
    PI X tg (.Call (.Name "range" p) [a, b] [] pos) (tIt T (fRg2 fa)) := PI.imp (pi_range2 hg hm ha hs hs2) fun σ H R ⟨S0, δ, ds, δ', ok, e, q⟩ => by
  obtain ⟨d, δ1, e1, e2⟩ := bind_some2 e
  dsimp only at e2
  split at e2
  case h_2 => cases e2
  obtain ⟨⟨h1, h2, h3, h4⟩, e2⟩ := ite_some e2
  cases e2
  refine ⟨S0, δ, _, δ', ok, e1, fun vs H1 ok1 s1 r => ?_⟩
  rw [Reps] at r
  obtain ⟨v, vr, rfl, r1, r2⟩ := r
  rw [Reps] at r2
  obtain ⟨w, wr, rfl, r3, r4⟩ := r2
  rw [Reps] at r4; subst r4
  exact ⟨_, _, by rw [rep_int r1, rep_int r3], ⟨h1, h2, h3, h4⟩, q _ H1 ok1 s1 runs_range⟩

/-- pairs that a walk makes: they are new -/
theorem pair_new {H : Hp} {S : Addr → Prop} {p : Addr} {d e : D} {x y : V} (tr : ∀ b, S b → ∃ o, H b = some o) (hp : H p = none) (rx : Rep T H S d x) (ry : Rep T H S e y) : Same H (upd H p (.tup [x, y])) ∧ Rep T (upd H p (.tup [x, y])) S (.tup [d, e]) (.ref p) := by
  have sm : Same H (upd H p (.tup [x, y])) := fun b o q => by rw [upd_ne (ne_of_none q hp)]; exact q
  refine ⟨sm, ?_⟩
  rw [Rep]
  exact ⟨p, _, rfl, upd_same, (fun z => by obtain ⟨o, q⟩ := tr p z; rw [hp] at q; cases q), (Reps.cons rx (Reps.cons ry Reps.nil)).same sm⟩
def pairsD (xs ys : List D) : List D := List.zipWith (fun x y => D.tup [x, y]) xs ys
theorem runs_zip {K : PySem.W.Frag} {H : Hp} {S : Addr → Prop} {xs ys : List D} {a b : Addr} (ra : Rep T H S (.lst xs) (.ref a)) (rb : Rep T H S (.lst ys) (.ref b)) : Runs T (Itz K a b) (pairsD xs ys) H S := fun S1 H1 tr k => by
  have r1 := k _ _ ra
  have r2 := k _ _ rb
  rw [Rep] at r1 r2
  obtain ⟨a', us, e1, ha, _, rs⟩ := r1
  obtain ⟨b', ws, e2, hb, _, rt⟩ := r2
  cases e1; cases e2
  refine ⟨fun i d hd => ?_, ⟨us, ws, SqL.of ha, SqL.of hb, by rw [rs.length, rt.length]; simp [pairsD]; omega⟩⟩
  unfold pairsD at hd
  rw [List.getElem?_zipWith] at hd
  cases hx : xs[i]? with
  | none => rw [hx] at hd; simp at hd
  | some x =>
    cases hy : ys[i]? with
    | none => rw [hx, hy] at hd; simp at hd
    | some y =>
      rw [hx, hy] at hd
      cases hd
      obtain ⟨u, hu, ru⟩ := rs.get hx
      obtain ⟨v, hv, rv⟩ := rt.get hy
      refine ⟨⟨us, ws, u, v, SqL.of ha, SqL.of hb, hu, hv⟩, fun z H2 hz => ?_⟩
      obtain ⟨p, u', v', rfl, hp, rfl, q1, q2⟩ := hz
      have q1' := q1 us (SqL.of ha)
      have q2' := q2 ws (SqL.of hb)
      rw [hu] at q1'; cases q1'
      rw [hv] at q2'; cases q2'
      exact pair_new tr hp ru rv
def fZip (fa : FA) : FA := fun δ => (fa δ).bind fun (ds, δ1) => match ds with
  | [.lst xs, .lst ys] => some (pairsD xs ys, δ1)
  | _ => none
theorem pid_zip {e e2 : Expr} {fa : FA} {elts : List Expr} {kk : Nat} {tpos : Pos} (hm : X.mg "zip" = none) (ha : PA X [e, e2] (tDs T fa)) (hg : Gl X "zip" := by rfl)
    (hs : starEach [e, e2] X.env = (false, eval e X.env) :: starEach [e2] X.env := by rfl) (hpl : (backTo pos (starEach [e2] X.env)).any (·.1) = false := by rfl) : PI X (.Tuple elts kk tpos) (.Call (.Name "zip" p) [e, e2] [] pos) (tIt T (fZip fa)) := PI.imp (pi_zip hg hm ha hs hpl) fun σ H R ⟨S0, δ, ds, δ', ok, e, q⟩ => by
  obtain ⟨d, δ1, e1, e2⟩ := bind_some2 e
  dsimp only at e2
  split at e2
  case h_2 => cases e2
  rename_i xs ys
  cases e2
  refine ⟨S0, δ, _, δ', ok, e1, fun vs H1 ok1 s1 r => ?_⟩
  rw [Reps] at r
  obtain ⟨v, vr, rfl, r1, r2⟩ := r
  rw [Reps] at r2
  obtain ⟨w, wr, rfl, r3, r4⟩ := r2
  rw [Reps] at r4; subst r4
  have r1' := r1
  have r3' := r3
  rw [Rep] at r1 r3
  obtain ⟨a, us, rfl, ha, _, _⟩ := r1
  obtain ⟨b, ws, rfl, hb, _, _⟩ := r3
  exact ⟨a, b, us, ws, rfl, SqL.of ha, SqL.of hb, q _ H1 ok1 s1 (runs_zip r1' r3')⟩
def enumD (xs : List D) : List D := xs.mapIdx fun i x => D.tup [.int i, x]
theorem runs_enum {K : PySem.W.Frag} {H : Hp} {S : Addr → Prop} {xs : List D} {a : Addr} (ra : Rep T H S (.lst xs) (.ref a)) : Runs T (Ite K a) (enumD xs) H S := fun S1 H1 tr k => by
  have r1 := k _ _ ra
  rw [Rep] at r1
  obtain ⟨a', us, e1, ha, _, rs⟩ := r1
  cases e1
  refine ⟨fun i d hd => ?_, ⟨us, SqL.of ha, by rw [rs.length]; simp [enumD]⟩⟩
  unfold enumD at hd
  rw [List.getElem?_mapIdx] at hd
  obtain ⟨x, hx, rfl⟩ := map_some1 hd
  obtain ⟨u, hu, ru⟩ := rs.get hx
  refine ⟨⟨us, u, SqL.of ha, hu⟩, fun z H2 hz => ?_⟩
  obtain ⟨p, u', rfl, hp, rfl, q1⟩ := hz
  have q1' := q1 us (SqL.of ha)
  rw [hu] at q1'; cases q1'
  exact pair_new tr hp (rep_lit rfl) ru
def fEnum (fa : FA) : FA := fun δ => (fa δ).bind fun (ds, δ1) => match ds with
  | [.lst xs] => some (enumD xs, δ1)
  | _ => none
theorem pid_enum {e : Expr} {fa : FA} {elts : List Expr} {kk : Nat} {tpos : Pos} (hm : X.mg "enumerate" = none) (ha : PA X [e] (tDs T fa)) (hg : Gl X "enumerate" := by rfl) (hs : starEach [e] X.env = [(false, eval e X.env)] := by rfl) :
    PI X (.Tuple elts kk tpos) (.Call (.Name "enumerate" p) [e] [] pos) (tIt T (fEnum fa)) := PI.imp (pi_enum hg hm ha hs) fun σ H R ⟨S0, δ, ds, δ', ok, e, q⟩ => by
  obtain ⟨d, δ1, e1, e2⟩ := bind_some2 e
  dsimp only at e2
  split at e2
  case h_2 => cases e2
  cases e2
  refine ⟨S0, δ, _, δ', ok, e1, fun vs H1 ok1 s1 r => ?_⟩
  rw [Reps] at r
  obtain ⟨v, vr, rfl, r1, r2⟩ := r
  rw [Reps] at r2; subst r2
  have r1' := r1
  rw [Rep] at r1
  obtain ⟨a, us, rfl, ha, _, _⟩ := r1
  exact ⟨a, us, rfl, SqL.of ha, q _ H1 ok1 s1 (runs_enum r1')⟩

/-! ### for -/
def loopF (ft : FG) (g : FS) : List D → Es → Option Fl
  | [], δ => some (.nx δ)
  | d :: ds, δ => (ft d δ).bind fun δ1 => (g δ1).bind fun r => match r with
    | .nx δ2 => loopF ft g ds δ2
    | .ct δ2 => loopF ft g ds δ2
    | .bk δ2 => some (.nx δ2)
    | .rt d δ2 => some (.rt d δ2)
def sFor (fI : FA) (ft : FG) (g : FS) : FS := fun δ => (fI δ).bind fun (ds, δ1) => loopF ft g ds δ1
theorem drop_cons {α : Type} {ds : List α} {i : Nat} (h : i < ds.length) : ds.drop i = ds[i] :: ds.drop (i + 1) := List.drop_eq_getElem_cons h
theorem st_for {iter : Expr} {body : List Stmt} {fI : FA} {ws : List Nat} {ft : FG} {g : FS} (hp : PassesOwn (model X.prog X.w) X.A X.env X.xe) (hc : X.calm = true) (hi : PI X tg iter (tIt T fI)) (hg : PG X tg (tTg T ws ft)) (hb : PSs X body (tSt T g))
    (hs : ∀ x, foldedSetIterable iter X.env x = pure x := by intro _; rfl) : PS X (.For tg iter body [] pos) (tSt T (sFor fI ft g)) := PS.imp (ps_for hp hc hi hg hb hs) fun E σ H ⟨S0, δ, r, ok, e, q⟩ => by
  obtain ⟨ds, δ1, e1, e2⟩ := bind_some2 e
  refine ⟨S0, δ, ds, δ1, ok, e1, fun J H1 ok1 s1 run => ?_⟩
  refine ⟨fun i m σ' H' => m = ds.length - i ∧ i ≤ ds.length ∧ ∃ δi, Ok T S0 σ' δi H' ∧ Step σ δ1 H1 σ' δi H' ∧ loopF ft g (ds.drop i) δi = some r, ⟨ds.length, by simp, Nat.zero_le _, δ1, ok1, Step.refl, e2⟩, ?_⟩
  rintro i m σ' H' ⟨rfl, hle, δi, oki, si, ei⟩
  obtain ⟨r1, r2⟩ := run (Av S0 σ' δi) H' (fun b z => oki.trk z) fun d v z => si.rep z
  by_cases hlt : i < ds.length
  · refine .inr ⟨(r1 i _ (List.getElem?_eq_getElem hlt)).1, fun σ2 H2 => ∃ δ2, Ok T S0 σ2 δ2 H2 ∧ Step σ δ1 H1 σ2 δ2 H2 ∧ loopF ft g (ds.drop (i + 1)) δ2 = some r, fun σ2 H2 ⟨δ2, a, b, c⟩ => ⟨ds.length - (i + 1), by omega, rfl, hlt, δ2, a, b, c⟩, fun x H2 hy => ?_⟩
    obtain ⟨sm, rx⟩ := (r1 i _ (List.getElem?_eq_getElem hlt)).2 x H2 hy
    replace oki := oki.same sm
    replace si := si.trans (Step.same sm)
    rw [drop_cons hlt] at ei
    obtain ⟨δa, e3, e4⟩ := bind_some1 ei
    obtain ⟨r', e5, e6⟩ := bind_some1 e4
    refine ⟨S0, δi, _, δa, oki, rx, e3, fun σa Ha _ oka sa => ⟨S0, δa, r', oka, e5, ?_⟩⟩
    cases r' with
    | nx δ2 => exact fun σ3 H3 ok3 s3 => ⟨δ2, ok3, (si.trans sa).trans s3, e6⟩
    | ct δ2 => exact fun σ3 H3 ok3 s3 => ⟨δ2, ok3, (si.trans sa).trans s3, e6⟩
    | bk δ2 => cases e6; exact fun σ3 H3 ok3 s3 => q σ3 H3 ok3 ((s1.trans si).trans (sa.trans s3))
    | rt d δ2 => cases e6; exact fun v σ3 H3 ok3 s3 rv => q v σ3 H3 ok3 ((s1.trans si).trans (sa.trans s3)) rv
  · have hi : i = ds.length := by omega
    subst hi
    rw [List.drop_length] at ei
    cases ei
    exact .inl ⟨r2, q σ' H' oki (s1.trans si)⟩

/-! ### while -/
def whileF (c : FT) (g : FS) : Nat → Es → Option Fl
  | 0, _ => none
  | n + 1, δ => (c δ).bind fun (b, δ1) => if b = true then (g δ1).bind fun r => match r with
    | .nx δ2 => whileF c g n δ2
    | .ct δ2 => whileF c g n δ2
    | .bk δ2 => some (.nx δ2)
    | .rt d δ2 => some (.rt d δ2)
    else some (.nx δ1)
def sWhile (fu : Es → Nat) (c : FT) (g : FS) : FS := fun δ => whileF c g (fu δ) δ
theorem st_while {c : Expr} {body : List Stmt} {fc : FT} {g : FS} (fu : Es → Nat) (hp : PassesOwn (model X.prog X.w) X.A X.env X.xe) (hc : PT X c (tDt T fc)) (hb : PSs X body (tSt T g)) : PS X (.While c body [] pos) (tSt T (sWhile fu fc g)) := PS.imp (ps_while hp hc hb) fun E σ H ⟨S0, δ, r, ok, e, q⟩ => by
  refine ⟨fun m σ' H' => ∃ δi, Ok T S0 σ' δi H' ∧ Step σ δ H σ' δi H' ∧ whileF fc g m δi = some r, ⟨fu δ, δ, ok, Step.refl, e⟩, ?_⟩
  rintro m σ' H' ⟨δi, oki, si, ei⟩
  cases m with
  | zero => cases ei
  | succ m =>
    obtain ⟨b, δ1, e1, e2⟩ := bind_some2 ei
    refine ⟨S0, δi, b, δ1, oki, e1, fun H1 ok1 s1 => ?_⟩
    cases b with
    | false =>
      dsimp only at e2
      rw [if_neg Bool.false_ne_true] at e2 ⊢
      cases e2
      exact q σ' H1 ok1 (si.trans s1)
    | true =>
      dsimp only at e2
      rw [if_pos rfl] at e2 ⊢
      obtain ⟨r', e3, e4⟩ := bind_some1 e2
      refine ⟨fun σ2 H2 => ∃ δ2, Ok T S0 σ2 δ2 H2 ∧ Step σ δ H σ2 δ2 H2 ∧ whileF fc g m δ2 = some r, fun σ2 H2 z => ⟨m, Nat.lt_succ_self m, z⟩, S0, δ1, r', ok1, e3, ?_⟩
      cases r' with
      | nx δ2 => exact fun σ3 H3 ok3 s3 => ⟨δ2, ok3, (si.trans s1).trans s3, e4⟩
      | ct δ2 => exact fun σ3 H3 ok3 s3 => ⟨δ2, ok3, (si.trans s1).trans s3, e4⟩
      | bk δ2 => cases e4; exact fun σ3 H3 ok3 s3 => q σ3 H3 ok3 ((si.trans s1).trans s3)
      | rt d δ2 => cases e4; exact fun v σ3 H3 ok3 s3 rv => q v σ3 H3 ok3 ((si.trans s1).trans s3) rv

/-! ### comprehensions -/
theorem ite_some' {α : Type} {c : Prop} [Decidable c] {a : Option α} {b : α} (h : (if c then a else none) = some b) : c ∧ a = some b := by
  by_cases q : c
  · rw [if_pos q] at h; exact ⟨q, h⟩
  · rw [if_neg q] at h; cases h
def lcF (ft : FG) (fc : FT) (fe : FE) (vs : List Nat) : List D → List D → Es → Option (List D × Es)
  | [], acc, δ => some (acc, δ)
  | d :: ds, acc, δ => (ft d δ).bind fun δ1 => (fc δ1).bind fun (b, δ2) => if b = true then (fe δ2).bind fun (y, δ3) => if acc.length ≤ big then lcF ft fc fe vs ds (acc ++ [y]) (wipeE δ3 vs) else none
    else lcF ft fc fe vs ds acc (wipeE δ2 vs)
def fLc (fI : FA) (ft : FG) (fc : FT) (fe : FE) (vs : List Nat) : FA := fun δ => (fI δ).bind fun (ds, δ1) => lcF ft fc fe vs ds [] (wipeE δ1 vs)
def fYes : FT := fun δ => some (true, δ)
theorem pts_yes : PTs X [] (tDt T fYes) := ⟨fun pins s σ H Q I ⟨S0, δ, d, δ', ok, e, q⟩ => by cases e; exact pts_nil.run pins s σ H Q I (q H ok Step.refl)⟩
theorem lc_reading {fI : FA} {ft : FG} {fc : FT} {fe : FE} {vs : List Nat} {σ : L2.St} {H : Hp} {Q : VK} (h : tF T (fLc fI ft fc fe vs) σ H Q) : tLc (tIt T fI) (tTg T vs ft) (tDt T fc) (tD T fe) vs σ H Q := by
  obtain ⟨S0, δ, res, δ', ok, e, q⟩ := h
  obtain ⟨ds, δ1, e1, e2⟩ := bind_some2 e
  refine ⟨S0, δ, ds, δ1, ok, e1, fun J H1 ok1 s1 run A hA => ?_⟩
  have hS : ¬ S0 A := fun z => by obtain ⟨o, e⟩ := ok1.tr A z; rw [hA] at e; cases e
  obtain ⟨okw, sw⟩ := ok1.wipe vs
  obtain ⟨okd, nd⟩ := okw.apart (D := A) (o := .lst []) hA
  refine ⟨fun i m H' => m = ds.length - i ∧ i ≤ ds.length ∧ ∃ δi outs acc, Ok T (orD S0 A) (L2.wipe σ vs) δi H' ∧ Step σ δ1 H1 (L2.wipe σ vs) δi H' ∧ H' A = some (.lst acc) ∧ Reps T H' (Av (orD S0 A) (L2.wipe σ vs) δi) outs acc ∧ ¬ ownAt (L2.wipe σ vs) δi A ∧
      (∀ i ∈ vs, ∀ s, δi[i]? = some s → s = .un) ∧ lcF ft fc fe vs (ds.drop i) outs δi = some (res, δ'),
    ⟨ds.length, by simp, Nat.zero_le _, wipeE δ1 vs, [], [], okd, sw.poke hA, upd_same, Reps.nil, nd, fun i hi s hs => wipeE_un hi hs, e2⟩, ?_⟩
  rintro i m H' ⟨rfl, hle, δi, outs, acc, oki, si, hAi, ri, ni, ui, ei⟩
  have pers : ∀ d v, Rep T H1 (Av S0 σ δ1) d v → Rep T H' (Av (orD S0 A) (L2.wipe σ vs) δi) d v := fun d v z => z.move (fun b o e n => si.keep b o e fun w => n (.inr w)) fun b w => w.elim (fun w => w.elim (fun w => .inl (.inl w)) fun w => .inr (by rw [w]; exact hA)) fun w => (si.own b w).elim (fun w => .inl (.inr w)) .inr
  obtain ⟨r1, r2⟩ := run _ H' (fun b z => oki.trk z) pers
  by_cases hlt : i < ds.length
  · refine .inr ⟨(r1 i _ (List.getElem?_eq_getElem hlt)).1, fun H2 => ∃ δi outs acc, Ok T (orD S0 A) (L2.wipe σ vs) δi H2 ∧ Step σ δ1 H1 (L2.wipe σ vs) δi H2 ∧ H2 A = some (.lst acc) ∧ Reps T H2 (Av (orD S0 A) (L2.wipe σ vs) δi) outs acc ∧ ¬ ownAt (L2.wipe σ vs) δi A ∧
      (∀ i ∈ vs, ∀ s, δi[i]? = some s → s = .un) ∧ lcF ft fc fe vs (ds.drop (i + 1)) outs δi = some (res, δ'), fun H2 z => ⟨ds.length - (i + 1), by omega, rfl, hlt, z⟩, fun x H2 hy => ?_⟩
    obtain ⟨sm, rx⟩ := (r1 i _ (List.getElem?_eq_getElem hlt)).2 x H2 hy
    replace oki := oki.same sm
    replace si := si.trans (Step.same sm)
    replace hAi := sm _ _ hAi
    replace ri := ri.same sm
    rw [drop_cons hlt] at ei
    obtain ⟨δa, e3, e4⟩ := bind_some1 ei
    obtain ⟨b, δb, e5, e6⟩ := bind_some2 e4
    refine ⟨orD S0 A, δi, _, δa, oki, rx, e3, fun σa Ha ag oka sa => ?_⟩
    have hw : L2.wipe σa vs = L2.wipe σ vs := by
      rw [wipe_eq (vs := vs) (σ := L2.wipe σ vs) (σ1 := σa) ag.1 fun j hj => by rw [ag.2 j hj, wipe_get vs (L2.wipe σ vs), if_neg (fun z => hj z.1)]]
      exact wipe_eq (by rw [L2.wipe_length]) fun j _ => rfl
    refine ⟨hw, orD S0 A, δa, b, δb, oka, e5, fun Hb okb sb => ?_⟩
    have nown : ∀ {σx : L2.St} {δx : Es} {Hx : Hp}, Step (L2.wipe σ vs) δi H2 σx δx Hx → ¬ ownAt σx δx A := fun s z => (s.own A z).elim ni fun w => by rw [hAi] at w; cases w
    cases b with
    | false =>
      dsimp only at e6
      show (if _ then _ else _)
      rw [if_neg Bool.false_ne_true] at e6 ⊢
      obtain ⟨okc, sc⟩ := okb.wipe vs
      rw [hw] at okc sc
      have st := (sa.trans sb).trans sc
      exact ⟨_, outs, acc, okc, si.trans st, st.keep A _ hAi ni, st.reps ri, nown st, fun i hi s hs => wipeE_un hi hs, e6⟩
    | true =>
      dsimp only at e6
      show (if _ then _ else _)
      rw [if_pos rfl] at e6 ⊢
      obtain ⟨y, δc, e7, e8⟩ := bind_some2 e6
      obtain ⟨hb, e8⟩ := ite_some' e8
      refine ⟨orD S0 A, δb, y, δc, okb, e7, fun vy Hc okc sc ry => ?_⟩
      obtain ⟨okd, sd⟩ := okc.wipe vs
      rw [hw] at okd sd
      have st := ((sa.trans sb).trans sc).trans sd
      have rs := (st.reps ri).append (Reps.cons (sd.rep ry) Reps.nil)
      have mv : ∀ b u, Hc b = some u → ¬ Av (orD S0 A) (L2.wipe σ vs) (wipeE δc vs) b → upd Hc A (.lst (acc ++ [vy])) b = some u := fun b u e n => by rw [upd_ne (fun z => n (by rw [z]; exact .inl (.inr rfl)))]; exact e
      exact ⟨acc, ((sa.trans sb).trans sc).keep A _ hAi ni, by rw [ri.length]; exact big_line' hb, _, _, _, okd.poke (.inr rfl) (nown st), (si.trans st).poke hA, upd_same, rs.move mv fun b z => .inl z, nown st, fun i hi s hs => wipeE_un hi hs, e8⟩
  · have hi : i = ds.length := by omega
    subst hi
    rw [List.drop_length] at ei
    cases ei
    refine .inl ⟨r2, ?_⟩
    have hl : σ.length = (L2.wipe σ vs).length := by rw [L2.wipe_length]
    have ha : ∀ (i : Nat) s, δ'[i]? = some s → s ≠ .un → σ[i]? = (L2.wipe σ vs)[i]? := fun i s hs ns => by
      rw [wipe_get, if_neg]
      exact fun z => ns (ui i z.1 s hs)
    obtain ⟨ok2, s2⟩ := oki.agree hl ha
    have n2 : ¬ ownAt σ δ' A := fun z => (s2.own A z).elim ni fun w => by rw [hAi] at w; cases w
    obtain ⟨ok3, mv⟩ := ok2.erase hS n2
    have s3 := (s1.trans ((si.trans s2).erase hA))
    have := q A acc (er H' A) ok3 s3 er_self (mv (s2.reps ri))
    rw [upd_er hAi] at this
    exact this
theorem pf_lc {elt iter : Expr} {ifs : List Expr} {scope : Scope} {own : List (Str × Nat)} {fI : FA} {ft : FG} {fc : FT} {fe : FE} (hc : X.calm = true) (hN : X.N.Nodup) (ok : BlkOk X.N X.env.scope scope own) (hi : PI X tg iter (tIt T fI))
    (hg : ∀ (s : Shared) (H : Hp) (C : Addr) (cl : List (Str × Addr)) (fp : List Addr), PG (X.blk s H scope (compEnvC scope cl C X.env) fp) tg (tTg T (own.map (·.2)) ft)) (ht : ∀ (s : Shared) (H : Hp) (C : Addr) (cl : List (Str × Addr)) (fp : List Addr), PTs (X.blk s H scope (compEnvC scope cl C X.env) fp) ifs (tDt T fc))
    (he : ∀ (s : Shared) (H : Hp) (C : Addr) (cl : List (Str × Addr)) (fp : List Addr), PE (X.blk s H scope (compEnvC scope cl C X.env) fp) elt (tD T fe)) (hs : ∀ x, foldedSetIterable iter X.env x = pure x := by intro _; rfl) :
    PE X (.ListComp elt [⟨tg, iter, ifs, 0⟩] scope pos) (tF T (fLc fI ft fc fe (own.map (·.2)))) := PE.imp (pe_lc hc hN hi ok hg ht he hs) fun σ H Q h => lc_reading h
theorem st_lc (i : Nat) {x : Str} {py spos : Pos} {elt iter : Expr} {ifs : List Expr} {scope : Scope} {own : List (Str × Nat)} {fI : FA} {ft : FG} {fc : FT} {fe : FE} (hc : X.calm = true) (hN : X.N.Nodup) (ok : BlkOk X.N X.env.scope scope own) (hi : PI X tg iter (tIt T fI))
    (hg : ∀ (s : Shared) (H : Hp) (C : Addr) (cl : List (Str × Addr)) (fp : List Addr), PG (X.blk s H scope (compEnvC scope cl C X.env) fp) tg (tTg T (own.map (·.2)) ft)) (ht : ∀ (s : Shared) (H : Hp) (C : Addr) (cl : List (Str × Addr)) (fp : List Addr), PTs (X.blk s H scope (compEnvC scope cl C X.env) fp) ifs (tDt T fc))
    (he : ∀ (s : Shared) (H : Hp) (C : Addr) (cl : List (Str × Addr)) (fp : List Addr), PE (X.blk s H scope (compEnvC scope cl C X.env) fp) elt (tD T fe)) (hy : X.N[i]? = some x := by rfl) (hyl : X.env.scope.names.lookup x = some .local := by rfl)
    (hsw : swapsWith (.ListComp elt [⟨tg, iter, ifs, 0⟩] scope pos) (some (.Name x py)) spos.line X.env = pure true := by rfl) (hs : ∀ x, foldedSetIterable iter X.env x = pure x := by intro _; rfl) :
    PS X (.Assign [.Name x py] (.ListComp elt [⟨tg, iter, ifs, 0⟩] scope pos) spos) (tSt T (sOwn i (fLc fI ft fc fe (own.map (·.2))))) := PS.imp (ps_setLc hc hN hy hyl hsw hi ok hg ht he hs) fun E σ H ⟨S0, δ, r, ok, e, q⟩ => by
  obtain ⟨d, δ', e1, e2⟩ := map_some2 e
  subst e2
  refine lc_reading ⟨S0, δ, d, δ', ok, e1, fun a vs H' ok' s ha r => ?_⟩
  obtain ⟨ok2, s2⟩ := ok'.storeOwn (i := i) ha r
  exact q _ _ ok2 (s.trans s2)
end
end Dl
namespace Dl
open PySem PySem.Spec PyProof.Rows L2 ClX
section
variable {X : Cx} {T : CT} {k n c : Nat} {f C : Addr} {fd : FuncData} {ps ks : List Str} {x m : Str} {p pos apos : Pos} {e o : Expr} {es : List Expr} {kws : List Keyword} {fa fk : FA} {fo fe fb : FE} {sp : Sp} {E : XK} {t tk : TA} {g : List Value → List Value → List Value} {gV : List V → List V → List V}
/-! ### items and lengths of what a name holds, be it its own list or a value -/
def fIxN (i : Nat) (fb : FE) : FE := fun δ => if isOwn δ[i]? = true then fIxO i fb δ else fBin gIx (fV i) fb δ
theorem PE.orr {e : Expr} {t u : TE} (h : PE X e t) (h' : PE X e u) : PE X e (fun σ H Q => t σ H Q ∨ u σ H Q) := ⟨fun pins s σ H Q I q => q.elim (h.run pins s σ H Q I) (h'.run pins s σ H Q I)⟩
theorem pd_ixN {i : Nat} {b : Expr} {y : Str} {py : Pos} (hb : PE X b (tD T fb)) (hs : PlainIx b := by exact fun _ _ => rfl) (hN : X.N[i]? = some y := by rfl) (hv : Vis X.env.scope y := by first | exact Or.inl rfl | exact Or.inr (Or.inl rfl) | exact Or.inr (Or.inr rfl))
    (hdy : (y == ("__debug__" : Str)) = false := by decide) (hcd : (y == ("__classdict__" : Str)) = false := by decide) : PE X (.Subscript (.Name y py) b pos) (tD T (fIxN i fb)) :=
  PE.imp (PE.orr (pd_ixO hb hs hN hv hdy hcd) (pd_ix (pd_v i hN hv hdy hcd) hb hs)) fun σ H Q ⟨S0, δ, d, δ', ok, e, q⟩ => by
    unfold fIxN at e
    by_cases h : isOwn δ[i]? = true
    · rw [if_pos h] at e; exact .inl ⟨S0, δ, d, δ', ok, e, q⟩
    · rw [if_neg h] at e; exact .inr ⟨S0, δ, d, δ', ok, e, q⟩
def fLenN (i : Nat) : FE := fun δ => if isOwn δ[i]? = true then fLenO i δ else fFun funLen (fCons (fV i) fNil) δ
theorem pd_lenN {i : Nat} {y : Str} {py : Pos} (hm : X.mg "len" = none) (hN : X.N[i]? = some y := by rfl) (hv : Vis X.env.scope y := by first | exact Or.inl rfl | exact Or.inr (Or.inl rfl) | exact Or.inr (Or.inr rfl)) (hdy : (y == ("__debug__" : Str)) = false := by decide) (hcd : (y == ("__classdict__" : Str)) = false := by decide) (hg : Gl X "len" := by rfl)
    (he : starEach [.Name y py] X.env = (false, eval (.Name y py) X.env) :: starEach [] X.env := by rfl) (hpl : (backTo pos (starEach [] X.env)).any (·.1) = false := by rfl) : PE X (.Call (.Name "len" p) [.Name y py] [] pos) (tD T (fLenN i)) :=
  PE.imp (PE.orr (pd_lenO hm hN hv hdy hcd hg he hpl) (pd_blt call_len_seq callv_len hm PySem.boot_len (pds_cons (pd_v i hN hv hdy hcd) pds_nil he) hg (by decide) (by decide) he hpl)) fun σ H Q ⟨S0, δ, d, δ', ok, e, q⟩ => by
    unfold fLenN at e
    by_cases h : isOwn δ[i]? = true
    · rw [if_pos h] at e; exact .inl ⟨S0, δ, d, δ', ok, e, q⟩
    · rw [if_neg h] at e; exact .inr ⟨S0, δ, d, δ', ok, e, q⟩
/-- divmod -/
def funDivmod : List D → Option D
  | [.int i, .int j] => if okDiv i j = true then some (.tup [.int (i / j), .int (i % j)]) else none
  | _ => none
theorem callv_divmod : CallV T (fun xs H Q => ∃ i j, xs = [.int i, .int j] ∧ CDivP i j ∧ ∀ p, H p = none → Q (.ref p) (upd H p (.tup [.int (i / j), .int (i % j)]))) funDivmod := by
  intro S ds vs H d Q tr r e q
  unfold funDivmod at e
  split at e
  · obtain ⟨h, e⟩ := ite_some e
    subst e
    rename_i i j
    unfold okDiv at h
    simp only [Bool.and_eq_true, decide_eq_true_eq] at h
    refine ⟨i, j, reps_int2 r, ⟨h.1, PyProof.noPylong_of_log2 (Nat.lt_of_lt_of_le (PySem.Flt.log2_lt_of (by decide) h.2) (by decide))⟩, fun p hp => ?_⟩
    have sm : Same H (upd H p (.tup [.int (i / j), .int (i % j)])) := fun b o e => by rw [upd_ne (ne_of_none e hp)]; exact e
    refine q _ _ sm ?_
    rw [Rep]
    exact ⟨p, _, rfl, upd_same, (fun z => by obtain ⟨o, e⟩ := tr p z; rw [hp] at e; cases e), Reps.cons (rep_lit rfl) (Reps.cons (rep_lit rfl) Reps.nil)⟩
  · cases e

/-! ### classmethods, classes as values -/
theorem run_cmG {pins : List (Addr × Obj)} {σ : L2.St} {H : Hp} {s : Shared} {Q : VK} {q h : Addr} {us ws : List Value} {vs zs : List V} (F : FnG X.prog X.w X.K X.mg X.base k h fd ps sp) (hq : Quiet X.A) (hr : Room k X.A) (hb : KBn X.K fd ps (n + 1) ks g gV)
    (I : Inv X ((q, PySem.W.methodObj (.ref h) (.ref C)) :: pins) σ H s) (r : Vals vs us) (rz : Vals zs ws) (l1 : vs.length = n) (l2 : zs.length = ks.length) (hsp : sp (gV (.ref C :: vs) zs) H Q E) : wpAny (model X.prog X.w) X.A (call (.ref q) us (ks.zip ws)) (EP X pins σ Q) X.xe s := by
  have r1 : Vals (V.ref C :: vs) (Value.ref C :: us) := .cons rfl r
  have z : wpAny (model X.prog X.w) X.A (call (.ref q) us (ks.zip ws)) (EP X ((q, PySem.W.methodObj (.ref h) (.ref C)) :: pins) σ Q) X.xe s := by
    refine wpAny_call (PySem.W.method_call (pin_at I) ?_)
    refine codeAny_mono (F.run X.A X.stack s H ⟨.ref C :: us, ks.zip ws⟩ (g (.ref C :: us) ws) (gV (.ref C :: vs) zs) Q E hq hr I.env0 (hb.to s _ ws I.kIn (r1.length.symm.trans (congrArg Nat.succ l1)) (rz.length.symm.trans l2)) (hb.rel r1 rz) hsp) fun z s' hz => ?_
    have e := endG I z s' hz
    match z, e with
    | .ok (.ret _), e => exact e
    | .error _, e => exact e
  exact thn z fun _ _ y => unpinE y
def tCMethN (C : Addr) (n j : Nat) (sp : Sp) (gV : List V → List V → List V) (E : XK) (ta : TE) (t tk : TA) : TE := fun σ H Q => ta σ H fun x H1 => x = .ref C ∧ t σ H1 fun vs H2 => tk σ H2 fun zs H3 => vs.length = n ∧ zs.length = j ∧ sp (gV (.ref C :: vs) zs) H3 Q E
theorem pe_cmethG {pl : Sem Bool} {ta : TE} {mc : Value} {q h : Addr} (ho : PE X o ta) (r : CRead X.K C mc) (cm : CMet X.K C mc m q h) (F : FnG X.prog X.w X.K X.mg X.base k h fd ps sp) (hq : Quiet X.A) (hr : Room k X.A) (hb : KBn X.K fd ps (n + 1) ks g gV) (ha : PA X (e :: es) t) (hkw : PK X kws tk)
    (hall : (backToKw pos (keywordEach kws X.env)).all (·.1.isSome) = true) (hks : (backToKw pos (keywordEach kws X.env)).filterMap (·.1) = ks) (he : starEach (e :: es) X.env = (false, eval e X.env) :: starEach es X.env)
    (hpl : ((backTo pos (starEach (e :: es) X.env)).any (·.1) || (backToKw pos (keywordEach kws X.env)).any (·.1.isNone)) = false)
    (ht : eval (.Call (.Attribute o m apos) (e :: es) kws pos) X.env = (do
      let y ← eval o X.env
      standAt apos.atName
      let (h, first) ← holding [y] (getMethod y m pl)
      callWith pos h first (backTo pos (starEach (e :: es) X.env)) (backToKw pos (keywordEach kws X.env)))) : PE X (.Call (.Attribute o m apos) (e :: es) kws pos) (tCMethN C n ks.length sp gV E ta t tk) := by
  refine ⟨fun pins s σ H Q I hw => ?_⟩
  refine PySem.W.methodCall_KW (pl := pl) (thn (ho.run pins s σ H _ I hw) fun u s1 ⟨x, H1, I1, rx, ex, q1⟩ => ?_) ht
  subst ex
  obtain rfl : u = Value.ref C := rx
  refine getmethcm_ok I1 r cm fun s2 I2 => ?_
  refine PySem.W.callWith_of hpl (PySem.W.keeps_M (K := X.K) (self := .ref C) cm.fi) (PyProof.Rows.evalArgs_kw2 hall (thn (ha.run pos _ s2 σ H1 _ I2 q1) ?_) he)
  rintro us s3 ⟨vs, H2, I3, r3, q3⟩
  refine thn (hkw.run pos _ s3 σ H2 _ I3 q3) ?_
  rintro ws s4 ⟨zs, H3, I4, rz, l1, l2, q4⟩
  refine ⟨⟨pin_at I4, I4.kIn⟩, ?_⟩
  rw [hks]
  exact run_cmG F hq hr hb I4 r3 rz l1 l2 q4
theorem pe_cmethG0 {pl : Sem Bool} {ta : TE} {mc : Value} {q h : Addr} (ho : PE X o ta) (r : CRead X.K C mc) (cm : CMet X.K C mc m q h) (F : FnG X.prog X.w X.K X.mg X.base k h fd ps sp) (hq : Quiet X.A) (hr : Room k X.A) (hb : KBn X.K fd ps (0 + 1) ks g gV) (hkw : PK X kws tk)
    (hall : (backToKw pos (keywordEach kws X.env)).all (·.1.isSome) = true) (hks : (backToKw pos (keywordEach kws X.env)).filterMap (·.1) = ks)
    (hpl : ((backTo pos (starEach [] X.env)).any (·.1) || (backToKw pos (keywordEach kws X.env)).any (·.1.isNone)) = false)
    (ht : eval (.Call (.Attribute o m apos) [] kws pos) X.env = (do
      let y ← eval o X.env
      standAt apos.atName
      let (h, first) ← holding [y] (getMethod y m pl)
      callWith pos h first (backTo pos (starEach [] X.env)) (backToKw pos (keywordEach kws X.env)))) : PE X (.Call (.Attribute o m apos) [] kws pos) (tCMethN C 0 ks.length sp gV E ta tNil tk) := by
  refine ⟨fun pins s σ H Q I hw => ?_⟩
  refine PySem.W.methodCall_KW (pl := pl) (thn (ho.run pins s σ H _ I hw) fun u s1 ⟨x, H1, I1, rx, ex, q1⟩ => ?_) ht
  subst ex
  obtain rfl : u = Value.ref C := rx
  refine getmethcm_ok I1 r cm fun s2 I2 => ?_
  refine PySem.W.callWith_of hpl (PySem.W.keeps_M (K := X.K) (self := .ref C) cm.fi) (PyProof.Rows.evalArgs_kw2_nil hall (thn (hkw.run pos _ s2 σ H1 _ I2 q1) ?_))
  rintro ws s4 ⟨zs, H3, I4, rz, l1, l2, q4⟩
  refine ⟨⟨pin_at I4, I4.kIn⟩, ?_⟩
  rw [hks]
  exact run_cmG (us := []) (vs := []) F hq hr hb I4 .nil rz l1 l2 q4
def fCM (c : Nat) (F : List D → Option D) (gD : List D → List D → List D) (fa fk : FA) : FE := fun δ => (fa δ).bind fun (ds, δ1) => (fk δ1).bind fun (es, δ2) => (F (gD (.cls c :: ds) es)).map fun d => (d, δ2)
theorem cm_imp {ns : List Str} {F : List D → Option D} {gD : List D → List D → List D} {j i : Nat} (hT : T c = some (C, ns)) (hl : LenA fa j) (hk : LenA fk i) (hn : ∀ ds es, ds.length = j + 1 → es.length = i → (gD ds es).length = n)
    (hG : ∀ (T : CT) (H : Hp) (S : Addr → Prop) (ds es : List D) (vs zs : List V), ds.length = j + 1 → es.length = i → Reps T H S ds vs → Reps T H S es zs → Reps T H S (gD ds es) (gV vs zs)) {σ : L2.St} {H : Hp} {Q : VK} (h : tD T (fCM c F gD fa fk) σ H Q) :
    tCMethN C j i (sp0 T n F) gV E (tC (.ref C)) (tDs T fa) (tDs T fk) σ H Q := by
  obtain ⟨S0, δ, d, δ', ok, e, q⟩ := h
  obtain ⟨ds, δ1, e1, e2⟩ := bind_some2 e
  obtain ⟨es, δ2, e3, e4⟩ := bind_some2 e2
  dsimp only at e4
  obtain ⟨d1, e5, e6⟩ := map_some1 e4
  cases e6
  refine ⟨rfl, S0, δ, ds, δ1, ok, e1, fun vs H1 ok1 s1 r1 => ⟨S0, δ1, es, δ', ok1, e3, fun zs H2 ok2 s2 r2 => ?_⟩⟩
  have r1' := s2.reps r1
  have l1 := hl _ _ _ e1
  have l2 := hk _ _ _ e3
  have rc : Rep T H2 (Av S0 σ δ') (.cls c) (.ref C) := by rw [Rep]; exact ⟨C, ns, hT, rfl⟩
  exact ⟨by rw [r1.length, l1], by rw [r2.length, l2], _, gD (.cls c :: ds) es, d, fun b z => ok2.trk z, hn _ _ (by rw [List.length_cons, l1]) l2, hG _ _ _ _ _ _ _ (by rw [List.length_cons, l1]) l2 (Reps.cons rc r1') r2, e5, fun v H' sm r => q v H' (ok2.same sm) ((s1.trans s2).trans (Step.same sm)) r⟩
theorem pd_cm {pl : Sem Bool} {ns : List Str} {F : List D → Option D} {gD : List D → List D → List D} {j : Nat} {mc : Value} {y : Str} {py : Pos} {q h : Addr} (hT : T c = some (C, ns)) (hmC : X.mg y = some (.ref C)) (r : CRead X.K C mc) (cm : CMet X.K C mc m q h) (G : FnG X.prog X.w X.K X.mg X.base k h fd ps (sp0 T n F)) (hq : Quiet X.A) (hr : Room k X.A) (hb : Bnd X.K fd ps (j + 1) ks gD)
    (ha : PA X (e :: es) (tDs T fa)) (hkw : PK X kws (tDs T fk)) (hn : ∀ ds es, ds.length = j + 1 → es.length = ks.length → (gD ds es).length = n := by intro ds es h1 h2; simp [gPos, h1, h2]) (hl : LenA fa j := by repeat (first | exact lenA_nil | refine lenA_cons ?_)) (hlk : LenA fk ks.length := by repeat (first | exact lenA_nil | refine lenA_cons ?_)) (hgl : Gl X y := by rfl) (hdb : (y == ("__debug__" : Str)) = false := by decide)
    (hall : (backToKw pos (keywordEach kws X.env)).all (·.1.isSome) = true := by rfl) (hks : (backToKw pos (keywordEach kws X.env)).filterMap (·.1) = ks := by rfl) (he : starEach (e :: es) X.env = (false, eval e X.env) :: starEach es X.env := by rfl)
    (hpl : ((backTo pos (starEach (e :: es) X.env)).any (·.1) || (backToKw pos (keywordEach kws X.env)).any (·.1.isNone)) = false := by rfl)
    (ht : eval (.Call (.Attribute (.Name y py) m apos) (e :: es) kws pos) X.env = (do
      let y ← eval (.Name y py) X.env
      standAt apos.atName
      let (h, first) ← holding [y] (getMethod y m pl)
      callWith pos h first (backTo pos (starEach (e :: es) X.env)) (backToKw pos (keywordEach kws X.env))) := by rfl) : PE X (.Call (.Attribute (.Name y py) m apos) (e :: es) kws pos) (tD T (fCM c F gD fa fk)) := by
  obtain ⟨g, gV, hb, hG⟩ := hb
  exact PE.imp (pe_cmethG (E := E0) (pe_glob (v := .ref C) hgl hmC rfl hdb) r cm G hq hr hb ha hkw hall hks he hpl ht) fun _ _ _ h => cm_imp hT hl hlk hn hG h
theorem pd_cm0 {pl : Sem Bool} {ns : List Str} {F : List D → Option D} {gD : List D → List D → List D} {mc : Value} {y : Str} {py : Pos} {q h : Addr} (hT : T c = some (C, ns)) (hmC : X.mg y = some (.ref C)) (r : CRead X.K C mc) (cm : CMet X.K C mc m q h) (G : FnG X.prog X.w X.K X.mg X.base k h fd ps (sp0 T n F)) (hq : Quiet X.A) (hr : Room k X.A) (hb : Bnd X.K fd ps (0 + 1) ks gD)
    (hkw : PK X kws (tDs T fk)) (hn : ∀ ds es, ds.length = 0 + 1 → es.length = ks.length → (gD ds es).length = n := by intro ds es h1 h2; simp [gPos, h1, h2]) (hlk : LenA fk ks.length := by repeat (first | exact lenA_nil | refine lenA_cons ?_)) (hgl : Gl X y := by rfl) (hdb : (y == ("__debug__" : Str)) = false := by decide)
    (hall : (backToKw pos (keywordEach kws X.env)).all (·.1.isSome) = true := by rfl) (hks : (backToKw pos (keywordEach kws X.env)).filterMap (·.1) = ks := by rfl)
    (hpl : ((backTo pos (starEach [] X.env)).any (·.1) || (backToKw pos (keywordEach kws X.env)).any (·.1.isNone)) = false := by rfl)
    (ht : eval (.Call (.Attribute (.Name y py) m apos) [] kws pos) X.env = (do
      let y ← eval (.Name y py) X.env
      standAt apos.atName
      let (h, first) ← holding [y] (getMethod y m pl)
      callWith pos h first (backTo pos (starEach [] X.env)) (backToKw pos (keywordEach kws X.env))) := by rfl) : PE X (.Call (.Attribute (.Name y py) m apos) [] kws pos) (tD T (fCM c F gD fNil fk)) := by
  obtain ⟨g, gV, hb, hG⟩ := hb
  refine PE.imp (pe_cmethG0 (E := E0) (pe_glob (v := .ref C) hgl hmC rfl hdb) r cm G hq hr hb hkw hall hks hpl ht) fun σ H Q h => ?_
  obtain ⟨ex, S0, δ, d, δ1, ok, e1, q1⟩ := cm_imp hT lenA_nil hlk hn hG h
  cases e1
  exact ⟨ex, q1 [] H ok Step.refl Reps.nil⟩
end
end Dl
namespace Dl
open PySem PySem.Spec PyProof.Rows L2 ClX
section
variable {X : Cx} {T : CT} {k n c : Nat} {f C : Addr} {fd : FuncData} {ps ks : List Str} {x m : Str} {p pos apos : Pos} {e o : Expr} {es : List Expr} {kws : List Keyword} {fa fk : FA} {fo fe fb : FE} {sp : Sp} {E : XK} {t tk : TA} {g : List Value → List Value → List Value} {gV : List V → List V → List V}
/-! ### a class that a local name holds is called -/
theorem pe_makeL {i : Nat} (M : Mk X.K C f) (F : FnG X.prog X.w X.K X.mg X.base k f fd ps sp) (hq : Quiet X.A) (hr : Room (k + 1) X.A) (hN : X.N[i]? = some x) (hv : Vis X.env.scope x) (hb : KBn X.K fd ps (n + 1) ks g gV) (ha : PA X (e :: es) t) (hkw : PK X kws tk)
    (hall : (backToKw pos (keywordEach kws X.env)).all (·.1.isSome) = true) (hks : (backToKw pos (keywordEach kws X.env)).filterMap (·.1) = ks) (hdb : (x == ("__debug__" : Str)) = false) (hcd : (x == ("__classdict__" : Str)) = false) (he : starEach (e :: es) X.env = (false, eval e X.env) :: starEach es X.env)
    (hpl : ((backTo pos (starEach (e :: es) X.env)).any (·.1) || (backToKw pos (keywordEach kws X.env)).any (·.1.isNone)) = false) : PE X (.Call (.Name x p) (e :: es) kws pos) (fun σ H Q => σ[i]? = some (some (.ref C)) ∧ tMakeN C n ks.length sp gV E t tk σ H Q) := by
  refine ⟨fun pins s σ H Q I h => ?_⟩
  obtain ⟨hs, h⟩ := h
  refine wpAny_Call_Name_kw (thn ((pe_var (pos := p) hN hv hdb hcd).run pins s σ H (fun v H1 => v = .ref C ∧ H1 = H) I ⟨.ref C, hs, rfl, rfl⟩) fun u s1 ⟨v, H1, I1, r1, q1⟩ => ?_)
  obtain ⟨rfl, rfl⟩ := q1
  cases r1
  refine PySem.W.callWith_KW (h₀ := X.base) I.ok.mod.kin M.kp hall (thn (ha.run pos pins s1 σ _ _ I1 h) ?_) hpl he
  rintro us s2 ⟨vs, H2, I2, r, q⟩
  refine thn (hkw.run pos pins s2 σ H2 _ I2 q) ?_
  rintro ws s3 ⟨zs, H3, I3, rz, l1, l2, q2⟩
  refine ⟨I3.kIn, ?_⟩
  rw [hks]
  exact run_makeG M F hq hr hb I3 r rz l1 l2 q2
def fMakeL (i c : Nat) (F : List D → Option (List D)) (gD : List D → List D → List D) (fa fk : FA) : FE := fun δ => match δ[i]? with
  | some (.val (.cls c')) => if c' = c then fMake c F gD fa fk δ else none
  | _ => none
theorem pd_makeL {i : Nat} {ns : List Str} {F : List D → Option (List D)} {gD : List D → List D → List D} {ks : List Str} {kws : List Keyword} {fk : FA} {j : Nat} (hT : T c = some (C, ns)) (M : Mk X.K C f) (G : FnG X.prog X.w X.K X.mg X.base k f fd ps (spI T c n F)) (hq : Quiet X.A) (hr : Room (k + 1) X.A) (hb : BndI X.K fd ps j ks gD)
    (ha : PA X (e :: es) (tDs T fa)) (hkw : PK X kws (tDs T fk)) (hn : ∀ ds es, ds.length = j → es.length = ks.length → (gD ds es).length = n := by intro ds es h1 h2; simp [gPos, h1, h2]) (hl : LenA fa j := by repeat (first | exact lenA_nil | refine lenA_cons ?_)) (hlk : LenA fk ks.length := by repeat (first | exact lenA_nil | refine lenA_cons ?_)) (hN : X.N[i]? = some x := by rfl)
    (hv : Vis X.env.scope x := by first | exact Or.inl rfl | exact Or.inr (Or.inl rfl) | exact Or.inr (Or.inr rfl)) (hall : (backToKw pos (keywordEach kws X.env)).all (·.1.isSome) = true := by rfl) (hks : (backToKw pos (keywordEach kws X.env)).filterMap (·.1) = ks := by rfl) (hdb : (x == ("__debug__" : Str)) = false := by decide) (hcd : (x == ("__classdict__" : Str)) = false := by decide)
    (he : starEach (e :: es) X.env = (false, eval e X.env) :: starEach es X.env := by rfl) (hpl : ((backTo pos (starEach (e :: es) X.env)).any (·.1) || (backToKw pos (keywordEach kws X.env)).any (·.1.isNone)) = false := by rfl) : PE X (.Call (.Name x p) (e :: es) kws pos) (tD T (fMakeL i c F gD fa fk)) := by
  obtain ⟨g, gV, hb, hV, hx, hG⟩ := hb
  refine PE.imp (pe_makeL (i := i) (E := E0) M G hq hr hN hv hb ha hkw hall hks hdb hcd he hpl) fun σ H Q ⟨S0, δ, d, δ', ok, e, q⟩ => ?_
  unfold fMakeL at e
  split at e
  · rename_i c' hc'
    by_cases hcc : c' = c
    · subst hcc
      rw [if_pos rfl] at e
      obtain ⟨v, e1, r⟩ := ok.sl i _ hc'
      rw [Rep] at r
      obtain ⟨C', ns', hT', rfl⟩ := r
      rw [hT] at hT'; cases hT'
      exact ⟨e1, make_imp hT hl hlk hn hx hG ⟨S0, δ, d, δ', ok, e, q⟩⟩
    · rw [if_neg hcc] at e; cases e
  · cases e
/-- one value of several kinds of callee -/
def fOrE (f g : FE) : FE := fun δ => match f δ with
  | some r => some r
  | none => g δ
theorem PE.fOr {e : Expr} {f g : FE} (h : PE X e (tD T f)) (h' : PE X e (tD T g)) : PE X e (tD T (fOrE f g)) := PE.imp (PE.orr h h') fun σ H Q ⟨S0, δ, d, δ', ok, e, q⟩ => by
  unfold fOrE at e
  cases z : f δ with
  | some r => rw [z] at e; cases e; exact .inl ⟨S0, δ, d, δ', ok, z, q⟩
  | none => rw [z] at e; exact .inr ⟨S0, δ, d, δ', ok, e, q⟩
end
/-! ### a promise whose function is what the body's function tells -/
def outD (m : Nat) (g : FS) (ds : List D) : Option D := (g (ini m ds)).bind endD
def outP (m : Nat) (g : FS) (xs ds : List D) : Option (D × List D) := (g (.own .pot xs :: ini (m - 1) ds)).bind endP
section
variable {P : Program} {w : World} {K : PySem.W.Frag} {mg : Str → Option Value} {base : Heap} {T : CT}
theorem ok0' {x qual : Str} {st : Stmt} {f : Addr} {fd : FuncData} {N ps : List Str} {k m n : Nat} {g : FS} (F : Fun K x qual st f fd) (S : FnScope N ps (defScope st)) (hN : N.length = m) (hps : ps.length = n)
    (body : ∀ (cdv : Value) (A : Around) (outer : List PySem.Env) (s : Shared) (H : Hp) (E : XK), Quiet A → Room k (A.deeper (envOfC qual (defScope st) s.heap.objs.size f cdv)) → PSs (cxOf CX0 P w K mg base N qual (defScope st) f cdv A outer s H E).nox (defBody st) (tSt T g)) : FnG P w K mg base (k + 1) f fd ps (sp0 T n (outD m g)) := by
  subst hN hps
  exact ok0 (outD N.length g) F S body fun ds d _ h => by
    unfold outD at h
    obtain ⟨r, e1, e2⟩ := bind_some1 h
    exact ⟨r, e1, e2⟩
theorem ok1' {x qual : Str} {st : Stmt} {f : Addr} {fd : FuncData} {N ps : List Str} {k m n : Nat} {g : FS} (F : Fun K x qual st f fd) (S : FnScope N ps (defScope st)) (hN : N.length = m) (hn : ps.length = n + 1)
    (body : ∀ (cdv : Value) (A : Around) (outer : List PySem.Env) (s : Shared) (H : Hp) (E : XK), Quiet A → Room k (A.deeper (envOfC qual (defScope st) s.heap.objs.size f cdv)) → PSs (cxOf CX0 P w K mg base N qual (defScope st) f cdv A outer s H E).nox (defBody st) (tSt T g)) : FnG P w K mg base (k + 1) f fd ps (sp1 T n (outP m g)) := by
  subst hN
  exact ok1 (outP N.length g) F S hn body fun xs ds d xs' _ h => by
    unfold outP at h
    obtain ⟨r, e1, e2⟩ := bind_some1 h
    exact ⟨r, e1, e2⟩
end
end Dl
namespace Dl
open PySem PySem.Spec PyProof.Rows L2 ClX
/-! ### + of ints, texts, lists; own reflected operators -/
def gAdd0 : D → D → Option D := gOr (gI0 fun i j => .int (i + j)) (gOr gCatS gCatL)
def rAdd0 : R2 := fun x y H Q => (rI0 fun i j => .int (i + j)) x y H Q ∨ ((fun x y H Q => ∃ i j, x = .str i ∧ y = .str j ∧ i.length + j.length ≤ sizeLine ∧ Q (.str (i ++ j)) H) x y H Q ∨ rCat x y H Q)
section
variable {X : Cx} {T : CT} {k : Nat} {f C : Addr} {fd : FuncData} {ps : List Str} {sp : Sp} {E : XK}
theorem op_add0 : OpR X (binaryOp .Add) rAdd0 := OpR.or op_add (OpR.or op_add_str op_cat)
theorem opv_add0 : OpV T rAdd0 gAdd0 := OpV.or opv_add (OpV.or opv_catS opv_catL)
def CDivNW (_ j : Int) : Prop := j ≠ 0 ∧ j.natAbs.log2 < 9000
def okDivN (_ j : Int) : Bool := decide (j ≠ 0) && decide (j.natAbs < 2 ^ 4000)
theorem op_fdivNW : OpR X (binaryOp .FloorDiv) (rI CDivNW fun i j => .int (i.fdiv j)) := opI fun _ _ _ _ _ _ _ hc q => floordiv_int hc.1 q (.inl (PyProof.noPylong_of_log2 hc.2))
theorem opv_fdiv : OpV T (rI CDivNW fun i j => .int (i.fdiv j)) (gI okDivN fun i j => .int (i.fdiv j)) := opv_I (fun i j h => by
  unfold okDivN at h
  simp only [Bool.and_eq_true, decide_eq_true_eq] at h
  exact ⟨h.1, Nat.lt_of_lt_of_le (PySem.Flt.log2_lt_of (by decide) h.2) (by decide)⟩) fun _ _ => rfl
/-- len, of a text too -/
def funLenS : List D → Option D
  | [.str z] => if z.length ≤ big then some (.int z.length) else none
  | _ => none
theorem callv_lenS : CallV T (fun xs H Q => ∃ z, xs = [.str z] ∧ z.length ≤ sizeLine ∧ Q (.int z.length) H) funLenS := by
  intro S ds vs H d Q tr r e q
  unfold funLenS at e
  split at e
  · obtain ⟨h, e⟩ := ite_some e
    subst e
    rw [Reps] at r
    obtain ⟨v, r2, rfl, h1, h2⟩ := r
    rw [Reps] at h2; subst h2
    exact ⟨_, by rw [rep_str h1], big_line h, q _ H (Same.refl _) (rep_lit rfl)⟩
  · cases e
theorem op_radd (w : OwnRev X.K C .Add f "int.__add__" Builtin.«int.__add__») (F : FnG X.prog X.w X.K X.mg X.base k f fd ps sp) (hqt : Quiet X.A) (hr : Room k X.A) (hb : Binds X.K fd ps []) (hn : ps.length = 2) : OpR X (binaryOp .Add) (rOwnR C sp E) :=
  op_ownR w F hqt hr hb hn PySem.F.fills_int_add PySem.F.slot_int_add PySem.F.entry_int_add (fun _ _ => PySem.F.args_int_add_2 _ _) fun b t y dx => OwB.int_add_dec b t y C dx
theorem op_rsub (w : OwnRev X.K C .Sub f "int.__sub__" Builtin.«int.__sub__») (F : FnG X.prog X.w X.K X.mg X.base k f fd ps sp) (hqt : Quiet X.A) (hr : Room k X.A) (hb : Binds X.K fd ps []) (hn : ps.length = 2) : OpR X (binaryOp .Sub) (rOwnR C sp E) :=
  op_ownR w F hqt hr hb hn PySem.F.fills_int_sub PySem.F.slot_int_sub PySem.F.entry_int_sub (fun _ _ => PySem.F.args_int_sub_2 _ _) fun b t y dx => OwB.int_sub_dec b t y C dx
theorem op_rmul (w : OwnRev X.K C .Mult f "int.__mul__" Builtin.«int.__mul__») (F : FnG X.prog X.w X.K X.mg X.base k f fd ps sp) (hqt : Quiet X.A) (hr : Room k X.A) (hb : Binds X.K fd ps []) (hn : ps.length = 2) : OpR X (binaryOp .Mult) (rOwnR C sp E) :=
  op_ownR w F hqt hr hb hn PySem.F.fills_int_mul PySem.F.slot_int_mul PySem.F.entry_int_mul (fun _ _ => PySem.F.args_int_mul_2 _ _) fun b t y dx => OwB.int_mul_dec b t y C dx
end
end Dl
namespace Dl
open PySem PySem.Spec PyProof.Rows L2 ClX
section
variable {X : Cx} {T : CT}
theorem CallR.orr {f : Value} {r r' : List V → Hp → VK → Prop} (h : CallR X f r) (h' : CallR X f r') : CallR X f (fun xs H Q => r xs H Q ∨ r' xs H Q) := by
  intro pins s σ H xs us Q I rr hq
  rcases hq with hq | hq
  · exact h pins s σ H xs us Q I rr hq
  · exact h' pins s σ H xs us Q I rr hq
theorem UnR.orr {f : Value → Sem Value} {r r' : V → Hp → VK → Prop} (h : UnR X f r) (h' : UnR X f r') : UnR X f (fun x H Q => r x H Q ∨ r' x H Q) := by
  intro pins s σ H x v Q I rr hq
  rcases hq with hq | hq
  · exact h pins s σ H x v Q I rr hq
  · exact h' pins s σ H x v Q I rr hq
def uOr (g g' : D → Option D) : D → Option D := fun x => match g x with
  | some d => some d
  | none => g' x
theorem UnV.or {r r' : V → Hp → VK → Prop} {g g' : D → Option D} (h : UnV T r g) (h' : UnV T r' g') : UnV T (fun x H Q => r x H Q ∨ r' x H Q) (uOr g g') := by
  intro S x v H d Q tr rx e q
  unfold uOr at e
  cases z : g x with
  | some d' => rw [z] at e; cases e; exact .inl (h S x v H d Q tr rx z q)
  | none => rw [z] at e; exact .inr (h' S x v H d Q tr rx e q)
end
end Dl
namespace Dl
open PySem PySem.Spec PyProof.Rows L2 ClX
/-! ### the law's script -/
def ScK (K : PySem.W.Frag) (T : CT) : Prop := ∀ a ns, T.sc a ns → ∀ H, SqL K H a (ns.map V.int)
section
variable {X : Cx} {T : CT} {k n c : Nat} {f C : Addr} {fd : FuncData} {ps ks : List Str} {x m : Str} {p pos apos : Pos} {e o : Expr} {es : List Expr} {kws : List Keyword} {fa fk : FA} {fo fe fb : FE}
theorem scr_sql {K : PySem.W.Frag} {H : Hp} {S : Addr → Prop} {ns : List Int} {v : V} (hS : ScK K T) (r : Rep T H S (.scr ns) v) : ∃ a, v = .ref a ∧ SqL K H a (ns.map V.int) := by
  rw [Rep] at r
  obtain ⟨a, e, h | ⟨o, ha, _⟩⟩ := r
  · exact ⟨a, e, hS a ns h H⟩
  · exact ⟨a, e, .inl (.inr ⟨o, ha⟩)⟩
theorem atI_map {α β : Type} (g : α → β) (xs : List α) (i : Int) : atI (xs.map g) i = (atI xs i).map g := by
  unfold atI
  rw [List.length_map]
  cases ixN xs.length i with
  | none => rfl
  | some j => simp
def gIxS : D → D → Option D
  | .scr ns, .int i => (atI ns i).map D.int
  | _, _ => none
theorem opv_ixS {K : PySem.W.Frag} (hS : ScK K T) : OpV T (rIxL K) gIxS := by
  intro S x y vx vy H d Q tr rx ry e q
  unfold gIxS at e
  split at e
  · obtain ⟨j, e1, e2⟩ := map_some1 e
    subst e2
    obtain ⟨a, rfl, h⟩ := scr_sql hS rx
    exact ⟨a, _, _, .int j, rfl, rep_int ry, h, by rw [atI_map, e1]; rfl, q _ H (Same.refl _) (rep_lit rfl)⟩
  · cases e
theorem pd_ixS {a b : Expr} (hS : ScK X.K T) (ha : PE X a (tD T fo)) (hb : PE X b (tD T fb)) (hs : PlainIx b := by exact fun _ _ => rfl) : PE X (.Subscript a b pos) (tD T (fBin gIxS fo fb)) := PE.imp (pe_ix ix_list ha hb hs) fun _ _ _ h => bin_imp (opv_ixS hS) h
def funLenR : List D → Option D
  | [.scr ns] => some (.int ns.length)
  | _ => none
theorem callv_lenR {K : PySem.W.Frag} (hS : ScK K T) : CallV T (fun xs H Q => ∃ p ys, xs = [.ref p] ∧ (SqL K H p ys ∨ SqT K H p ys) ∧ Q (.int ys.length) H) funLenR := by
  intro S ds vs H d Q tr r e q
  unfold funLenR at e
  split at e
  · cases e
    rw [Reps] at r
    obtain ⟨v, r2, rfl, h1, h2⟩ := r
    rw [Reps] at h2; subst h2
    obtain ⟨a, rfl, h⟩ := scr_sql hS h1
    exact ⟨a, _, rfl, .inl h, q _ H (Same.refl _) (rep_lit (by rw [List.length_map]; rfl))⟩
  · cases e

/-! ### a def that returns a new list -/
/-- a body's end: a new list is returned -/
def tSF (T : CT) (f : FA) : TS := fun E σ H => ∃ S0 δ ds δ', Ok T S0 σ δ H ∧ f δ = some (ds, δ') ∧ ∀ a vs σ' H1, Ok T S0 σ' δ' H1 → Step σ δ H σ' δ' H1 → H1 a = none → Reps T H1 (Av S0 σ' δ') ds vs → E.rt (.ref a) (upd H1 a (.lst vs))
theorem sts_retF {f : FA} (h : PE X e (tF T f)) : PSs X [.Return (some e) pos] (tSF T f) := PSs.imp (pss_one (ps_ret h)) fun E σ H ⟨S0, δ, ds, δ', ok, e, q⟩ => ⟨S0, δ, ds, δ', ok, e, fun a vs H1 ok1 s1 ha r => q a vs σ H1 ok1 s1 ha r⟩
def sSeqF (g : FS) (f : FA) : FA := fun δ => (g δ).bind fun r => match r with
  | .nx δ1 => f δ1
  | _ => none
theorem sts_consF {st : Stmt} {rest : List Stmt} {g : FS} {f : FA} (h1 : PS X st (tSt T g)) (h2 : PSs X rest (tSF T f)) : PSs X (st :: rest) (tSF T (sSeqF g f)) := PSs.imp (pss_cons h1 h2) fun E σ H ⟨S0, δ, ds, δ', ok, e, q⟩ => by
  obtain ⟨r, e1, e2⟩ := bind_some1 e
  refine ⟨S0, δ, r, ok, e1, ?_⟩
  cases r with
  | nx δ1 => exact fun σ1 H1 ok1 s1 => ⟨S0, δ1, ds, δ', ok1, e2, fun a vs σ' H2 ok2 s2 ha r => q a vs σ' H2 ok2 (s1.trans s2) ha r⟩
  | bk δ1 => cases e2
  | ct δ1 => cases e2
  | rt d δ1 => cases e2
def spF (T : CT) (n : Nat) (F : List D → Option (List D)) : Sp := fun vs H Q _ => ∃ S ds xs, (∀ b, S b → ∃ o, H b = some o) ∧ ds.length = n ∧ Reps T H S ds vs ∧ F ds = some xs ∧ ∀ a us H1, Same H H1 → H1 a = none → Reps T H1 S xs us → Q (.ref a) (upd H1 a (.lst us))
def outF (m : Nat) (g : FA) (ds : List D) : Option (List D) := (g (ini m ds)).map (·.1)
def fCallF (F : List D → Option (List D)) (fa : FA) : FA := fun δ => (fa δ).bind fun (ds, δ1) => (F ds).map fun xs => (xs, δ1)
theorem pf_call {F : List D → Option (List D)} (G : FnG X.prog X.w X.K X.mg X.base k f fd ps (spF T n F)) (hq : Quiet X.A) (hr : Room k X.A) (hm : X.mg x = some (.ref f)) (hk : PySem.W.keepIn X.K (.ref f) = true) (hb : Binds X.K fd ps []) (hps : ps.length = n)
    (ha : PA X (e :: es) (tDs T fa)) (hl : LenA fa n := by repeat (first | exact lenA_nil | refine lenA_cons ?_)) (hg : Gl X x := by rfl) (hdb : (x == ("__debug__" : Str)) = false := by decide) (he : starEach (e :: es) X.env = (false, eval e X.env) :: starEach es X.env := by rfl)
    (hpl : ((backTo pos (starEach (e :: es) X.env)).any (·.1) || (backToKw pos (keywordEach [] X.env)).any (·.1.isNone)) = false := by rfl) : PE X (.Call (.Name x p) (e :: es) [] pos) (tF T (fCallF F fa)) := PE.imp (pe_callG (E := E0) G hq hr hm hk (kbn_pos hb hps) ha pk_nil hg rfl rfl hdb he hpl) fun σ H Q ⟨S0, δ, xs, δ', ok, e, q⟩ => by
  obtain ⟨ds, δ1, e1, e2⟩ := bind_some2 e
  obtain ⟨xs', e3, e4⟩ := map_some1 e2
  cases e4
  refine ⟨S0, δ, ds, δ', ok, e1, fun vs H1 ok1 s1 r1 => ?_⟩
  have l1 := hl _ _ _ e1
  exact ⟨by rw [r1.length, l1], rfl, Av S0 σ δ', ds, xs, fun b z => ok1.trk z, l1, r1, e3, fun a us H2 sm ha rs => q a us H2 (ok1.same sm) (s1.trans (Step.same sm)) ha rs⟩
end
section
variable {P : Program} {w : World} {K : PySem.W.Frag} {mg : Str → Option Value} {base : Heap} {T : CT}
theorem okF {x qual : Str} {st : Stmt} {f : Addr} {fd : FuncData} {N ps : List Str} {k m n : Nat} {g : FA} (F : Fun K x qual st f fd) (S : FnScope N ps (defScope st)) (hN : N.length = m) (hps : ps.length = n)
    (body : ∀ (cdv : Value) (A : Around) (outer : List PySem.Env) (s : Shared) (H : Hp) (E : XK), Quiet A → Room k (A.deeper (envOfC qual (defScope st) s.heap.objs.size f cdv)) → PSs (cxOf CX0 P w K mg base N qual (defScope st) f cdv A outer s H E).nox (defBody st) (tSF T g)) : FnG P w K mg base (k + 1) f fd ps (spF T n (outF m g)) := by
  subst hN hps
  obtain ⟨oc, od, kV, doc, pm, an, cdv, ct, osl, rfl, lk, hcd⟩ := F.ex
  refine fnG_of lk hcd S (fun vs H Q E h => ?_) (fun A outer s H vs Q E hq hr h => ?_)
  · obtain ⟨S, ds, d, _, hl, r, _⟩ := h
    rw [r.length, hl]
  · obtain ⟨S, ds, xs, tr, hl, r, eG, q⟩ := h
    unfold outF at eG
    obtain ⟨z, e1, e2⟩ := map_some1 eG
    obtain ⟨ys, δ'⟩ := z
    cases e2
    refine ⟨_, body cdv A outer s H E hq hr, S, ini N.length ds, _, δ', ini_ok tr r, e1, fun a us σ' H1 ok1 s1 ha rs => ?_⟩
    exact q a us H1 (fun b o e => s1.keep b o e (ini_own b)) ha (rs.sub fun b z => .inl z)

/-! ### the head: the law's promise at the heap behind the top -/
/-- the lists of ints that K has -/
def scOf (K : PySem.W.Frag) : Addr → List Int → Prop := fun a ns => ∀ H, SqL K H a (ns.map V.int)
/-- at most one address is tracked, and K has nothing there -/
def Lone (K : PySem.W.Frag) (H : Hp) (l : Addr) : Prop := ∀ c u, H c = some u → c = l ∧ K.lookup l = none
/-- the state behind the top, seen with the script alone in the tracked heap -/
theorem head_env {t : Shared} {bm : Str → Option Value} {H : Hp} {l : Addr} {ob : Obj} (one : Lone K H l) (hob : t.heap.get? l = some ob) (nd : ∀ es ep, ob.data ≠ .dict es ep) (kin : K.In t.heap) (gl : t.heap.Ns mainGlobals mg) (bl : t.heap.Ns builtinsNs bm)
    (bb : ∀ y : Str, y ≠ "__name__" → bm y = bootBuiltins y) (nl : t.heap.NoLimit) (gn : t.gens = #[]) (ok : HOk P w H t.heap) :
    K.In (hidT t.heap H) ∧ (hidT t.heap H).Ns mainGlobals mg ∧ Env0 P w K mg (hidT t.heap H) callerA [] t H := by
  have free : ∀ {c : Addr}, (c = l → K.lookup l = none → False) → H c = none := fun {c} no => by
    cases hc : H c with
    | none => rfl
    | some u => exact (no (one c u hc).1 (one c u hc).2).elim
  have keepNs : ∀ {c : Addr} {mm : Str → Option Value}, t.heap.Ns c mm → (hidT t.heap H).Ns c mm := by
    rintro c mm ⟨od, es, ep, h1, h2, h3⟩
    refine ⟨od, es, ep, hidT_get h1 (free fun z _ => ?_), h2, h3⟩
    rw [z, hob] at h1
    cases h1
    exact nd _ _ h2
  have kin' : K.In (hidT t.heap H) := fun c od hc => hidT_get (kin c od hc) (free fun z1 z2 => by rw [z1, z2] at hc; cases hc)
  obtain ⟨lm, n1, n2⟩ := nl
  refine ⟨kin', keepNs gl, rfl, ⟨kin', keepNs gl, ⟨bm, keepNs bl, bb⟩, lm, keepNs n1, n2⟩, fun c od hc => of_hidT hc, Nat.le_of_eq (hidT_size _ _), trivial, ?_, ok, .of_eq gn⟩
  intro c hc
  cases hc
/-- the law's call at the heap behind the top: where its function tells True, it returns True and leaves what stood as it stood -/
theorem law_callG {fa a : Addr} {fd : FuncData} {x : Str} {k : Nat} {G : List D → Option D} {bm : Str → Option Value} {t : Shared} {us : List Value} {ns : List Int} (hT : T.sc = scOf K) (kin : K.In t.heap) (gl : t.heap.Ns mainGlobals mg) (bl : t.heap.Ns builtinsNs bm)
    (bb : ∀ y : Str, y ≠ "__name__" → bm y = bootBuiltins y) (nl : t.heap.NoLimit) (gn : t.gens = #[]) (hob : t.heap.get? a = some { cls := .type "list", data := .seq us.toArray }) (hi : IntsAre us ns) (hl : ns.length ≤ sizeLine) (hr : Room k callerA) (hqc : Quiet callerA)
    (F : ∀ base : Heap, K.In base → base.Ns mainGlobals mg → FnG P w K mg base k fa fd [x] (sp0 T 1 G)) (hbind : ∀ (s : Shared) (u : Value), BindsTo s fd ⟨[u], []⟩ [(x, u)]) (hG : G [.scr ns] = some (.bl true)) :
    codeAny (model P w) callerA (.call (.ref fa) ⟨[.ref a], []⟩) (fun r t' => r = .ok (.ret (.bool true)) ∧ OldK t.heap t'.heap ∧ t'.os = t.os ∧ AllBare t'.gens) t := by
  have vis := vals_ints hi
  have nlen := hi.length
  -- whatever is tracked: nothing, or the script's list as it stands
  have go : ∀ H : Hp, (∀ c u, H c = some u → u = .frz { cls := .type "list", data := .seq us.toArray } (.lst (ns.map V.int))) → Lone K H a → Rep T H (fun _ => False) (.scr ns) (.ref a) →
      codeAny (model P w) callerA (.call (.ref fa) ⟨[.ref a], []⟩) (fun r t' => r = .ok (.ret (.bool true)) ∧ OldK t.heap t'.heap ∧ t'.os = t.os ∧ AllBare t'.gens) t := fun H what one rs => by
    have ok : HOk P w H t.heap := fun c u hc => by
      rw [what c u hc, (one c u hc).1]
      exact ⟨hob, by simpa using hl, us, _, vis, hob⟩
    obtain ⟨k1, k2, env⟩ := head_env (P := P) (w := w) one hob (fun _ _ z => nomatch z) kin gl bl bb nl gn ok
    have told : sp0 T 1 G [.ref a] H (fun v _ => v = .bl true) E0 := ⟨_, [.scr ns], _, fun _ z => z.elim, rfl, Reps.cons rs Reps.nil, hG, fun _ _ _ r => rep_bl r⟩
    have run := (F _ k1 k2).run callerA [] t H ⟨[.ref a], []⟩ [.ref a] [.ref a] _ _ hqc hr env (hbind t _) (.cons rfl .nil) told
    refine codeAny_mono run fun r t' e => ?_
    match r, e with
    | .ok (.ret y), ⟨v, H', os, bare, un, ok', ry, hv⟩ =>
      cases hv
      cases (show y = Value.bool true from ry)
      refine ⟨rfl, .of_keep fun c od hc => ?_, os, bare⟩
      cases hH : H c with
      | none => exact un.keep c od hc hH (fun z => by cases z) (fun z => by cases z)
      | some u =>
        have e1 := what c u hH
        subst e1
        have o1 : t.heap.get? c = some _ := (ok c _ hH).1
        have o2 : t'.heap.get? c = some _ := (ok' c _ (un.frzs c _ _ hH)).1
        rw [o1] at hc
        cases hc
        exact o2
    | .ok .next, e => exact (e : False).elim
    | .ok .brk, e => exact (e : False).elim
    | .ok .cont, e => exact (e : False).elim
    | .error _, e => exact (e : False).elim
  by_cases own : K.lookup a = none
  · refine go (fun c => if c = a then some (.frz { cls := .type "list", data := .seq us.toArray } (.lst (ns.map V.int))) else none) (fun c u hc => ?_) (fun c u hc => ?_) ?_
    · try dsimp only at hc
      split at hc
      · exact (Option.some.inj hc).symm
      · cases hc
    · try dsimp only at hc
      split at hc
      · exact ⟨by assumption, own⟩
      · cases hc
    · rw [Rep]
      exact ⟨a, rfl, .inr ⟨_, if_pos rfl, id⟩⟩
  · obtain ⟨od, hod⟩ := Option.ne_none_iff_exists'.mp own
    have same := kin a od hod
    rw [hob] at same
    cases same
    refine go (fun _ => none) (fun _ _ z => nomatch z) (fun _ _ z => nomatch z) ?_
    rw [Rep, hT]
    exact ⟨a, rfl, .inl fun H => .inr ⟨_, us.toArray, _, hod, rfl, rfl, rfl, by rw [List.size_toArray, nlen]; exact hl, by simpa using vis⟩⟩
end
theorem walk_G {l : PySem.W.OpenLaw} {n k : Nat} {q : Program} {loose : List Str} {XP : (Str → Option Value) → Heap → Prop} {YP : World → Heap → Prop} {d : DefRec} {K : Params → PySem.W.Frag} {G : List D → Option D} {x : Str}
    (hn : l.most = some n) (hn2 : n ≤ sizeLine) (hdf : d.params.defaults = []) (hr : Room k callerA) (hqc : Quiet callerA)
    (hY : ∀ (w : World) (h : Heap), YP w h → (K w.params).In h)
    (F : ∀ (w : World) (mg : Str → Option Value) (fa : Addr) (h : Heap), (K w.params).In h → h.Ns mainGlobals mg → mg d.name = some (.ref fa) →
      ∃ (fd : FuncData) (T : CT), T.sc = scOf (K w.params) ∧ (∀ (s : Shared) (u : Value), BindsTo s fd ⟨[u], []⟩ [(x, u)]) ∧
        ∀ base : Heap, (K w.params).In base → base.Ns mainGlobals mg → FnG l.prog w (K w.params) mg base k fa fd [x] (sp0 T 1 G))
    (hG : ∀ ns : List Int, ns.length ≤ n → G [.scr ns] = some (.bl true)) :
    PySem.W.WalkO q loose XP YP l.row.toRowW d [] (fun f vs => PySem.call f vs) := by
  refine Att.attach_call hn hdf fun w s₀ s₁ mg mb fa o pm cd doc a vs ns G Y ho hd hcd hmg hobj hints hlen hg => ?_
  have KX := hY w _ Y
  obtain ⟨fd, T, hT, hb, hF⟩ := F w mg fa _ KX G.T.g hmg
  exact law_callG hT KX G.T.g G.T.b G.T.builtins G.T.nolimit hg hobj hints (Nat.le_trans hlen hn2) hr hqc hF hb (hG ns hlen)
end Dl
namespace Dl
open PySem PySem.Spec PyProof.Rows L2 ClX
section
variable {K : PySem.W.Frag} {x qual : Str} {params : Arguments} {body : List Stmt} {scope : Scope} {dvs : List V} {f : Addr} {fd : FuncData} {ps : List Str}
/-- an __init__ with defaults, n values and keywords that follow in the parameters' order given; the defaults behind the first j fill up -/
theorem bndI_of (F : FunD K x qual params body scope dvs [] f fd) (n j : Nat) (ks : List Str) (dd : List D) (hd : dvs ≠ []) (hl : Lits dd (dvs.drop j))
    (h : ∀ (T : Addr) (kV doc pm : Value) (an : Option Addr) (cdv ct : Value) (us its ws : List Value), us.length = n + 1 → its.length = dvs.length → ws.length = ks.length →
      ∃ k, bindArgs (PySem.W.fnOf x qual params body scope (.ref T) kV doc pm an cdv ct) ⟨us, ks.zip ws⟩ = seqItems? (.ref T) >>= k ∧ k (some its.toArray) = pure (ps.zip (us ++ ws ++ its.drop j))) : BndI K fd ps n ks (gPos dd) := by
  have rel : ∀ {vs ds zs : List V} {us its ws : List Value}, Vals vs us → Vals ds its → Vals zs ws → Vals (vs ++ zs ++ ds.drop j) (us ++ ws ++ its.drop j) := fun {vs ds zs us its ws} r1 r2 r3 => (r1.append r3).append (by
    clear h hl
    induction j generalizing ds its with
    | zero => exact r2
    | succ j ih => cases r2 with
      | nil => exact .nil
      | cons a b => exact ih b)
  obtain ⟨its, hk⟩ := F.kbindsD (ps := ps) (n + 1) ks (fun {α} us its ws => us ++ ws ++ its.drop j) hd rel h
  exact ⟨_, _, hk, fun vs zs => vs ++ zs ++ dvs.drop j, fun a vs zs _ _ => rfl, fun T H S ds es vs zs _ _ r1 r2 => (r1.append r2).append (hl T H S)⟩
theorem funD_mk {oc : Value} {od an : Option Addr} {osl : Array (Option Value)} {dA : Addr} {o : Obj} {its : List Value} {m : Nat} {kV doc pm cdv ct : Value} (l : K.lookup f = some ⟨oc, od, .func (PySem.W.fnOf x qual params body scope (.ref dA) kV doc pm an cdv ct), osl⟩)
    (c : PySem.W.codeIn K cdv qual = true) (k : PySem.W.keepIn K (.ref f) = true) (hd : dvs ≠ []) (lt : K.lookup dA = some o) (ot : o.data = .seq its.toArray m) (rt : Vals dvs its) : FunD K x qual params body scope dvs [] f (PySem.W.fnOf x qual params body scope (.ref dA) kV doc pm an cdv ct) :=
  ⟨⟨oc, od, .ref dA, kV, doc, pm, an, cdv, ct, osl, rfl, l, c, .inr ⟨hd, dA, o, its, m, rfl, lt, ot, rt⟩, .inl rfl⟩, k⟩
theorem kit_obj {C : Addr} {b : String} {r : Bool} (h : PySem.W.subIn K (.ref C) (.type b) = some r) (m : PySem.W.kitMeta b = true) : PySem.W.kitOne K (.ref C) (.type b) = some r := by
  unfold PySem.W.kitOne PySem.W.kitCls
  rw [if_neg (by simp)]
  show (if PySem.W.kitMeta b = true then _ else _) = _
  rw [if_pos m]
  exact h
theorem kit_own {C : Addr} {a : String} {r : Bool} (hc : PySem.W.isClsIn K C = true) (ht : PySem.W.typeIn K (.ref C) = some (.type "type")) (h : PySem.W.subIn K (.type a) (.ref C) = some r) : PySem.W.kitOne K (.type a) (.ref C) = some r := by
  unfold PySem.W.kitOne PySem.W.kitCls
  have e : (PySem.W.clsIn K C).isSome = true := hc
  rw [if_neg (by simp)]
  show (if ((PySem.W.clsIn K C).isSome && PySem.W.typeIn K (.ref C) == some (.type "type")) = true then _ else _) = _
  rw [if_pos (by rw [e, ht]; simp)]
  exact h
theorem kit_self {C : Addr} : PySem.W.kitOne K (.ref C) (.ref C) = some true := by
  unfold PySem.W.kitOne
  rw [if_pos (by simp)]
end
section
variable {X : Cx} {T : CT} {pos : Pos}
/-- three names, the third gets a new list of its own -/
def sPar3F (i j l : Nat) (fa fb : FE) (fc : FA) : FS := fun δ => (fa δ).bind fun (x, δ1) => (fb δ1).bind fun (y, δ2) => (fc δ2).bind fun (zs, δ3) => some (.nx (((δ3.set i (.val x)).set j (.val y)).set l (.own .mine zs)))
theorem st_par3F (i j l : Nat) {x y z : Str} {a b c : Expr} {fa fb : FE} {fc : FA} {px py pz pt : Pos} {kt k2 pt2} (hc : X.calm = true) (hN : X.N.Nodup) (ha : PE X a (tD T fa)) (hb : PE X b (tD T fb)) (hf : PE X c (tF T fc)) (hij : i ≠ j := by decide) (hil : i ≠ l := by decide) (hjl : j ≠ l := by decide)
    (hi : X.N[i]? = some x := by rfl) (hj : X.N[j]? = some y := by rfl) (hl : X.N[l]? = some z := by rfl) (hx : X.env.scope.names.lookup x = some .local := by rfl) (hy : X.env.scope.names.lookup y = some .local := by rfl) (hz : X.env.scope.names.lookup z = some .local := by rfl)
    (h1 : starEach [a, b, c] X.env = (false, eval a X.env) :: starEach [b, c] X.env := by rfl) (h2 : starEach [b, c] X.env = (false, eval b X.env) :: starEach [c] X.env := by rfl) (h3 : starEach [c] X.env = (false, eval c X.env) :: starEach [] X.env := by rfl)
    (hw : swappedStores [.Tuple [.Name x px, .Name y py, .Name z pz] kt pt] (.Tuple [a, b, c] k2 pt2) X.env = pure (some [x, y, z]) := by rfl) (hs : swapsWithSole [.Tuple [.Name x px, .Name y py, .Name z pz] kt pt] (.Tuple [a, b, c] k2 pt2) pos.line X.env = pure false := by rfl) :
    PS X (.Assign [.Tuple [.Name x px, .Name y py, .Name z pz] kt pt] (.Tuple [a, b, c] k2 pt2) pos) (tSt T (sPar3F i j l fa fb fc)) := PS.imp (ps_par3 hc hN hi hj hl hij hil hjl hx hy hz (pa_cons ha (pa_cons hb (pa_cons hf pa_nil h3) h2) h1) hw hs) fun E σ H ⟨S0, δ, r, ok, e, q⟩ => by
  obtain ⟨dx, δ1, e1, e2⟩ := bind_some2 e
  obtain ⟨dy, δ2, e3, e4⟩ := bind_some2 e2
  obtain ⟨zs, δ3, e5, e6⟩ := bind_some2 e4
  cases e6
  refine ⟨S0, δ, dx, δ1, ok, e1, fun u H1 ok1 s1 r1 => ⟨S0, δ1, dy, δ2, ok1, e3, fun v H2 ok2 s2 r2 => ⟨S0, δ2, zs, δ3, ok2, e5, fun p vs H3 ok3 s3 hp r3 => ?_⟩⟩⟩
  have r1' := (s2.trans s3).rep r1
  have r2' := s3.rep r2
  obtain ⟨ok4, s4⟩ := ok3.store (i := i) r1'
  obtain ⟨ok5, s5⟩ := ok4.store (i := j) (s4.rep r2')
  obtain ⟨ok6, s6⟩ := ok5.storeOwn (i := l) hp ((s4.trans s5).reps r3)
  exact ⟨u, v, .ref p, rfl, q _ _ ok6 ((((s1.trans s2).trans s3).trans (s4.trans s5)).trans s6)⟩
end
end Dl
/-! == and != over nested data whose leaves have an own __eq__, with either answer: the machine's part. -/
namespace EqB
open PySem PySem.SeqAt
open AutoSeq1 (wpAny_loadPart')
open MeetsSeq MeetsSeq2 MeetsSeq3 SeqRoads2
/-- whether all of k from i on are equal -/
def aF (e : Nat → Bool) : Nat → Nat → Bool
  | _, 0 => true
  | i, k + 1 => e i && aF e (i + 1) k
section
variable {prog : Program} {w : World} {A : Around} {R : Result → Shared → Prop}
/-- two lists of N items that stay so while I holds; their items compare as e says, and I is kept -/
def Pair (prog : Program) (w : World) (A : Around) (E : Value → Shared → Prop) (l b : Addr) (N : Nat) (e : Nat → Bool) (I : Shared → Prop) : Prop :=
  ∀ s, I s → ∃ (xs ys : Array Value) (n m : Nat), s.heap.get? l = some { cls := .type "list", data := .seq xs n } ∧ s.heap.get? b = some { cls := .type "list", data := .seq ys m } ∧ xs.size = N ∧ ys.size = N ∧
    ∀ i (p : i < xs.size) (q : i < ys.size), wpAny (model prog w) A.in1 (eqBool xs[i] ys[i]) (fun r s' => r = e i ∧ I s') E s
abbrev EndsAs (prog : Program) (w : World) (A : Around) (R : Result → Shared → Prop) : Fin → Shared → Prop := fun z s' => match z with
  | .done f => R (.ok f) s'
  | .again c' => c'.quiet = true ∧ codeAny (model prog w) A c' R s'
theorem loopB (l b : Addr) (N : Nat) (e : Nat → Bool) (I : Shared → Prop) (ng : Bool) (hl : Pair prog w A (fun e s' => R (.error e) s') l b N e I) (k : Nat) :
    ∀ i : Nat, N - i = k → i ≤ N → ∀ s, I s → (∀ s', I s' → R (.ok (.ret (.bool (xor ng (aF e i k))))) s') →
      wpAny (model prog w) A.in1 (Builtin.«list.__eq__.loop» ⟨[.ref l, .ref b, rawInt i, rawInt (if ng then 3 else 2)], []⟩) (EndsAs prog w A R) (fun e s' => R (.error e) s') s := by
  induction k with
  | zero =>
    intro i hk hi s h fin
    have hR := fin s h
    obtain ⟨xs, ys, n, m, gx, gy, sx, sy, _⟩ := hl _ h
    have hi' : i = N := by omega
    obtain ⟨hp, g, d, tk, os⟩ := s
    have o1 : xs[((i : Nat) : Int).toNat]? = none := by simp; omega
    have o2 : ys[((i : Nat) : Int).toNat]? = none := by simp; omega
    cases ng
    · wp_walk using (wpAny_loadPart' gx), (wpAny_loadPart' gy)
      rw [o1, o2]
      wp_walk using (wpAny_loadPart' gx), (wpAny_loadPart' gy)
      show R (.ok (.ret (.bool (xs.size == ys.size)))) _
      rw [sx, sy]
      simpa [aF] using hR
    · wp_walk using (wpAny_loadPart' gx), (wpAny_loadPart' gy)
      rw [o1, o2]
      wp_walk using (wpAny_loadPart' gx), (wpAny_loadPart' gy)
      show R (.ok (.ret (.bool (xs.size != ys.size)))) _
      rw [sx, sy]
      simpa [aF] using hR
  | succ k ih =>
    intro i hk hi s h fin
    obtain ⟨xs, ys, n, m, gx, gy, sx, sy, turn⟩ := hl _ h
    have lx : i < xs.size := by omega
    have ly : i < ys.size := by omega
    have ht := turn i lx ly
    obtain ⟨hp, g, d, tk, os⟩ := s
    have o1 : xs[((i : Nat) : Int).toNat]? = some xs[i] := by simp [lx]
    have o2 : ys[((i : Nat) : Int).toNat]? = some ys[i] := by simp [ly]
    have ci : ((i : Int) + 1) = ((i + 1 : Nat) : Int) := by omega
    cases ng
    · wp_walk using (wpAny_loadPart' gx), (wpAny_loadPart' gy)
      rw [o1, o2]
      refine wpAny_bind (wpAny_mono ht (fun r s2 z => ?_) fun _ _ x => x)
      obtain ⟨er, I2⟩ := z
      subst er
      cases he : e i with
      | true =>
        have hrec := ih (i + 1) (by omega) (by omega) s2 I2 (fun s' z => by simpa [aF, he] using fin s' z)
        obtain ⟨hp2, g2, d2, tk2, os2⟩ := s2
        wp_walk
        rw [ci]
        exact ⟨plainId_quiet plain_eq_loop _, codeAny_builtin entry_eq_loop (by
          rw [Around.under_plainId plain_eq_loop _]
          exact hrec)⟩
      | false =>
        have hR := fin s2 I2
        obtain ⟨xs2, ys2, n2, m2, gx2, gy2, sx2, sy2, _⟩ := hl _ I2
        obtain ⟨hp2, g2, d2, tk2, os2⟩ := s2
        have p1 : xs2[((i : Nat) : Int).toNat]? = some (xs2[i]'(by omega)) := by simp [sx2]
        have p2 : ys2[((i : Nat) : Int).toNat]? = some (ys2[i]'(by omega)) := by simp [sy2]
        wp_walk using (wpAny_loadPart' gx2), (wpAny_loadPart' gy2)
        rw [p1, p2]
        wp_walk
        simpa [aF, he] using hR
    · wp_walk using (wpAny_loadPart' gx), (wpAny_loadPart' gy)
      rw [o1, o2]
      refine wpAny_bind (wpAny_mono ht (fun r s2 z => ?_) fun _ _ x => x)
      obtain ⟨er, I2⟩ := z
      subst er
      cases he : e i with
      | true =>
        have hrec := ih (i + 1) (by omega) (by omega) s2 I2 (fun s' z => by simpa [aF, he] using fin s' z)
        obtain ⟨hp2, g2, d2, tk2, os2⟩ := s2
        wp_walk
        rw [ci]
        exact ⟨plainId_quiet plain_eq_loop _, codeAny_builtin entry_eq_loop (by
          rw [Around.under_plainId plain_eq_loop _]
          exact hrec)⟩
      | false =>
        have hR := fin s2 I2
        obtain ⟨xs2, ys2, n2, m2, gx2, gy2, sx2, sy2, _⟩ := hl _ I2
        obtain ⟨hp2, g2, d2, tk2, os2⟩ := s2
        have p1 : xs2[((i : Nat) : Int).toNat]? = some (xs2[i]'(by omega)) := by simp [sx2]
        have p2 : ys2[((i : Nat) : Int).toNat]? = some (ys2[i]'(by omega)) := by simp [sy2]
        wp_walk using (wpAny_loadPart' gx2), (wpAny_loadPart' gy2)
        rw [p1, p2]
        wp_walk
        simpa [aF, he] using hR
theorem listB_eq (l b : Addr) (N : Nat) (e : Nat → Bool) (I : Shared → Prop) (hl : Pair prog w A (fun e s' => R (.error e) s') l b N e I) {s : Shared} (h : I s) (fin : ∀ s', I s' → R (.ok (.ret (.bool (aF e 0 N)))) s') :
    wpAny (model prog w) A.in1 (Builtin.«list.__eq__» ⟨[.ref l, .ref b], []⟩) (EndsAs prog w A R) (fun e s' => R (.error e) s') s := by
  obtain ⟨xs, ys, n, m, gx, gy, sx, sy, _⟩ := hl _ h
  have hrec := loopB (A := A) (R := R) l b N e I false hl N 0 rfl (Nat.zero_le _) s h (fun s' z => by simpa using fin s' z)
  obtain ⟨hp, g, d, tk, os⟩ := s
  have f3 := AutoSeq1.sub_list_list
  have same : ¬ (xs.size != ys.size) = true := by simp [sx, sy]
  wp_walk using (wpAny_loadPart' gx), (wpAny_loadPart' gy)
  exact ⟨plainId_quiet plain_eq_loop _, codeAny_builtin entry_eq_loop (by
    rw [Around.under_plainId plain_eq_loop _]
    exact hrec)⟩
theorem listB_ne (l b : Addr) (N : Nat) (e : Nat → Bool) (I : Shared → Prop) (hl : Pair prog w A (fun e s' => R (.error e) s') l b N e I) {s : Shared} (h : I s) (fin : ∀ s', I s' → R (.ok (.ret (.bool (!aF e 0 N)))) s') :
    wpAny (model prog w) A.in1 (Builtin.«list.__ne__» ⟨[.ref l, .ref b], []⟩) (EndsAs prog w A R) (fun e s' => R (.error e) s') s := by
  obtain ⟨xs, ys, n, m, gx, gy, sx, sy, _⟩ := hl _ h
  have hrec := loopB (A := A) (R := R) l b N e I true hl N 0 rfl (Nat.zero_le _) s h (fun s' z => by simpa using fin s' z)
  obtain ⟨hp, g, d, tk, os⟩ := s
  have f3 := AutoSeq1.sub_list_list
  have same : ¬ (xs.size != ys.size) = true := by simp [sx, sy]
  wp_walk using (wpAny_loadPart' gx), (wpAny_loadPart' gy)
  exact ⟨plainId_quiet plain_eq_loop _, codeAny_builtin entry_eq_loop (by
    rw [Around.under_plainId plain_eq_loop _]
    exact hrec)⟩
theorem listB_eq0 {l b : Addr} {s : Shared} {xs ys : Array Value} {n m : Nat} (gx : s.heap.get? l = some { cls := .type "list", data := .seq xs n }) (gy : s.heap.get? b = some { cls := .type "list", data := .seq ys m }) (hd : xs.size ≠ ys.size)
    (fin : ∀ t, R (.ok (.ret (.bool false))) { s with toks := t }) : wpAny (model prog w) A.in1 (Builtin.«list.__eq__» ⟨[.ref l, .ref b], []⟩) (EndsAs prog w A R) (fun e s' => R (.error e) s') s := by
  obtain ⟨hp, g, d, tk, os⟩ := s
  have f3 := AutoSeq1.sub_list_list
  have same : (xs.size != ys.size) = true := by simpa using hd
  wp_walk using (wpAny_loadPart' gx), (wpAny_loadPart' gy)
  exact fin _
theorem listB_ne0 {l b : Addr} {s : Shared} {xs ys : Array Value} {n m : Nat} (gx : s.heap.get? l = some { cls := .type "list", data := .seq xs n }) (gy : s.heap.get? b = some { cls := .type "list", data := .seq ys m }) (hd : xs.size ≠ ys.size)
    (fin : ∀ t, R (.ok (.ret (.bool true))) { s with toks := t }) : wpAny (model prog w) A.in1 (Builtin.«list.__ne__» ⟨[.ref l, .ref b], []⟩) (EndsAs prog w A R) (fun e s' => R (.error e) s') s := by
  obtain ⟨hp, g, d, tk, os⟩ := s
  have f3 := AutoSeq1.sub_list_list
  have same : (xs.size != ys.size) = true := by simpa using hd
  wp_walk using (wpAny_loadPart' gx), (wpAny_loadPart' gy)
  exact fin _
end
end EqB
namespace EqB
open PySem PySem.SeqAt
open AutoSeq1 (wpAny_loadPart')
open MeetsSeq MeetsSeq2 MeetsSeq3 SeqRoads2
section
variable {prog : Program} {w : World} {A : Around} {R : Result → Shared → Prop}
theorem tupB (ng : Bool) (l b : Addr) (xs ys : Array Value) (n m : Nat) (dx dy : Option Addr) (sl sl2 : Array (Option Value)) (e : Nat → Bool) (I : Shared → Prop)
    (turn : ∀ i (p : i < xs.size) (q : i < ys.size) s, I s → wpAny (model prog w) A.in1 (eqBool xs[i] ys[i]) (fun r s' => r = e i ∧ I s') (fun e s' => R (.error e) s') s)
    {s : Shared} (gx : s.heap.get? l = some { cls := .type "tuple", dict := dx, data := .seq xs n, slots := sl }) (gy : s.heap.get? b = some { cls := .type "tuple", dict := dy, data := .seq ys m, slots := sl2 }) (h : I s)
    (fin : ∀ s', I s' → R (.ok (.ret (.bool (xor ng (aF e 0 (min xs.size ys.size) && xs.size == ys.size))))) s') :
    wpAny (model prog w) A.in1 ((if ng then Builtin.«tuple.__ne__» else Builtin.«tuple.__eq__») ⟨[.ref l, .ref b], []⟩) (EndsAs prog w A R) (fun e s' => R (.error e) s') s := by
  have f2 := AutoSeq1.sub_tuple_tuple
  have hZ : (xs.toList.zip ys.toList).length = min xs.size ys.size := by simp
  have h0 := h
  obtain ⟨hp, g, d, tk, os⟩ := s
  have step : ∀ (y x : Value) (rest : List (Value × Value)) (i : Nat), (y, x) :: rest = (xs.toList.zip ys.toList).drop i → ∃ (p : i < xs.size) (q : i < ys.size), y = xs[i] ∧ x = ys[i] ∧ rest = (xs.toList.zip ys.toList).drop (i + 1) ∧ i < min xs.size ys.size := by
    intro y x rest i hz
    have lt : i < (xs.toList.zip ys.toList).length := by
      apply Nat.lt_of_not_le
      intro hge
      rw [List.drop_of_length_le hge] at hz
      cases hz
    have p : i < xs.size := by omega
    have q : i < ys.size := by omega
    rw [List.drop_eq_getElem_cons lt] at hz
    injection hz with h1 h2
    refine ⟨p, q, ?_, ?_, h2, by omega⟩
    · simpa using congrArg Prod.fst h1
    · simpa using congrArg Prod.snd h1
  have last : ∀ i, [] = (xs.toList.zip ys.toList).drop i → min xs.size ys.size ≤ i := by
    intro i hz
    apply Nat.le_of_not_lt
    intro hlt
    rw [List.drop_eq_getElem_cons (by omega)] at hz
    cases hz
  cases ng
  · show wpAny (model prog w) A.in1 (Builtin.«tuple.__eq__» ⟨[.ref l, .ref b], []⟩) (EndsAs prog w A R) _ _
    wp_walk using (wpAny_loadPart' gx), (wpAny_loadPart' gy), wpAny_forIn_list _ (fun rest b s' => b.1 = none ∧ I s' ∧ ∃ i, rest = (xs.toList.zip ys.toList).drop i ∧ ∀ s2, I s2 → R (.ok (.ret (.bool (aF e i (min xs.size ys.size - i) && xs.size == ys.size)))) s2) _
    case turn =>
      rintro ⟨y, x⟩ rest b s' ⟨hb', I1, i, hz, hR⟩
      obtain ⟨p, q, ey, ex, hrest, lt⟩ := step y x rest i hz
      subst ey ex
      have ek : min xs.size ys.size - i = (min xs.size ys.size - (i + 1)) + 1 := by omega
      rw [ek] at hR
      refine wpAny_bind (wpAny_mono (turn i p q s' I1) (fun r s2 z => ?_) fun _ _ x => x)
      obtain ⟨er, I2⟩ := z
      subst er
      cases he : e i with
      | true =>
        wp_walk
        exact ⟨rfl, I2, i + 1, hrest, fun s3 I3 => by simpa [aF, he] using hR s3 I3⟩
      | false =>
        wp_walk
        have := hR _ I2
        simp [aF, he] at this
        exact this
    case fin =>
      rintro ⟨b1, b2⟩ s' ⟨hb', I1, i, hz, hR⟩
      simp only at hb'
      subst hb'
      have ge := last i hz
      have e0 : min xs.size ys.size - i = 0 := by omega
      rw [e0] at hR
      have := hR _ I1
      wp_walk
      simpa [aF, Builtin.Tuple.tupleCompareSizes] using this
    case h =>
      exact ⟨rfl, h0, 0, rfl, fun s2 I2 => by simpa using fin s2 I2⟩
  · show wpAny (model prog w) A.in1 (Builtin.«tuple.__ne__» ⟨[.ref l, .ref b], []⟩) (EndsAs prog w A R) _ _
    wp_walk using (wpAny_loadPart' gx), (wpAny_loadPart' gy), wpAny_forIn_list _ (fun rest b s' => b.1 = none ∧ I s' ∧ ∃ i, rest = (xs.toList.zip ys.toList).drop i ∧ ∀ s2, I s2 → R (.ok (.ret (.bool (!(aF e i (min xs.size ys.size - i) && xs.size == ys.size))))) s2) _
    case turn =>
      rintro ⟨y, x⟩ rest b s' ⟨hb', I1, i, hz, hR⟩
      obtain ⟨p, q, ey, ex, hrest, lt⟩ := step y x rest i hz
      subst ey ex
      have ek : min xs.size ys.size - i = (min xs.size ys.size - (i + 1)) + 1 := by omega
      rw [ek] at hR
      refine wpAny_bind (wpAny_mono (turn i p q s' I1) (fun r s2 z => ?_) fun _ _ x => x)
      obtain ⟨er, I2⟩ := z
      subst er
      cases he : e i with
      | true =>
        wp_walk
        exact ⟨rfl, I2, i + 1, hrest, fun s3 I3 => by simpa [aF, he] using hR s3 I3⟩
      | false =>
        wp_walk
        have := hR _ I2
        simp [aF, he] at this
        exact this
    case fin =>
      rintro ⟨b1, b2⟩ s' ⟨hb', I1, i, hz, hR⟩
      simp only at hb'
      subst hb'
      have ge := last i hz
      have e0 : min xs.size ys.size - i = 0 := by omega
      rw [e0] at hR
      have := hR _ I1
      wp_walk
      simpa [aF, Builtin.Tuple.tupleCompareSizes, bne] using this
    case h =>
      exact ⟨rfl, h0, 0, rfl, fun s2 I2 => by simpa using fin s2 I2⟩
end
end EqB
/-! == and != by data: nested lists and tuples, leaves with an own __eq__, either answer. -/
namespace Dl
open PySem PySem.Spec PyProof.Rows L2
section
variable {X : Cx} {T : CT} {n m k c : Nat} {g g' : D → D → Option Bool}
/-- inside a builtin: == of two values answers what g tells of their data -/
def EqB (X : Cx) (T : CT) (n : Nat) (g : D → D → Option Bool) : Prop :=
  ∀ (A : Around) (pins : List (Addr × Obj)) (s : Shared) (σ : L2.St) (H : Hp) (S : Addr → Prop) (x y : D) (vx vy : V) (u v : Value) (b : Bool), Sub X n A → Quiet A → Inv X pins σ H s → RelV vx u → RelV vy v →
    (∀ a, S a → ∃ o, H a = some o) → Rep T H S x vx → Rep T H S y vy → g x y = some b →
    wpAny (model X.prog X.w) A (eqBool u v) (fun r s' => r = b ∧ ∃ H', Inv X pins σ H' s' ∧ Same H H') X.xe s
/-- the operator itself: == (ng false), != (ng true) -/
def RcB (X : Cx) (T : CT) (n : Nat) (ng : Bool) (g : D → D → Option Bool) : Prop :=
  ∀ (A : Around) (pins : List (Addr × Obj)) (s : Shared) (σ : L2.St) (H : Hp) (S : Addr → Prop) (x y : D) (vx vy : V) (u v : Value) (b : Bool), Sub X n A → Quiet A → Inv X pins σ H s → RelV vx u → RelV vy v →
    (∀ a, S a → ∃ o, H a = some o) → Rep T H S x vx → Rep T H S y vy → g x y = some b →
    wpAny (model X.prog X.w) A (richCompare (if ng then .NotEq else .Eq) u v) (fun r s' => r = .bool (xor ng b) ∧ ∃ H', Inv X pins σ H' s' ∧ Same H H') X.xe s
/-- one object is equal to itself -/
def Rf (T : CT) (g : D → D → Option Bool) : Prop := ∀ (H : Hp) (S : Addr → Prop) (x y : D) (v : V) (b : Bool), Rep T H S x v → Rep T H S y v → g x y = some b → b = true
def bOr (g g' : D → D → Option Bool) : D → D → Option Bool := fun x y => match g x y with
  | some b => some b
  | none => g' x y
theorem EqB.mono (h : EqB X T n g) (hn : n ≤ m) : EqB X T m g := fun A pins s σ H S x y vx vy u v b sb => h A pins s σ H S x y vx vy u v b (sb.mono hn)
theorem EqB.or (h : EqB X T n g) (h' : EqB X T n g') : EqB X T n (bOr g g') := fun A pins s σ H S x y vx vy u v b sb hq I rx ry tr dx dy e => by
  unfold bOr at e
  split at e
  · rename_i b' hb
    cases e
    exact h A pins s σ H S x y vx vy u v _ sb hq I rx ry tr dx dy hb
  · exact h' A pins s σ H S x y vx vy u v _ sb hq I rx ry tr dx dy e
theorem Rf.or (h : Rf T g) (h' : Rf T g') : Rf T (bOr g g') := fun H S x y v b dx dy e => by
  unfold bOr at e
  split at e
  · rename_i b' hb
    cases e
    exact h H S x y v _ dx dy hb
  · exact h' H S x y v _ dx dy e
/-- flat values -/
def eqFl : D → D → Option Bool := fun x y => match litV x, litV y with
  | some a, some b => some (eqV a b)
  | _, _ => none
theorem flat_lit {d : D} {v : V} (h : litV d = some v) : flatV v = true := by cases d <;> simp [litV] at h <;> subst h <;> rfl
theorem eqB_flat : EqB X T 0 eqFl := fun A pins s σ H S x y vx vy u v b sb hq I rx ry tr dx dy e => by
  unfold eqFl at e
  split at e
  · rename_i a c ha hc
    cases e
    have e1 := lit_rep dx ha
    have e2 := lit_rep dy hc
    subst e1 e2
    exact eqAt_V (A := A) (s := s) rx ry (flat_lit ha) (flat_lit hc) X.prog X.w X.xe _ ⟨rfl, H, I, Same.refl _⟩
  · cases e
theorem eqV_refl : ∀ {v : V}, flatV v = true → eqV v v = true := by
  intro v h
  cases v <;> simp_all [eqV, flatV]
theorem rf_flat : Rf T eqFl := fun H S x y v b dx dy e => by
  unfold eqFl at e
  split at e
  · rename_i a c ha hc
    cases e
    have e1 := lit_rep dx ha
    have e2 := lit_rep dy hc
    subst e1 e2
    exact eqV_refl (flat_lit ha)
  · cases e
/-- item by item, as far as both go -/
def eqZ (g : D → D → Option Bool) : List D → List D → Option Bool
  | x :: xs, y :: ys => (g x y).bind fun b => (eqZ g xs ys).map fun c => b && c
  | _, _ => some true
def eqLs (g : D → D → Option Bool) : D → D → Option Bool
  | .lst xs, .lst ys => if xs.length = ys.length then eqZ g xs ys else some false
  | .tup xs, .tup ys => (eqZ g xs ys).map fun b => b && xs.length == ys.length
  | _, _ => none
/-- what the i-th items say -/
def atB (g : D → D → Option Bool) (xs ys : List D) (i : Nat) : Bool := match xs[i]?, ys[i]? with
  | some x, some y => (g x y).getD false
  | _, _ => false
theorem aF_atB : ∀ (xs ys : List D) (b : Bool), eqZ g xs ys = some b → EqB.aF (atB g xs ys) 0 (min xs.length ys.length) = b ∧ ∀ (i : Nat) x y, xs[i]? = some x → ys[i]? = some y → g x y = some (atB g xs ys i)
  | [], ys, b, h => by cases ys <;> (simp [eqZ] at h; subst h; exact ⟨by simp [EqB.aF], fun i x y e => by simp at e⟩)
  | x :: xs, [], b, h => by simp [eqZ] at h; subst h; exact ⟨by simp [EqB.aF], fun i x y _ e => by simp at e⟩
  | x :: xs, y :: ys, b, h => by
    obtain ⟨b1, h1, h2⟩ := bind_some1 h
    obtain ⟨b2, h3, h4⟩ := map_some1 h2
    obtain ⟨q1, q2⟩ := aF_atB xs ys b2 h3
    have sh : ∀ (k i : Nat), EqB.aF (atB g (x :: xs) (y :: ys)) (i + 1) k = EqB.aF (atB g xs ys) i k := by
      intro k
      induction k with
      | zero => intro i; rfl
      | succ k ih => intro i; simp only [EqB.aF]; rw [ih]; simp [atB]
    refine ⟨?_, fun i a c ea ec => ?_⟩
    · rw [List.length_cons, List.length_cons, Nat.add_min_add_right]
      simp only [EqB.aF]
      rw [sh, q1]
      have : atB g (x :: xs) (y :: ys) 0 = b1 := by simp [atB, h1]
      rw [this]; exact h4
    · cases i with
      | zero => simp at ea ec; subst ea ec; simp [atB, h1]
      | succ i => simp at ea ec; simpa [atB] using q2 i a c ea ec
theorem vals_at {vs : List V} {us : List Value} (r : Vals vs us) {i : Nat} (h : i < us.toArray.size) : ∃ v, vs[i]? = some v ∧ RelV v us.toArray[i] := by
  have hl : i < us.length := by simpa using h
  have hv : i < vs.length := by rw [r.length]; exact hl
  obtain ⟨u, hu, ru⟩ := r.get (List.getElem?_eq_getElem hv)
  refine ⟨_, List.getElem?_eq_getElem hv, ?_⟩
  have : us[i]? = some us.toArray[i] := by rw [List.getElem?_eq_getElem hl]; simp
  rw [this] at hu
  rw [Option.some.inj hu]; exact ru
/-- one turn -/
theorem turnB (h : EqB X T n g) {A : Around} (sb : Sub X (n + 1) A) (hq : Quiet A) {pins : List (Addr × Obj)} {σ : L2.St} {H H1 : Hp} {S : Addr → Prop} {xs ys : List D} {vs ws : List V} {its its2 : List Value} {s1 : Shared} {e : Nat → Bool}
    (tr : ∀ a, S a → ∃ o, H a = some o) (rx : Reps T H S xs vs) (ry : Reps T H S ys ws) (he : ∀ (i : Nat) x y, xs[i]? = some x → ys[i]? = some y → g x y = some (e i)) (r : Vals vs its) (r2 : Vals ws its2)
    (I1 : Inv X pins σ H1 s1) (sm : Same H H1) (i : Nat) (p : i < its.toArray.size) (q : i < its2.toArray.size) :
    wpAny (model X.prog X.w) A.in1 (eqBool its.toArray[i] its2.toArray[i]) (fun b s2 => b = e i ∧ ∃ H2, Inv X pins σ H2 s2 ∧ Same H H2) X.xe s1 := by
  obtain ⟨v, ev, rv⟩ := vals_at r p
  obtain ⟨w, ew, rw'⟩ := vals_at r2 q
  obtain ⟨x, ex, dx⟩ := rx.getV ev
  obtain ⟨y, ey, dy⟩ := ry.getV ew
  refine wpAny_mono (h A.in1 pins s1 σ H1 S x y v w _ _ (e i) sb.in1 hq I1 rv rw' (fun a z => let ⟨o, k⟩ := tr a z; ⟨o, sm a o k⟩) (dx.same sm) (dy.same sm) (he i x y ex ey)) (fun b s2 z => ?_) fun _ _ x => x
  obtain ⟨eb, H2, I2, sm2⟩ := z
  exact ⟨eb, H2, I2, sm.trans sm2⟩
theorem rcB_ls (ng : Bool) (h : EqB X T n g) : RcB X T (n + 1) ng (eqLs g) := by
  intro A pins s σ H S x y vx vy u v b sb hq I rx ry tr dx dy e
  unfold eqLs at e
  split at e
  · rename_i xs ys
    rw [Rep] at dx dy
    obtain ⟨a, vs, rfl, ha, _, px⟩ := dx
    obtain ⟨a2, ws, rfl, hb, _, py⟩ := dy
    cases rx
    cases ry
    have lx := px.length
    have ly := py.length
    by_cases hl : xs.length = ys.length
    · rw [if_pos hl] at e
      obtain ⟨q1, q2⟩ := aF_atB xs ys b e
      have hN : min xs.length ys.length = xs.length := by omega
      rw [hN] at q1
      have hP : EqB.Pair X.prog X.w A X.xe a a2 xs.length (atB g xs ys) (fun s' => ∃ H', Inv X pins σ H' s' ∧ Same H H') := fun s1 ⟨H1, I1, sm⟩ => by
        obtain ⟨z, its, k, r, e1⟩ := I1.hok a _ (sm _ _ ha)
        obtain ⟨z2, its2, k2, r2, e2⟩ := I1.hok a2 _ (sm _ _ hb)
        exact ⟨its.toArray, its2.toArray, k, k2, e1, e2, by rw [List.size_toArray, ← r.length, lx], by rw [List.size_toArray, ← r2.length, ly, hl], fun i p q => turnB h sb hq tr px py q2 r r2 I1 sm i p q⟩
      obtain ⟨z, its, k, r, e1⟩ := I.hok a _ ha
      obtain ⟨z2, its2, k2, r2, e2⟩ := I.hok a2 _ hb
      cases ng
      · refine wpAny_richCompare_same_room (op := .Eq) ⟨_, e1, rfl⟩ ⟨_, e2, rfl⟩ F.slot_list_eq (GQ.call_here F.slot_list_eq ⟨_, e1, rfl⟩ F.entry_list_eq (F.args_list_eq_2 _ _) ?_) sb.room.units0
        exact EqB.listB_eq (R := wants (fun v s' => v ≠ .notImplemented ∧ (v = .bool (xor false b) ∧ ∃ H', Inv X pins σ H' s' ∧ Same H H')) X.xe) a a2 xs.length _ _ hP ⟨H, I, Same.refl _⟩ fun s' q => ⟨(fun x => nomatch x), by rw [q1]; simp, q⟩
      · refine wpAny_richCompare_same_room (op := .NotEq) ⟨_, e1, rfl⟩ ⟨_, e2, rfl⟩ F.slot_list_ne (GQ.call_here F.slot_list_ne ⟨_, e1, rfl⟩ F.entry_list_ne (F.args_list_ne_2 _ _) ?_) sb.room.units0
        exact EqB.listB_ne (R := wants (fun v s' => v ≠ .notImplemented ∧ (v = .bool (xor true b) ∧ ∃ H', Inv X pins σ H' s' ∧ Same H H')) X.xe) a a2 xs.length _ _ hP ⟨H, I, Same.refl _⟩ fun s' q => ⟨(fun x => nomatch x), by rw [q1]; simp, q⟩
    · rw [if_neg hl] at e
      cases e
      obtain ⟨z, its, k, r, e1⟩ := I.hok a _ ha
      obtain ⟨z2, its2, k2, r2, e2⟩ := I.hok a2 _ hb
      have hd : its.toArray.size ≠ its2.toArray.size := by rw [List.size_toArray, List.size_toArray, ← r.length, ← r2.length, lx, ly]; exact hl
      cases ng
      · refine wpAny_richCompare_same_room (op := .Eq) ⟨_, e1, rfl⟩ ⟨_, e2, rfl⟩ F.slot_list_eq (GQ.call_here F.slot_list_eq ⟨_, e1, rfl⟩ F.entry_list_eq (F.args_list_eq_2 _ _) ?_) sb.room.units0
        exact EqB.listB_eq0 (R := wants (fun v s' => v ≠ .notImplemented ∧ (v = .bool (xor false false) ∧ ∃ H', Inv X pins σ H' s' ∧ Same H H')) X.xe) e1 e2 hd fun t => ⟨(fun x => nomatch x), rfl, H, I.tok t, Same.refl _⟩
      · refine wpAny_richCompare_same_room (op := .NotEq) ⟨_, e1, rfl⟩ ⟨_, e2, rfl⟩ F.slot_list_ne (GQ.call_here F.slot_list_ne ⟨_, e1, rfl⟩ F.entry_list_ne (F.args_list_ne_2 _ _) ?_) sb.room.units0
        exact EqB.listB_ne0 (R := wants (fun v s' => v ≠ .notImplemented ∧ (v = .bool (xor true false) ∧ ∃ H', Inv X pins σ H' s' ∧ Same H H')) X.xe) e1 e2 hd fun t => ⟨(fun x => nomatch x), rfl, H, I.tok t, Same.refl _⟩
  · rename_i xs ys
    rw [Rep] at dx dy
    obtain ⟨a, vs, rfl, ha, _, px⟩ := dx
    obtain ⟨a2, ws, rfl, hb, _, py⟩ := dy
    cases rx
    cases ry
    have lx := px.length
    have ly := py.length
    obtain ⟨b1, h3, h4⟩ := map_some1 e
    obtain ⟨q1, q2⟩ := aF_atB xs ys b1 h3
    obtain ⟨its, r, e1, z⟩ := I.tuple (show SqT X.K H a vs from .inl (.inl ha))
    obtain ⟨its2, r2, e2, z2⟩ := I.tuple (show SqT X.K H a2 ws from .inl (.inl hb))
    obtain ⟨⟨cl, dd, dt, sl⟩, ho, hc, nn, hd⟩ := id e1
    obtain ⟨⟨cl2, dd2, dt2, sl2⟩, ho2, hc2, nn2, hd2⟩ := id e2
    simp only at hc hd hc2 hd2
    subst hc hd hc2 hd2
    have s1 : its.toArray.size = xs.length := by rw [List.size_toArray, ← r.length, lx]
    have s2 : its2.toArray.size = ys.length := by rw [List.size_toArray, ← r2.length, ly]
    have fin : (EqB.aF (atB g xs ys) 0 (min its.toArray.size its2.toArray.size) && its.toArray.size == its2.toArray.size) = b := by rw [s1, s2, q1]; exact h4
    cases ng
    · refine wpAny_richCompare_same_room (op := .Eq) ⟨_, ho, rfl⟩ ⟨_, ho2, rfl⟩ F.slot_tuple_eq (GQ.call_here F.slot_tuple_eq ⟨_, ho, rfl⟩ F.entry_tuple_eq (F.args_tuple_eq_2 _ _) ?_) sb.room.units0
      exact EqB.tupB (R := wants (fun v s' => v ≠ .notImplemented ∧ (v = .bool (xor false b) ∧ ∃ H', Inv X pins σ H' s' ∧ Same H H')) X.xe) false a a2 its.toArray its2.toArray _ _ _ _ _ _ (atB g xs ys) (fun s' => ∃ H', Inv X pins σ H' s' ∧ Same H H')
        (fun i p q s' ⟨H1, I1, sm⟩ => turnB h sb hq tr px py q2 r r2 I1 sm i p q) ho ho2 ⟨H, I, Same.refl _⟩ fun s' q => ⟨(fun x => nomatch x), by rw [fin], q⟩
    · refine wpAny_richCompare_same_room (op := .NotEq) ⟨_, ho, rfl⟩ ⟨_, ho2, rfl⟩ F.slot_tuple_ne (GQ.call_here F.slot_tuple_ne ⟨_, ho, rfl⟩ F.entry_tuple_ne (F.args_tuple_ne_2 _ _) ?_) sb.room.units0
      exact EqB.tupB (R := wants (fun v s' => v ≠ .notImplemented ∧ (v = .bool (xor true b) ∧ ∃ H', Inv X pins σ H' s' ∧ Same H H')) X.xe) true a a2 its.toArray its2.toArray _ _ _ _ _ _ (atB g xs ys) (fun s' => ∃ H', Inv X pins σ H' s' ∧ Same H H')
        (fun i p q s' ⟨H1, I1, sm⟩ => turnB h sb hq tr px py q2 r r2 I1 sm i p q) ho ho2 ⟨H, I, Same.refl _⟩ fun s' q => ⟨(fun x => nomatch x), by rw [fin], q⟩
  · cases e
end
end Dl
namespace Dl
open PySem PySem.Spec PyProof.Rows L2
section
variable {X : Cx} {T : CT} {n m k c : Nat} {g g' : D → D → Option Bool} {f C : Addr} {fd : FuncData} {ps : List Str} {E : XK}
theorem rf_eqZ (h : Rf T g) {H : Hp} {S : Addr → Prop} : ∀ {xs ys : List D} {vs : List V} {b : Bool}, Reps T H S xs vs → Reps T H S ys vs → eqZ g xs ys = some b → b = true
  | [], ys, _, b, _, _, e => by cases ys <;> (simp [eqZ] at e; exact e)
  | x :: xs, [], _, b, _, _, e => by simp [eqZ] at e; exact e
  | x :: xs, y :: ys, vs, b, r1, r2, e => by
    rw [Reps] at r1 r2
    obtain ⟨v, vr, rfl, a1, a2⟩ := r1
    obtain ⟨v', vr', e', c1, c2⟩ := r2
    cases e'
    obtain ⟨b1, h1, h2⟩ := bind_some1 e
    obtain ⟨b2, h3, h4⟩ := map_some1 h2
    rw [← h4, h H S x y v b1 a1 c1 h1, rf_eqZ h a2 c2 h3]
    rfl
theorem rf_ls (h : Rf T g) : Rf T (eqLs g) := fun H S x y v b dx dy e => by
  unfold eqLs at e
  split at e
  · rw [Rep] at dx dy
    obtain ⟨a, vs, rfl, ha, _, px⟩ := dx
    obtain ⟨a2, ws, e2, hb, _, py⟩ := dy
    cases e2
    rw [ha] at hb; cases hb
    have := px.length; have := py.length
    rw [if_pos (by omega)] at e
    exact rf_eqZ h px py e
  · rw [Rep] at dx dy
    obtain ⟨a, vs, rfl, ha, _, px⟩ := dx
    obtain ⟨a2, ws, e2, hb, _, py⟩ := dy
    cases e2
    rw [ha] at hb; cases hb
    have := px.length; have := py.length
    obtain ⟨b1, h3, h4⟩ := map_some1 e
    rw [← h4, rf_eqZ h px py h3]
    simp; omega
  · cases e
/-- from the operator to == inside a list: both are references, one object is equal to itself -/
theorem eqB_of (h : RcB X T n false g) (hf : Rf T g) (hr : ∀ x y b, g x y = some b → (∀ (H : Hp) S v, Rep T H S x v → ∃ a, v = .ref a)) (hr2 : ∀ x y b, g x y = some b → (∀ (H : Hp) S v, Rep T H S y v → ∃ a, v = .ref a)) : EqB X T n g :=
  fun A pins s σ H S x y vx vy u v b sb hq I rx ry tr dx dy e => by
  obtain ⟨a, rfl⟩ := hr x y b e H S vx dx
  obtain ⟨a2, rfl⟩ := hr2 x y b e H S vy dy
  cases rx
  cases ry
  by_cases hab : a = a2
  · subst hab
    have := hf H S x y _ b dx dy e
    exact SeqAt.EqAt.same (A := A) (s := s) (.ref a) X.prog X.w X.xe _ ⟨this.symm, H, I, Same.refl _⟩
  · refine GQ.eqBool_refG hab (wpAny_mono (h A pins s σ H S x y (.ref a) (.ref a2) _ _ b sb hq I rfl rfl tr dx dy e) (fun r s' q => ?_) fun _ _ x => x)
    obtain ⟨hr', q⟩ := q
    exact ⟨b, by simpa using hr', rfl, q⟩
theorem ls_ref {x y : D} {b : Bool} (e : eqLs g x y = some b) : (∀ (H : Hp) S v, Rep T H S x v → ∃ a, v = .ref a) ∧ (∀ (H : Hp) S v, Rep T H S y v → ∃ a, v = .ref a) := by
  unfold eqLs at e
  split at e
  · exact ⟨fun H S v r => by rw [Rep] at r; obtain ⟨a, vs, rfl, _⟩ := r; exact ⟨a, rfl⟩, fun H S v r => by rw [Rep] at r; obtain ⟨a, vs, rfl, _⟩ := r; exact ⟨a, rfl⟩⟩
  · exact ⟨fun H S v r => by rw [Rep] at r; obtain ⟨a, vs, rfl, _⟩ := r; exact ⟨a, rfl⟩, fun H S v r => by rw [Rep] at r; obtain ⟨a, vs, rfl, _⟩ := r; exact ⟨a, rfl⟩⟩
  · cases e
theorem EqB.ls (h : EqB X T n g) (hf : Rf T g) : EqB X T (n + 1) (eqLs g) := eqB_of (rcB_ls false h) (rf_ls hf) (fun _ _ _ e => (ls_ref e).1) (fun _ _ _ e => (ls_ref e).2)

/-- an object of class c, by its own __eq__ -/
def eqOb (c : Nat) (F : List D → Option D) : D → D → Option Bool
  | .obj c' ds, .obj c2 es => if c' = c ∧ c2 = c then (match F [.obj c' ds, .obj c2 es] with
    | some (.bl r) => some r
    | _ => none) else none
  | _, _ => none
theorem rcB_ob {F : List D → Option D} {ns : List Str} (hT : T c = some (C, ns)) (hN : Top X.K T C) (hs : PySem.W.findIn X.K (.ref C) "__eq__" = some (some (.ref f))) (hf : PySem.W.isFn X.K (.ref f) = true) (G : FnG X.prog X.w X.K X.mg X.base k f fd ps (sp0 T 2 F)) (hb : Binds X.K fd ps []) (hps : ps.length = 2) :
    RcB X T k false (eqOb c F) := by
  intro A pins s σ H S x y vx vy u v b sb hq I rx ry tr dx dy e
  unfold eqOb at e
  split at e
  · rename_i c' ds c2 es
    split at e
    · rename_i hc
      obtain ⟨rfl, rfl⟩ := hc
      split at e
      · rename_i r hF
        cases e
        have kx := dx
        have ky := dy
        rw [Rep] at dx
        obtain ⟨a, ox, C', ns', vs, rfl, hT', ha, _⟩ := dx
        rw [hT] at hT'; cases hT'
        cases rx
        obtain ⟨mA, O, _⟩ := ins_get I.hok ha
        obtain ⟨od, J, _⟩ := O.look
        obtain ⟨m, hF2⟩ := I.fr
        have hk : kindOf T (.obj c2 es) = some (.ref C) := by show (T c2).map (fun q => Value.ref q.1) = _; rw [hT]; rfl
        refine PySem.W.cmp_K (op := .Eq) (tb := .ref C) sb.room.units0 hF2 I.ok.mod.kin J (looks_kind I ry ⟨_, S, ky, hk⟩) (hN _ _ hk) hs hf ?_
        have e0 : Env0 X.prog X.w X.K X.mg X.base A X.stack s H := by
          have e := I.env0
          exact ⟨by rw [sb.fr]; exact e.frames, e.mod, e.bs, e.bsz, e.funs, e.frf, e.hok, e.bare⟩
        refine wpAny_mono (run_lowG (A := A) (us := [.ref a, v]) (vs := [.ref a, vy]) (Q := fun z H' => z = .bl b ∧ Same H H') (E := E0) G hq sb.room e0 hb hps I (.cons rfl (.cons ry .nil)) ⟨S, _, _, tr, rfl, Reps.cons kx (Reps.cons ky Reps.nil), hF, fun z H' sm rz => ⟨rep_bl rz, sm⟩⟩) (fun z s' hz => ?_) fun _ _ x => x
        obtain ⟨z', H', I', rz, ez, sm⟩ := hz
        subst ez
        cases rz
        exact ⟨by simp, H', I', sm⟩
      · cases e
    · cases e
  · cases e
theorem ob_ref {F : List D → Option D} {x y : D} {b : Bool} (e : eqOb c F x y = some b) : (∀ (H : Hp) S v, Rep T H S x v → ∃ a, v = .ref a) ∧ (∀ (H : Hp) S v, Rep T H S y v → ∃ a, v = .ref a) := by
  unfold eqOb at e
  split at e
  · exact ⟨fun H S v r => by rw [Rep] at r; obtain ⟨a, _, _, _, _, rfl, _⟩ := r; exact ⟨a, rfl⟩, fun H S v r => by rw [Rep] at r; obtain ⟨a, _, _, _, _, rfl, _⟩ := r; exact ⟨a, rfl⟩⟩
  · cases e
theorem EqB.ob {F : List D → Option D} {ns : List Str} (hR : Rf T (eqOb c F)) (hT : T c = some (C, ns)) (hN : Top X.K T C) (hs : PySem.W.findIn X.K (.ref C) "__eq__" = some (some (.ref f))) (hf : PySem.W.isFn X.K (.ref f) = true) (G : FnG X.prog X.w X.K X.mg X.base k f fd ps (sp0 T 2 F)) (hb : Binds X.K fd ps []) (hps : ps.length = 2) :
    EqB X T k (eqOb c F) := eqB_of (rcB_ob hT hN hs hf G hb hps) hR (fun _ _ _ e => (ob_ref e).1) (fun _ _ _ e => (ob_ref e).2)

/-- as an operator of the text -/
def rEqB (T : CT) (ng : Bool) (g : D → D → Option Bool) : R2 := fun x y H Q => ∃ S dx dy b, (∀ a, S a → ∃ o, H a = some o) ∧ Rep T H S dx x ∧ Rep T H S dy y ∧ g dx dy = some b ∧ ∀ H', Same H H' → Q (.bl (xor ng b)) H'
def gB (ng : Bool) (g : D → D → Option Bool) : D → D → Option D := fun x y => (g x y).map fun b => .bl (xor ng b)
theorem opv_eqB (ng : Bool) : OpV T (rEqB T ng g) (gB ng g) := by
  intro S x y vx vy H d Q tr rx ry e q
  obtain ⟨b, hb, rfl⟩ := map_some1 e
  exact ⟨S, x, y, b, tr, rx, ry, hb, fun H' sm => q _ H' sm (rep_lit rfl)⟩
theorem op_eqB (h : RcB X T n false g) (hq : Quiet X.A) (hr : Room n X.A) : OpR X (compareOp .Eq) (rEqB T false g) := by
  intro pins s σ H x y v u Q I rx ry hh
  obtain ⟨S, dx, dy, b, tr, px, py, e, q⟩ := hh
  show wpAny (model X.prog X.w) X.A (richCompare .Eq v u) (EP X pins σ Q) X.xe s
  refine wpAny_mono (h X.A pins s σ H S dx dy x y v u b ⟨hr, rfl⟩ hq I rx ry tr px py e) (fun r s' z => ?_) fun _ _ x => x
  obtain ⟨hr', H', I', sm⟩ := z
  subst hr'
  exact ⟨.bl (xor false b), H', I', rfl, q H' sm⟩
theorem op_neB (h : RcB X T n true g) (hq : Quiet X.A) (hr : Room n X.A) : OpR X (compareOp .NotEq) (rEqB T true g) := by
  intro pins s σ H x y v u Q I rx ry hh
  obtain ⟨S, dx, dy, b, tr, px, py, e, q⟩ := hh
  show wpAny (model X.prog X.w) X.A (richCompare .NotEq v u) (EP X pins σ Q) X.xe s
  refine wpAny_mono (h X.A pins s σ H S dx dy x y v u b ⟨hr, rfl⟩ hq I rx ry tr px py e) (fun r s' z => ?_) fun _ _ x => x
  obtain ⟨hr', H', I', sm⟩ := z
  subst hr'
  exact ⟨.bl (xor true b), H', I', rfl, q H' sm⟩
end
end Dl
/-! texts (repr) of nested data whose leaves have an own __repr__ -/
namespace Dl
open PySem PySem.Spec PyProof.Rows L2
mutual
def dep : D → Nat
  | .lst xs => deps xs + 1
  | .tup xs => deps xs + 1
  | .obj _ xs => deps xs + 1
  | _ => 0
def deps : List D → Nat
  | [] => 0
  | x :: xs => max (dep x) (deps xs)
end
mutual
def pl : D → Bool
  | .lst xs => pls xs
  | .tup xs => pls xs
  | .obj _ xs => pls xs
  | .cls _ => false
  | .scr _ => false
  | _ => true
def pls : List D → Bool
  | [] => true
  | x :: xs => pl x && pls xs
end
theorem zip_snd {α β : Type} : ∀ {a a' : List α} {b b' : List β}, a.length = b.length → a'.length = b'.length → a.zip b = a'.zip b' → b = b'
  | [], [], [], [], _, _, _ => rfl
  | x :: a, [], y :: b, [], _, _, e => by simp at e
  | [], x :: a, [], y :: b, _, _, e => by simp at e
  | x :: a, x' :: a', y :: b, y' :: b', h, h', e => by
    simp at e h h'
    rw [e.1.2, zip_snd h h' e.2]
  | [], _, _ :: _, _, h, _, _ => by simp at h
  | _ :: _, _, [], _, h, _, _ => by simp at h
  | _, [], _, _ :: _, _, h, _ => by simp at h
  | _, _ :: _, _, [], _, h, _ => by simp at h
section
variable {T : CT} {H : Hp} {S S' : Addr → Prop}
mutual
theorem rep_dep : ∀ {d e : D} {v : V}, pl d = true → pl e = true → Rep T H S d v → Rep T H S' e v → dep d = dep e
  | .non, e, v, _, pe, r, r' => by
    rw [Rep] at r; subst r
    cases e <;> simp [Rep] at r' <;> simp [dep]
  | .bl _, e, v, _, pe, r, r' => by
    rw [Rep] at r; subst r
    cases e <;> simp [Rep] at r' <;> simp [dep]
  | .int _, e, v, _, pe, r, r' => by
    rw [Rep] at r; subst r
    cases e <;> simp [Rep] at r' <;> simp [dep]
  | .str _, e, v, _, pe, r, r' => by
    rw [Rep] at r; subst r
    cases e <;> simp [Rep] at r' <;> simp [dep]
  | .cls _, _, _, p, _, _, _ => by simp [pl] at p
  | .scr _, _, _, p, _, _, _ => by simp [pl] at p
  | .lst ds, e, v, pd, pe, r, r' => by
    rw [Rep] at r
    obtain ⟨a, vs, rfl, ha, _, q⟩ := r
    cases e with
    | lst es =>
      rw [Rep] at r'
      obtain ⟨a', ws, e1, hb, _, q'⟩ := r'
      cases e1; rw [ha] at hb; cases hb
      simp only [pl] at pd pe
      simp only [dep, reps_dep pd pe q q']
    | tup es =>
      rw [Rep] at r'
      obtain ⟨a', ws, e1, hb, _, q'⟩ := r'
      cases e1; rw [ha] at hb; cases hb
    | obj c es =>
      rw [Rep] at r'
      obtain ⟨a', _, _, _, ws, e1, _, hb, _⟩ := r'
      cases e1; rw [ha] at hb; cases hb
    | cls _ => simp [pl] at pe
    | scr _ => simp [pl] at pe
    | _ => simp [Rep] at r'
  | .tup ds, e, v, pd, pe, r, r' => by
    rw [Rep] at r
    obtain ⟨a, vs, rfl, ha, _, q⟩ := r
    cases e with
    | tup es =>
      rw [Rep] at r'
      obtain ⟨a', ws, e1, hb, _, q'⟩ := r'
      cases e1; rw [ha] at hb; cases hb
      simp only [pl] at pd pe
      simp only [dep, reps_dep pd pe q q']
    | lst es =>
      rw [Rep] at r'
      obtain ⟨a', ws, e1, hb, _, q'⟩ := r'
      cases e1; rw [ha] at hb; cases hb
    | obj c es =>
      rw [Rep] at r'
      obtain ⟨a', _, _, _, ws, e1, _, hb, _⟩ := r'
      cases e1; rw [ha] at hb; cases hb
    | cls _ => simp [pl] at pe
    | scr _ => simp [pl] at pe
    | _ => simp [Rep] at r'
  | .obj c ds, e, v, pd, pe, r, r' => by
    rw [Rep] at r
    obtain ⟨a, dx, C, ns, vs, rfl, _, ha, hl, _, q⟩ := r
    cases e with
    | obj c es =>
      rw [Rep] at r'
      obtain ⟨a', dx', C', ns', ws, e1, _, hb, hl', _, q'⟩ := r'
      cases e1
      rw [ha] at hb
      injection hb with hb
      injection hb with h1 h2 h3
      have := zip_snd hl hl' h3
      subst this
      simp only [pl] at pd pe
      simp only [dep, reps_dep pd pe q q']
    | lst es =>
      rw [Rep] at r'
      obtain ⟨a', ws, e1, hb, _, q'⟩ := r'
      cases e1; rw [ha] at hb; cases hb
    | tup es =>
      rw [Rep] at r'
      obtain ⟨a', ws, e1, hb, _, q'⟩ := r'
      cases e1; rw [ha] at hb; cases hb
    | cls _ => simp [pl] at pe
    | scr _ => simp [pl] at pe
    | _ => simp [Rep] at r'
theorem reps_dep : ∀ {ds es : List D} {vs : List V}, pls ds = true → pls es = true → Reps T H S ds vs → Reps T H S' es vs → deps ds = deps es
  | [], es, vs, _, _, r, r' => by
    rw [Reps] at r; subst r
    cases es with
    | nil => rfl
    | cons e es => rw [Reps] at r'; obtain ⟨_, _, z, _⟩ := r'; cases z
  | d :: ds, es, vs, pd, pe, r, r' => by
    rw [Reps] at r
    obtain ⟨v, rest, rfl, r1, r2⟩ := r
    cases es with
    | nil => rw [Reps] at r'; cases r'
    | cons e es =>
      rw [Reps] at r'
      obtain ⟨_, _, z, q1, q2⟩ := r'
      cases z
      simp only [pls, Bool.and_eq_true] at pd pe
      simp only [deps, rep_dep pd.1 pe.1 r1 q1, reps_dep pd.2 pe.2 r2 q2]
end
end
theorem dep_le : ∀ {ds : List D} {d : D}, d ∈ ds → dep d ≤ deps ds
  | e :: ds, d, h => by
    simp only [deps]
    rcases List.mem_cons.mp h with rfl | h
    · omega
    · have := dep_le h; omega
theorem pl_mem : ∀ {ds : List D} {d : D}, pls ds = true → d ∈ ds → pl d = true
  | e :: ds, d, p, h => by
    simp only [pls, Bool.and_eq_true] at p
    rcases List.mem_cons.mp h with rfl | h
    · exact p.1
    · exact pl_mem p.2 h

/-- what is being written in the frames around lies above x -/
def ClearD (T : CT) (H : Hp) (S : Addr → Prop) (gs : List Code) (x : D) : Prop := ∀ id a rest kw, Code.builtin id ⟨.ref a :: rest, kw⟩ ∈ gs → ∃ d, pl d = true ∧ Rep T H S d (.ref a) ∧ dep x < dep d
section
variable {X : Cx} {T : CT} {n m k c : Nat} {g g' : D → Option Str}
theorem ClearD.same {H H' : Hp} {S : Addr → Prop} {gs : List Code} {x : D} (h : ClearD T H S gs x) (sm : Same H H') : ClearD T H' S gs x := fun id a rest kw q => let ⟨d, p, r, l⟩ := h id a rest kw q; ⟨d, p, r.same sm, l⟩
theorem ClearD.ne {H : Hp} {S : Addr → Prop} {gs : List Code} {x : D} {b : Addr} (h : ClearD T H S gs x) (p : pl x = true) (r : Rep T H S x (.ref b)) : Clear gs b := fun id v rest kw q e => by
  subst e
  obtain ⟨d, pd, rd, l⟩ := h id b rest kw q
  have := rep_dep p pd r rd
  omega
/-- the text of a value within another's -/
def RpB (X : Cx) (T : CT) (n : Nat) (g : D → Option Str) : Prop :=
  ∀ (A : Around) (pins : List (Addr × Obj)) (s : Shared) (σ : L2.St) (H : Hp) (S : Addr → Prop) (x : D) (vx : V) (u : Value) (t : Str) (gs : List Code) (base : Nat), base + t.length ≤ sizeLine → Sub X n A → A.guards = some gs → ClearD T H S gs x →
    Inv X pins σ H s → RelV vx u → (∀ a, S a → ∃ o, H a = some o) → pl x = true → Rep T H S x vx → g x = some t → wpAny (model X.prog X.w) A (pyReprUnder base u) (fun r s' => r = t ∧ ∃ H', Inv X pins σ H' s' ∧ Same H H') X.xe s
theorem RpB.mono (h : RpB X T n g) (hn : n ≤ m) : RpB X T m g := fun A pins s σ H S x vx u t gs base hb sb => h A pins s σ H S x vx u t gs base hb (sb.mono hn)
def rOrr (g g' : D → Option Str) : D → Option Str := fun x => match g x with
  | some b => some b
  | none => g' x
theorem RpB.or (h : RpB X T n g) (h' : RpB X T n g') : RpB X T n (rOrr g g') := fun A pins s σ H S x vx u t gs base hb sb hg hc I rx tr p dx e => by
  unfold rOrr at e
  split at e
  · rename_i b hb'
    cases e
    exact h A pins s σ H S x vx u _ gs base hb sb hg hc I rx tr p dx hb'
  · exact h' A pins s σ H S x vx u t gs base hb sb hg hc I rx tr p dx e
/-- flat values -/
def rpFl : D → Option Str
  | .non => some "None"
  | .bl b => some (if b then "True" else "False")
  | .int i => if okNum i then some (toString i) else none
  | .str s => if (Str.length (PySem.reprText s)) ≤ sizeLine then some (PySem.reprText s) else none
  | _ => none
theorem rpB_flat : RpB X T 0 rpFl := fun A pins s σ H S x vx u t gs base hb sb hg hc I rx tr p dx e => by
  have fin : ReprIs X.prog X.w u t → wpAny (model X.prog X.w) A (pyReprUnder base u) (fun r s' => r = t ∧ ∃ H', Inv X pins σ H' s' ∧ Same H H') X.xe s := fun h =>
    h base hb A X.xe s _ fun tk => ⟨rfl, H, I.tok tk, Same.refl _⟩
  cases x with
  | non => simp only [rpFl] at e; cases e; rw [rep_non dx] at rx; cases rx; exact fin ReprIs.none
  | bl b => simp only [rpFl] at e; cases e; rw [rep_bl dx] at rx; cases rx; exact fin (ReprIs.bool b)
  | int i =>
    simp only [rpFl] at e
    obtain ⟨hi, rfl⟩ := ite_some e
    rw [rep_int dx] at rx
    obtain ⟨tk, rfl⟩ := rx
    exact fin (ReprIs.int tk (of_decide_eq_true hi))
  | str z =>
    simp only [rpFl] at e
    obtain ⟨hi, rfl⟩ := ite_some e
    rw [rep_str dx] at rx
    obtain ⟨tk, rfl⟩ := rx
    exact fin (ReprIs.str z tk hi)
  | _ => simp [rpFl] at e
end
end Dl
namespace Dl
open PySem PySem.Spec PyProof.Rows L2
/-- all texts -/
def txts (g : D → Option Str) : List D → Option (List Str)
  | [] => some []
  | x :: xs => (g x).bind fun t => (txts g xs).map fun ts => t :: ts
theorem txts_len {g : D → Option Str} : ∀ {xs : List D} {ts : List Str}, txts g xs = some ts → ts.length = xs.length
  | [], ts, h => by simp [txts] at h; subst h; rfl
  | x :: xs, ts, h => by
    obtain ⟨t, h1, h2⟩ := bind_some1 h
    obtain ⟨r, h3, h4⟩ := map_some1 h2
    rw [← h4, List.length_cons, List.length_cons, txts_len h3]
theorem txts_at {g : D → Option Str} : ∀ {xs : List D} {ts : List Str} {i : Nat} {x : D}, txts g xs = some ts → xs[i]? = some x → ∃ t, ts[i]? = some t ∧ g x = some t
  | [], ts, i, x, h, e => by simp at e
  | y :: xs, ts, i, x, h, e => by
    obtain ⟨t, h1, h2⟩ := bind_some1 h
    obtain ⟨r, h3, h4⟩ := map_some1 h2
    subst h4
    cases i with
    | zero => simp at e; subst e; exact ⟨t, by simp, h1⟩
    | succ i => simp at e; simpa using txts_at h3 e
theorem strs_of : ∀ {ts : List Str} {its : List Value}, Vals (ts.map V.str) its → ∃ done : List (Str × Tok), its = strValues done ∧ done.map (·.1) = ts
  | [], _, h => by cases h; exact ⟨[], rfl, rfl⟩
  | t :: ts, _, h => by
    cases h with
    | cons r h =>
      obtain ⟨tk, rfl⟩ := r
      obtain ⟨done, rfl, e⟩ := strs_of h
      exact ⟨(t, tk) :: done, rfl, by simp [e]⟩
section
variable {X : Cx} {T : CT} {n m k c : Nat} {g g' : D → Option Str}
theorem subR {A : Around} {cd : Code} (sb : Sub X (n + 1) A) (h1 : (A.under cd).units = A.units + 1) (h2 : (A.under cd).handled = A.handled) (h3 : (A.under cd).depth ≤ A.depth + 3) (h4 : (A.under cd).frames = A.frames) : Sub X n (A.under cd) :=
  ⟨⟨h2.trans sb.room.hd, by have := sb.room.dp; omega, by have := sb.room.un; omega⟩, h4.trans sb.fr⟩
theorem under_loop {A : Around} {as : Args} (sb : Sub X (n + 1) A) : Sub X n (A.under (.builtin "list.__repr__.loop" as)) :=
  subR sb (units_under_list_loop A as) (by first | rfl | simp [Around.under]) (by first | (show A.depth ≤ _; omega) | (simp [Around.under, Code.weight, Code.isCreation, Code.isGuard, Code.isCaller, Code.frames, Code.isFrame, guardIds]; done)) (by first | rfl | simp [Around.under, Code.envs, Code.isFrame, pushEnvs])
theorem loopR (h : RpB X T n g) {A : Around} {gs : List Code} (sb : Sub X (n + 1) A) (hg : A.guards = some gs) {pins : List (Addr × Obj)} {σ : L2.St} {H : Hp} {S : Addr → Prop} {xs : List D} {vs : List V} {a : Addr} {ts : List Str} {base : Nat} {R : Result → Shared → Prop}
    (hc : ClearD T H S gs (.lst xs)) (tr : ∀ b, S b → ∃ o, H b = some o) (hp : pl (.lst xs) = true) (ha : H a = some (.lst vs)) (rr : Rep T H S (.lst xs) (.ref a)) (rx : Reps T H S xs vs) (ht : txts g xs = some ts) (hsz : base + (listText ts).length ≤ sizeLine)
    (he : ∀ e s', X.xe e s' → R (.error e) s') (hR : ∀ s' u, (∃ H', Inv X pins σ H' s' ∧ Same H H') → R (.ok (.ret (.str (listText ts) u))) s') :
    ∀ (j i : Nat) (s : Shared) (H1 : Hp) (P : Addr), xs.length - i = j → i ≤ xs.length → Same H H1 → H1 P = none → Inv X pins σ (upd H1 P (.lst ((ts.take i).map V.str))) s →
      codeAny (model X.prog X.w) A (.builtin "list.__repr__.loop" ⟨[.ref a, rawInt i, .ref P, rawInt ((base + piled (ts.take i) : Nat) : Int)], []⟩) R s := by
  have tl := txts_len ht
  have hL := textFrom_len ts 0 "["
  have hX : (listText ts).length = (textFrom 0 "[" ts).length + 1 := by
    show (textFrom 0 "[" ts ++ "]").length = _
    rw [strLen_append]; rfl
  have z2 : ∀ t ∈ ts, t.length ≤ sizeLine := fun t q => by
    have h2 := hL.2.1 t q
    omega
  have z3 := piled_le_listText ts
  intro j
  induction j with
  | zero =>
    intro i s H1 P hj hi sm hP I
    have hin : i = xs.length := by omega
    have smP : Same H1 (upd H1 P (.lst ((ts.take i).map V.str))) := fun b o e => by rw [upd_ne (ne_of_none e hP)]; exact e
    obtain ⟨z, its, m1, r, el, eP⟩ := I.lstM (l := P) upd_same
    obtain ⟨zz, its0, m0, r0, el0, ea⟩ := I.lstM (l := a) ((sm.trans smP) _ _ ha)
    obtain ⟨done, rfl, hd⟩ := strs_of r
    refine codeAny_builtin F.entry_list_repr_loop ?_
    show wpAny _ _ (Builtin.«list.__repr__.loop» ⟨[.ref a, .int i 0, .ref P, .int ((base + piled (ts.take i) : Nat) : Int) 0], []⟩) _ _ s
    rw [repr_loop_tree]
    refine wpAny_bind (wpAny_listItems ea rfl ?_)
    have lv := rx.length
    have none1 : its0.toArray[(i : Int).toNat]? = none := by simp; omega
    simp only [none1]
    unfold reprEnd
    refine wpAny_bind (wpAny_listItems eP rfl ?_)
    rw [show (strValues done).toArray.toList = strValues done from rfl, repr_fold]
    refine wpAny_bind (wpAny_pure ?_)
    have hall : done.map (·.1) = ts := by rw [hd, hin, ← tl, List.take_length]
    rw [hall]
    refine wpAny_bind (wpAny_mkStr (wpAny_pure ?_) (by show (listText ts).length ≤ sizeLine; omega))
    exact hR _ _ ⟨_, I.tok _, sm.trans smP⟩
  | succ j ih =>
    intro i s H1 P hj hi sm hP I
    have hlt : i < xs.length := by omega
    have smP : Same H1 (upd H1 P (.lst ((ts.take i).map V.str))) := fun b o e => by rw [upd_ne (ne_of_none e hP)]; exact e
    have sm1 := sm.trans smP
    obtain ⟨zz, its0, m0, r0, el0, ea⟩ := I.lstM (l := a) (sm1 _ _ ha)
    have lv := rx.length
    have hi0 : i < its0.toArray.size := by simp; omega
    obtain ⟨v, ev, rv⟩ := vals_at r0 hi0
    obtain ⟨x, ex, dx⟩ := rx.getV ev
    obtain ⟨t, et, gt⟩ := txts_at ht ex
    have hp1 := piled_take_succ et
    have hp2 := piled_take_le ts (i + 1)
    have mx : x ∈ xs := List.mem_of_getElem? ex
    have lt : dep x < dep (.lst xs) := by have := dep_le mx; simp only [dep]; omega
    refine codeAny_builtin F.entry_list_repr_loop ?_
    show wpAny _ _ (Builtin.«list.__repr__.loop» ⟨[.ref a, .int i 0, .ref P, .int ((base + piled (ts.take i) : Nat) : Int) 0], []⟩) _ _ s
    rw [repr_loop_tree]
    refine wpAny_bind (wpAny_listItems ea rfl ?_)
    have some1 : its0.toArray[(i : Int).toNat]? = some its0.toArray[i] := by simp at hi0 ⊢
    simp only [some1]
    rw [Int.toNat_natCast]
    refine wpAny_bind (wpAny_holding (wpAny_mono (h _ pins s σ _ S x v its0.toArray[i] t _ (base + piled (ts.take i) + 1) (by omega) (under_loop sb) (guards_under_guard (isGuard_list_loop _) hg) (fun id b rest kw q => ?_) I rv (fun b q => let ⟨o, e⟩ := tr b q; ⟨o, sm1 b o e⟩) (pl_mem (by simpa [pl] using hp) mx) (dx.same sm1) gt) (fun r s2 z => ?_) (fun e s' q => he e s' q)))
    · rcases List.mem_cons.mp q with e | q
      · cases e
        exact ⟨_, hp, rr.same sm1, lt⟩
      · obtain ⟨d, pd, rd, l⟩ := hc id b rest kw q
        exact ⟨d, pd, rd.same sm1, by omega⟩
    · obtain ⟨er, H2, I2, sm2⟩ := z
      subst er
      refine wpAny_bind (wpAny_mkStr ?_ (z2 r (List.mem_of_getElem? et)))
      have eP2 : H2 P = some (.lst ((ts.take i).map V.str)) := sm2 _ _ upd_same
      have I3 := I2.tok (s2.toks + 1)
      obtain ⟨z, its, m1, rP, el, eP⟩ := I3.lstM eP2
      refine wpAny_bind ?_
      show wpAny _ _ (updateSeq P _) _ _ _
      have zi : its.length = i := by rw [← el]; simp; omega
      refine wpAny_updateSeq eP rfl (wpAny_pure ⟨F.quiet_list_repr_loop _, ?_⟩) (by rw [List.size_toArray, ← el]; exact z) (by simp; omega)
      have c1 : ((i : Int) + 1) = ((i + 1 : Nat) : Int) := by omega
      have c2 : base + piled (ts.take i) + (r.length + 2) = base + piled (ts.take (i + 1)) := by omega
      rw [c1, c2]
      have et' : (ts.take (i + 1)).map V.str = (ts.take i).map V.str ++ [V.str r] := by
        rw [List.take_succ, et]; simp
      have I4 := I3.lset (ys := (ts.take (i + 1)).map V.str) (its' := its ++ [.str r s2.toks]) (t' := s2.toks + 1) eP2 eP (f := fun l => l.push (.str r s2.toks)) (by simp) (by rw [et']; exact rP.append (.cons ⟨_, rfl⟩ .nil)) (by simp; omega)
      have er2 : H2 = upd (er H2 P) P (.lst ((ts.take i).map V.str)) := (upd_er eP2).symm
      have e4 : upd H2 P (.lst ((ts.take (i + 1)).map V.str)) = upd (er H2 P) P (.lst ((ts.take (i + 1)).map V.str)) := by
        funext b
        by_cases hb : b = P
        · subst hb; rw [upd_same, upd_same]
        · rw [upd_ne hb, upd_ne hb, er_ne hb]
      rw [e4] at I4
      exact ih (i + 1) _ (er H2 P) P (by omega) (by omega) (fun b o e => by
        have nb : b ≠ P := ne_of_none (sm _ _ e) hP
        rw [er_ne nb]
        exact sm2 _ _ (sm1 _ _ e)) er_self I4
end
end Dl
namespace Dl
open PySem PySem.Spec PyProof.Rows L2
section
variable {X : Cx} {T : CT} {n m k c : Nat} {g g' : D → Option Str}
def rpLs (g : D → Option Str) : D → Option Str
  | .lst [] => some "[]"
  | .lst (x :: xs) => (txts g (x :: xs)).map listText
  | .tup xs => (txts g xs).map tupleText
  | _ => none
theorem rp_lst (h : RpB X T n g) {A : Around} {pins : List (Addr × Obj)} {s : Shared} {σ : L2.St} {H : Hp} {S : Addr → Prop} {x : D} {xs : List D} {a : Addr} {vs : List V} {ts : List Str} {gs : List Code} {base : Nat} (sb : Sub X (n + 1) A) (hg : A.guards = some gs) (hc : ClearD T H S gs (.lst (x :: xs)))
    (I : Inv X pins σ H s) (tr : ∀ b, S b → ∃ o, H b = some o) (hp : pl (.lst (x :: xs)) = true) (ha : H a = some (.lst vs)) (rr : Rep T H S (.lst (x :: xs)) (.ref a)) (rx : Reps T H S (x :: xs) vs) (ht : txts g (x :: xs) = some ts) (hsz : base + (listText ts).length ≤ sizeLine)
    {R : Result → Shared → Prop} (he : ∀ e s', X.xe e s' → R (.error e) s') (hR : ∀ s' u, (∃ H', Inv X pins σ H' s' ∧ Same H H') → R (.ok (.ret (.str (listText ts) u))) s') :
    wpAny (model X.prog X.w) A.in1 (Builtin.listReprAt base ⟨[.ref a], []⟩) (fun fin s' => match fin with | .done f => R (.ok f) s' | .again c' => c'.quiet = true ∧ codeAny (model X.prog X.w) A c' R s') (fun e s' => R (.error e) s') s := by
  obtain ⟨z, its, m0, r0, el, ea⟩ := I.lstM ha
  have lv := rx.length
  have ca := hc.ne hp rr
  match its, el, r0, ea with
  | [], el, _, _ => simp [lv] at el
  | y :: ys, el, r0, ea =>
    refine wpAny_list_repr_head (A := A.in1) hg (fun v rest kw hm => listSameRef_of_ne (ca _ _ _ _ hm)) ea rfl ?_
    refine wpAny_bind (m := newList []) (wpAny_newObj_type ?_)
    refine wpAny_pure ⟨F.quiet_list_repr_loop _, ?_⟩
    have I2 := I.lnew (ys := []) (its := []) (t' := s.toks) .nil (Nat.zero_le _)
    exact loopR h sb hg hc tr hp ha rr rx ht hsz he hR _ 0 _ H s.heap.objs.size rfl (Nat.zero_le _) (Same.refl _) I.fresh I2
theorem rp_fold (h : RpB X T n g) {A : Around} {gs : List Code} (sb : Sub X n A) (hg : A.guards = some gs) {pins : List (Addr × Obj)} {σ : L2.St} {H : Hp} {S : Addr → Prop} {big : D}
    (tr : ∀ b, S b → ∃ o, H b = some o) (E : Value → Shared → Prop) (he : ∀ e s', X.xe e s' → E e s') : ∀ (xs : List D) (vs : List V) (its : List Value) (ts : List Str) (acc : Array Str) (m : Nat) (s : Shared) (H1 : Hp) (Q : (Array Str × Nat) → Shared → Prop),
      (∀ x, x ∈ xs → ClearD T H S gs x) → pls xs = true → Same H H1 → Inv X pins σ H1 s → Reps T H S xs vs → Vals vs its → txts g xs = some ts → m + piled ts ≤ sizeLine →
      (∀ s', (∃ H', Inv X pins σ H' s' ∧ Same H H') → Q ⟨acc ++ ts.toArray, m + piled ts⟩ s') → wpAny (model X.prog X.w) A (forIn its (⟨acc, m⟩ : (Array Str × Nat)) tupBody) Q E s
  | [], vs, its, ts, acc, m, s, H1, Q, hc, hp, sm, I, rx, rv, ht, hz, q => by
    rw [Reps] at rx; subst rx
    cases rv
    simp [txts] at ht; subst ht
    have h0 := q s ⟨H1, I, sm⟩
    simp only [List.forIn_nil]
    exact wpAny_pure (by simpa [piled] using h0)
  | x :: xs, vs, its, ts, acc, m, s, H1, Q, hc, hp, sm, I, rx, rv, ht, hz, q => by
    rw [Reps] at rx
    obtain ⟨v, vr, rfl, r1, r2⟩ := rx
    cases rv with
    | cons rv1 rv2 =>
      obtain ⟨t, h1, h2⟩ := bind_some1 ht
      obtain ⟨tr2, h3, h4⟩ := map_some1 h2
      subst h4
      rw [piled_cons] at hz
      simp only [pls, Bool.and_eq_true] at hp
      rw [List.forIn_cons]
      refine wpAny_bind (wpAny_bind (wpAny_mono (h A pins s σ H1 S x v _ t gs (m + 1) (by omega) sb hg ((hc x (.head _)).same sm) I rv1 (fun b w => let ⟨o, e⟩ := tr b w; ⟨o, sm b o e⟩) hp.1 (r1.same sm) h1) (fun r s2 z => ?_) (fun e s' w => he e s' w)))
      obtain ⟨er, H2, I2, sm2⟩ := z
      subst er
      refine wpAny_pure ?_
      refine rp_fold h sb hg (big := big) tr E he xs vr _ tr2 (acc.push r) (m + (r.length + 2)) _ H2 Q (fun y w => hc y (.tail _ w)) hp.2 (sm.trans sm2) I2 r2 rv2 h3 (by omega) fun s' w => ?_
      have h1 := q s' w
      have e : m + piled (r :: tr2) = m + (r.length + 2) + piled tr2 := by rw [piled_cons]; omega
      rw [e] at h1
      simpa using h1
theorem under_tup {A : Around} {as : Args} (sb : Sub X (n + 1) A) : Sub X n (A.under (.builtin "tuple.__repr__" as)) :=
  subR sb (units_under_tuple_repr A as) (by first | rfl | simp [Around.under]) (by first | (show A.depth ≤ _; omega) | (simp [Around.under, Code.weight, Code.isCreation, Code.isGuard, Code.isCaller, Code.frames, Code.isFrame, guardIds]; done)) (by first | rfl | simp [Around.under, Code.envs, Code.isFrame, pushEnvs])
theorem under_tupU {A : Around} {as : Args} (sb : Sub X (n + 1) A) : Sub X n (A.under (.builtin "tuple.__repr__.under" as)) :=
  subR sb (units_under_tuple_repr_under A as) (by first | rfl | simp [Around.under]) (by first | (show A.depth ≤ _; omega) | (simp [Around.under, Code.weight, Code.isCreation, Code.isGuard, Code.isCaller, Code.frames, Code.isFrame, guardIds]; done)) (by first | rfl | simp [Around.under, Code.envs, Code.isFrame, pushEnvs])
theorem rp_tup (h : RpB X T n g) {A : Around} {pins : List (Addr × Obj)} {s : Shared} {σ : L2.St} {H : Hp} {S : Addr → Prop} {xs : List D} {a : Addr} {vs : List V} {ts : List Str} {gs : List Code} {base : Nat} {id : String} {rest : List Value} (sb : Sub X n (A.under (.builtin id ⟨.ref a :: rest, []⟩)))
    (hcg : (Code.builtin id ⟨.ref a :: rest, []⟩).isGuard = true) (hg : A.guards = some gs) (hc : ClearD T H S gs (.tup xs))
    (I : Inv X pins σ H s) (tr : ∀ b, S b → ∃ o, H b = some o) (hp : pl (.tup xs) = true) (ha : H a = some (.tup vs)) (rr : Rep T H S (.tup xs) (.ref a)) (rx : Reps T H S xs vs) (ht : txts g xs = some ts) (hsz : base + (tupleText ts).length ≤ sizeLine)
    {R : Result → Shared → Prop} (he : ∀ e s', X.xe e s' → R (.error e) s') (hR : ∀ s' u, (∃ H', Inv X pins σ H' s' ∧ Same H H') → R (.ok (.ret (.str (tupleText ts) u))) s') :
    wpOwn (model X.prog X.w) A (.builtin id ⟨.ref a :: rest, []⟩) (Builtin.tupleReprAt base ⟨[.ref a], []⟩) (fun fin s' => match fin with | .done f => R (.ok f) s' | .again c' => c'.quiet = true ∧ codeAny (model X.prog X.w) A c' R s') (fun e s' => R (.error e) s') s := by
  obtain ⟨its, r, e1, z⟩ := I.tuple (show SqT X.K H a vs from .inl (.inl ha))
  have e2 := e1
  obtain ⟨⟨cl, dd, dt, sl⟩, ho, hcl, nn, hd⟩ := e2
  simp only at hcl hd
  subst hcl hd
  have ca := hc.ne hp rr
  have lv := rx.length
  have tl := txts_len ht
  have hlen : ts.length = its.length := by rw [tl, ← r.length, lv]
  have hpp := piled_le_tupleText ts
  rw [tuple_repr_tree, tupleReprUnderWay_eq]
  refine wpOwn_bind (wpOwn_stackTailAny hg (tupGuardF_off _) (tupGuardF_pos _) ?_)
  have hn : (gs.any fun c => tupGuardF (.ref a) (c, default)) = false := by
    rw [List.any_eq_false]
    intro c hcm
    rw [tupGuardF_of_clear ca c hcm]
    exact Bool.false_ne_true
  rw [hn]
  refine wpOwn_of_wpAny ?_
  show wpAny _ _ (tupleReprRest base (.ref a)) _ _ s
  unfold tupleReprRest Builtin.Tuple.tupleItemsOf
  refine wpAny_bind (wpAny_bind (wpAny_seqItems ho rfl (wpAny_pure ?_)))
  rw [← Array.forIn_toList]
  refine wpAny_bind (rp_fold h sb (guards_under_guard hcg hg) (big := .tup xs) tr _ he xs vs its ts #[] base _ H _ (fun x mx id' b rest' kw q => ?_) (by simpa [pl] using hp) (Same.refl _) I rx r ht (by omega) fun s' w => ?_)
  · have lt : dep x < dep (.tup xs) := by have := dep_le mx; simp only [dep]; omega
    rcases List.mem_cons.mp q with e | q
    · cases e
      exact ⟨_, hp, rr, lt⟩
    · obtain ⟨d, pd, rd, l⟩ := hc id' b rest' kw q
      exact ⟨d, pd, rd, by omega⟩
  · refine wpAny_bind (wpAny_mkStr (wpAny_pure ?_) (by have : (tupleText ts).length ≤ sizeLine := by omega
                                                       simpa [tupleText, hlen] using this))
    obtain ⟨H', I', sm⟩ := w
    have h1 := hR _ s'.toks ⟨H', I'.tok (s'.toks + 1), sm⟩
    simpa [tupleText, hlen] using h1
theorem RpB.ls (h : RpB X T n g) : RpB X T (n + 1) (rpLs g) := by
  intro A pins s σ H S x vx u t gs base hb sb hg hc I rx tr hp dx e
  unfold rpLs at e
  split at e
  · cases e
    have dx' := dx
    rw [Rep] at dx
    obtain ⟨a, vs, rfl, ha, _, px⟩ := dx
    cases rx
    rw [Reps] at px; subst px
    obtain ⟨z, its, m0, r0, el, ea⟩ := I.lstM ha
    cases r0
    refine wpAny_pyReprUnder_ref (by omega) (wpAny_pyReprObjUnder_list_empty ⟨_, ea, rfl⟩ sb.room.units0 ea rfl ⟨_, _, rfl, ?_⟩)
    exact ⟨rfl, H, I.tok _, Same.refl _⟩
  · rename_i y ys
    obtain ⟨ts, h1, rfl⟩ := map_some1 e
    have dx' := dx
    rw [Rep] at dx
    obtain ⟨a, vs, rfl, ha, _, px⟩ := dx
    cases rx
    obtain ⟨z, its, m0, r0, el, ea⟩ := I.lstM ha
    refine wpAny_pyReprUnder_ref (by omega) (wpAny_pyReprObjUnder_twin (twin := "list.__repr__.under") ⟨_, ea, rfl⟩ F.slot_list_repr.toG rfl sb.room.units0 ?_)
    refine call_twin_plain F.plain_list_repr_under F.entry_list_repr_under F.check_list_repr_under ⟨_, ea, rfl⟩ F.slot_list_repr.toG (F.args_list_repr_1 _) ?_
    exact rp_lst h sb hg hc I tr hp ha dx' px h1 hb (fun e s' q => q) fun s' u' q => ⟨⟨_, _, rfl⟩, _, _, rfl, rfl, q⟩
  · rename_i ys
    obtain ⟨ts, h1, rfl⟩ := map_some1 e
    have dx' := dx
    rw [Rep] at dx
    obtain ⟨a, vs, rfl, ha, _, px⟩ := dx
    cases rx
    obtain ⟨its, r, e1, z⟩ := I.tuple (show SqT X.K H a vs from .inl (.inl ha))
    have hty : s.TypeIs (.ref a) "tuple" := by
      obtain ⟨o, ho, hcl, _⟩ := e1
      exact ⟨o, ho, hcl⟩
    refine wpAny_pyReprUnder_ref (by omega) (wpAny_pyReprObjUnder_twin (twin := "tuple.__repr__.under") hty F.slot_tuple_repr rfl sb.room.units0 ?_)
    refine call_twin_own (F.quiet_tuple_repr_under _) F.entry_tuple_repr_under F.check_tuple_repr_under hty F.slot_tuple_repr (F.args_tuple_repr_1 _) ?_
    exact rp_tup h (under_tupU sb) (isGuard_tuple_repr_under _) hg hc I tr hp ha dx' px h1 hb (fun e s' q => q) fun s' u' q => ⟨⟨_, _, rfl⟩, _, _, rfl, rfl, q⟩
  · cases e
end
end Dl
namespace Dl
open PySem PySem.Spec PyProof.Rows L2
section
variable {P : Program} {w : World} {K : PySem.W.Frag} {mg : Str → Option Value} {base : Heap} {T : CT} {k : Nat} {f : Addr} {fd : FuncData} {ps : List Str} {sp : Sp}
theorem ofOk (F : FnOk P w K mg base CX0 k f fd ps sp) : FnG P w K mg base k f fd ps sp := ⟨F.len, fun A o s H a us vs Q E _ hr he hb hv h => F.run A o s H a us vs Q E hr he hb hv h⟩
/-- a def whose promise holds whatever is being written around it -/
theorem ok0A {x qual : Str} {st : Stmt} {f : Addr} {fd : FuncData} {N ps : List Str} {k m n : Nat} {g : FS} (F : Fun K x qual st f fd) (S : FnScope N ps (defScope st)) (hN : N.length = m) (hps : ps.length = n)
    (body : ∀ (cdv : Value) (A : Around) (outer : List PySem.Env) (s : Shared) (H : Hp) (E : XK), Room k (A.deeper (envOfC qual (defScope st) s.heap.objs.size f cdv)) → PSs (cxOf CX0 P w K mg base N qual (defScope st) f cdv A outer s H E).nox (defBody st) (tSt T g)) : FnOk P w K mg base CX0 (k + 1) f fd ps (sp0 T n (outD m g)) := by
  subst hN hps
  refine F.ok S (fun vs H Q E h => ?_) (fun cdv A outer s H vs Q E hr h => ?_)
  · obtain ⟨S, ds, d, _, hl, r, _⟩ := h
    rw [r.length, hl]
  · obtain ⟨S, ds, d, tr, hl, r, eG, q⟩ := h
    unfold outD at eG
    obtain ⟨r1, e1, e2⟩ := bind_some1 eG
    exact ⟨_, body cdv A outer s H E hr, end0 tr r e1 e2 q⟩
end
section
variable {X : Cx} {T : CT} {n m k c : Nat} {g g' : D → Option Str} {f C : Addr} {fd : FuncData} {ps : List Str} {sp : Sp} {E : XK}
theorem run_lowA {A : Around} {pins : List (Addr × Obj)} {σ : L2.St} {H : Hp} {s : Shared} {Q : VK} {us : List Value} {vs : List V} (F : FnOk X.prog X.w X.K X.mg X.base CX0 k f fd ps sp) (hr : Room k A) (e0 : Env0 X.prog X.w X.K X.mg X.base A X.stack s H) (hb : Binds X.K fd ps []) (hn : ps.length = us.length)
    (I : Inv X pins σ H s) (r : Vals vs us) (h : sp vs H Q E) : wpAny (model X.prog X.w) A (call (.ref f) us) (EP X pins σ Q) X.xe s := by
  apply wpAny_call
  have hbt := hb s us I.kIn (by rw [List.append_nil, hn])
  rw [List.append_nil] at hbt
  refine codeAny_mono (F.run A X.stack s H ⟨us, []⟩ us vs Q E hr e0 hbt r h) fun z s' hz => ?_
  have e := endG I z s' hz
  match z, e with
  | .ok (.ret _), e => exact e
  | .error _, e => exact e
theorem Sub.env0 {A : Around} (sb : Sub X n A) {pins : List (Addr × Obj)} {σ : L2.St} {H : Hp} {s : Shared} (I : Inv X pins σ H s) : Env0 X.prog X.w X.K X.mg X.base A X.stack s H := by
  have e := I.env0
  exact ⟨by rw [sb.fr]; exact e.frames, e.mod, e.bs, e.bsz, e.funs, e.frf, e.hok, e.bare⟩
/-- an object of class c, by its own __repr__ -/
def rpOb (c : Nat) (F : List D → Option D) : D → Option Str
  | .obj c' ds => if c' = c then (match F [.obj c' ds] with
    | some (.str r) => some r
    | _ => none) else none
  | _ => none
theorem RpB.ob {F : List D → Option D} {ns : List Str} (hT : T c = some (C, ns)) (hs : PySem.W.findIn X.K (.ref C) "__repr__" = some (some (.ref f))) (hf : PySem.W.isFn X.K (.ref f) = true) (G : FnOk X.prog X.w X.K X.mg X.base CX0 k f fd ps (sp0 T 1 F)) (hb : Binds X.K fd ps []) (hps : ps.length = 1) :
    RpB X T k (rpOb c F) := by
  intro A pins s σ H S x vx u t gs base hz sb hg hc I rx tr hp dx e
  unfold rpOb at e
  split at e
  · rename_i c' ds
    split at e
    · rename_i hcc
      subst hcc
      split at e
      · rename_i r hF
        cases e
        have kx := dx
        rw [Rep] at dx
        obtain ⟨a, ox, C', ns', vs, rfl, hT', ha, _⟩ := dx
        rw [hT] at hT'; cases hT'
        cases rx
        obtain ⟨mA, O, _⟩ := ins_get I.hok ha
        obtain ⟨od, J, _⟩ := O.look
        have X0 := I.kIn
        refine wpAny_pyReprUnder_ref (by omega) ?_
        have go : wpAny (model X.prog X.w) A (call (.ref f) [.ref a]) (fun v s' => ∃ tk, v = .str t tk ∧ ∃ H', Inv X pins σ H' s' ∧ Same H H') X.xe s := by
          refine wpAny_mono (run_lowA (A := A) (us := [.ref a]) (vs := [.ref a]) (Q := fun z H' => z = .str t ∧ Same H H') (E := E0) G sb.room (Sub.env0 sb I) hb hps I (.cons rfl .nil) ⟨S, _, _, tr, rfl, Reps.cons kx Reps.nil, hF, fun z H' sm rz => ⟨rep_str rz, sm⟩⟩) (fun z s' hz => ?_) fun _ _ x => x
          obtain ⟨z', H', I', rz, ez, sm⟩ := hz
          subst ez
          obtain ⟨tk, rfl⟩ := rz
          exact ⟨tk, rfl, H', I', sm⟩
        unfold pyReprObjUnder pyReprObjBy
        refine wpAny_bind (wpAny_cRoomFor sb.room.units0 ?_)
        refine wpAny_bind (wpAny_bind (J.type.here ((PySem.W.looks_findIn X0 hs).here ?_)))
        show wpAny _ _ (if (some (Value.ref f)).isNone = true then _ else _) _ _ _
        rw [if_neg (by simp)]
        refine wpAny_bind (m := callSpecialIfBoundBy? _ (.ref a) (Str.ofString "__repr__")) ?_
        simp only [callSpecialIfBoundBy?, bindSpecialIfBound?]
        refine wpAny_holding (wpAny_bind (wpAny_bind (wpAny_bind (J.type.here ((PySem.W.looks_findIn X0 hs).here ?_)))))
        refine wpAny_bind (wpAny_askSetting (wpAny_ite ?_))
        have fin : ∀ {Q : Option Value → Shared → Prop}, (∀ tk s', (∃ H', Inv X pins σ H' s' ∧ Same H H') → Q (some (.str t tk)) s') → wpAny (model X.prog X.w) A (call (.ref f) ([.ref a] ++ []) >>= fun v => pure (some v)) Q X.xe s := fun {Q} q =>
          wpAny_bind (wpAny_mono go (fun v s' z => by obtain ⟨tk, rfl, w⟩ := z; exact wpAny_pure (q tk s' w)) fun _ _ h' => h')
        have last : ∀ tk s', (∃ H', Inv X pins σ H' s' ∧ Same H H') → wpAny (model X.prog X.w) A (do if ← isInstance (Value.str t tk) (.type "str") then pure (Value.str t tk) else raiseError "TypeError" s!"__repr__ returned non-string (type {← typeNameOf (Value.str t tk)})") (fun v s' => ∃ x u, v = Value.str x u ∧ (x = t ∧ ∃ H', Inv X pins σ H' s' ∧ Same H H')) X.xe s' := fun tk s' w =>
          wpAny_bind (wpAny_isInstance (T := "str") (b := true) rfl isSubtype_str_str (wpAny_pure ⟨_, _, rfl, rfl, w⟩))
        split
        · exact wpAny_bind ((PySem.W.bind_fn X0 _ (beq_iff_eq.mp hf)).here (wpAny_pure (by exact fin last)))
        · exact wpAny_tryCatch (wpAny_bind ((PySem.W.bind_fn X0 _ (beq_iff_eq.mp hf)).here (wpAny_pure (by exact fin last))))
      · cases e
    · cases e
  · cases e
/-- repr(e), the text found by g -/
def rRp (T : CT) (g : D → Option Str) : List V → Hp → VK → Prop := fun vs H Q => ∃ S x v t, vs = [v] ∧ (∀ a, S a → ∃ o, H a = some o) ∧ pl x = true ∧ Rep T H S x v ∧ rpLs g x = some t ∧ t.length ≤ sizeLine ∧ ∀ H', Same H H' → Q (.str t) H'
def funRp (g : D → Option Str) : List D → Option D
  | [x] => if pl x = true then (rpLs g x).bind fun t => if t.length ≤ big then some (.str t) else none else none
  | _ => none
theorem callv_rp : CallV T (rRp T g) (funRp g) := by
  intro S ds vs H d Q tr r e q
  unfold funRp at e
  split at e
  · rename_i x
    obtain ⟨hp, e⟩ := ite_some' e
    obtain ⟨t, h1, h2⟩ := bind_some1 e
    obtain ⟨hl, rfl⟩ := ite_some h2
    rw [Reps] at r
    obtain ⟨v, r2, rfl, r3, r4⟩ := r
    rw [Reps] at r4; subst r4
    exact ⟨S, x, v, t, rfl, tr, hp, r3, h1, big_line hl, fun H' sm => q _ H' sm (rep_lit rfl)⟩
  · cases e
theorem call_rp (h : RpB X T n g) (hq : Quiet X.A) (hr : Room (n + 2) X.A) : CallR X (.builtin "repr") (rRp T g) := by
  intro pins s σ H xs us Q I r hh
  obtain ⟨S, x, v, t, rfl, tr, hp, dx, e, hl, q⟩ := hh
  obtain ⟨u, rfl, ru⟩ := r.one
  have sb1 : Sub X (n + 1) X.A.in1 := ⟨hr.in1, rfl⟩
  have c0 : ClearD T H S [] x := fun id a rest kw z => by cases z
  unfold rpLs at e
  split at e
  · cases e
    rw [Rep] at dx
    obtain ⟨a, vs, rfl, ha, _, px⟩ := dx
    cases ru
    rw [Reps] at px; subst px
    obtain ⟨z, its, m0, r0, el, ea⟩ := I.lstM ha
    cases r0
    refine call_repr_slot sb1.room.units0 ⟨_, ea, rfl⟩ F.slot_list_repr.toG ?_
    refine call_list_repr_empty ⟨_, ea, rfl⟩ ea rfl ?_
    exact ⟨_, _, rfl, .str _, H, I.tok _, ⟨_, rfl⟩, q H (Same.refl _)⟩
  · rename_i y ys
    obtain ⟨ts, h1, rfl⟩ := map_some1 e
    have dx' := dx
    rw [Rep] at dx
    obtain ⟨a, vs, rfl, ha, _, px⟩ := dx
    cases ru
    obtain ⟨z, its, m0, r0, el, ea⟩ := I.lstM ha
    refine call_repr_slot sb1.room.units0 ⟨_, ea, rfl⟩ F.slot_list_repr.toG ?_
    refine wpAny_call (codeAny_call_builtin F.slot_list_repr.plain F.entry_list_repr (F.slot_list_repr.check _ _ _ _ _ _ _ _ ⟨_, ea, rfl⟩ (F.args_list_repr_1 _) ?_))
    exact rp_lst (R := callEnd _ X.xe) (base := 0) h sb1 hq c0 I tr hp ha dx' px h1 (by omega) (fun e s' q => q) fun s' tk w => by
      obtain ⟨H', I', sm⟩ := w
      exact ⟨_, _, rfl, .str _, H', I', ⟨_, rfl⟩, q H' sm⟩
  · rename_i ys
    obtain ⟨ts, h1, rfl⟩ := map_some1 e
    have dx' := dx
    rw [Rep] at dx
    obtain ⟨a, vs, rfl, ha, _, px⟩ := dx
    cases ru
    obtain ⟨its, r1, e1, z⟩ := I.tuple (show SqT X.K H a vs from .inl (.inl ha))
    have hty : s.TypeIs (.ref a) "tuple" := by
      obtain ⟨o, ho, hcl, _⟩ := e1
      exact ⟨o, ho, hcl⟩
    refine call_repr_slot sb1.room.units0 hty F.slot_tuple_repr ?_
    refine wpAny_call (codeAny_call_builtin_own (Code.quiet_builtin _ (by decide +kernel)) F.entry_tuple_repr (F.slot_tuple_repr.check _ _ _ _ _ _ _ _ hty (F.args_tuple_repr_1 _) ?_))
    exact rp_tup (R := callEnd _ X.xe) (base := 0) h (under_tup sb1) (isGuard_tuple_repr _) hq c0 I tr hp ha dx' px h1 (by omega) (fun e s' q => q) fun s' tk w => by
      obtain ⟨H', I', sm⟩ := w
      exact ⟨_, _, rfl, .str _, H', I', ⟨_, rfl⟩, q H' sm⟩
  · cases e
end
end Dl
/-! further rules by data: a module's ints, chains of comparisons, max, sum, xs * n, xs[::-1], list(..) as a new list, pop -/
namespace Dl
open PySem PySem.Spec PyProof.Rows L2
section
variable {X : Cx} {T : CT} {e a b : Expr} {es : List Expr} {fe fa fb fc : FE} {pos : Pos}
/-- a module's int -/
theorem pd_gint {x : Str} {i : Int} {tk : Tok} (hm : X.mg x = some (.int i tk)) (hg : Gl X x := by rfl) (hd : (x == ("__debug__" : Str)) = false := by decide) : PE X (.Name x pos) (tD T (fC (.int i))) := pd_c (pe_glob (v := .int i) hg hm ⟨tk, rfl⟩ hd)
/-- a op b op' c -/
def fChain (g g' : D → D → Option D) (fa fb fc : FE) : FE := fun δ => (fa δ).bind fun (x, δ1) => (fb δ1).bind fun (y, δ2) => match g x y with
  | some (.bl true) => (fc δ2).bind fun (z, δ3) => (g' y z).map fun d => (d, δ3)
  | some (.bl false) => some (.bl false, δ2)
  | _ => none
theorem chain_imp {r r' : R2} {g g' : D → D → Option D} (hv : OpV T r g) (hv' : OpV T r' g') {σ : L2.St} {H : Hp} {Q : VK} (h : tD T (fChain g g' fa fb fc) σ H Q) : tChain r r' (tD T fa) (tD T fb) (tD T fc) σ H Q := by
  obtain ⟨S0, δ, d, δ', ok, e, q⟩ := h
  obtain ⟨x, δ1, e1, e⟩ := bind_some2 e
  obtain ⟨y, δ2, e2, e⟩ := bind_some2 e
  refine ⟨S0, δ, x, δ1, ok, e1, fun vx H1 ok1 s1 r1 => ⟨S0, δ1, y, δ2, ok1, e2, fun vy H2 ok2 s2 r2 => ?_⟩⟩
  dsimp only at e
  split at e
  · rename_i hg
    obtain ⟨z, δ3, e3, e⟩ := bind_some2 e
    obtain ⟨w, e4, e5⟩ := map_some1 e
    cases e5
    refine hv (Av S0 σ δ2) x y vx vy H2 (.bl true) _ (fun b z => ok2.trk z) (s2.rep r1) r2 hg fun v H3 sm rv => ⟨true, rep_bl rv, ?_⟩
    rw [if_pos rfl]
    have ok3 := ok2.same sm
    refine ⟨S0, δ2, z, δ3, ok3, e3, fun vz H4 ok4 s4 r4 => ?_⟩
    have st := (s1.trans s2).trans ((Step.same sm).trans s4)
    refine hv' (Av S0 σ δ3) y z vy vz H4 d _ (fun b z => ok4.trk z) (s4.rep (r2.same sm)) r4 e4 fun v H5 sm5 rv5 => q v H5 (ok4.same sm5) (st.trans (Step.same sm5)) rv5
  · rename_i hg
    cases e
    refine hv (Av S0 σ δ') x y vx vy H2 (.bl false) _ (fun b z => ok2.trk z) (s2.rep r1) r2 hg fun v H3 sm rv => ⟨false, rep_bl rv, ?_⟩
    rw [if_neg Bool.false_ne_true]
    exact q _ H3 (ok2.same sm) ((s1.trans s2).trans (Step.same sm)) (rep_lit rfl)
  · cases e
theorem pd_chain {c : Expr} {op op' : CmpOp} {r r' : R2} {g g' : D → D → Option D} (ho : OpR X (compareOp op) r) (ho' : OpR X (compareOp op') r') (hv : OpV T r g) (hv' : OpV T r' g') (ha : PE X a (tD T fa)) (hb : PE X b (tD T fb)) (hc : PE X c (tD T fc)) (hm : lastMarks [op, op'] [b, c] = false := by with_unfolding_all rfl) :
    PE X (.Compare a [op, op'] [b, c] pos) (tD T (fChain g g' fa fb fc)) := PE.imp (pe_chain ho ho' ha hb hc hm) fun σ H Q h => chain_imp hv hv' h
theorem pt_chainD {c : Expr} {op op' : CmpOp} {r r' : R2} {g g' : D → D → Option D} (ho : OpR X (compareOp op) r) (ho' : OpR X (compareOp op') r') (hv : OpV T r g) (hv' : OpV T r' g') (ha : PE X a (tD T fa)) (hb : PE X b (tD T fb)) (hc : PE X c (tD T fc)) (hm : lastMarks [op, op'] [b, c] = false := by with_unfolding_all rfl) :
    PT X (.Compare a [op, op'] [b, c] pos) (tDt T (fB (fChain g g' fa fb fc))) := PT.imp (pt_chain ho ho' ha hb hc hm) fun σ H Q ⟨S0, δ, d, δ', ok, e, q⟩ => by
  refine chain_imp hv hv' ⟨S0, δ, .bl d, δ', ok, fB_some e, fun v H' ok' s r => ⟨d, rep_bl r, q H' ok' s⟩⟩
/-- the ints of a list -/
def intsOf : List D → Option (List Int)
  | [] => some []
  | .int i :: ds => (intsOf ds).map fun is => i :: is
  | _ => none
theorem ints_reps {H : Hp} {S : Addr → Prop} : ∀ {ds : List D} {vs : List V} {is : List Int}, Reps T H S ds vs → intsOf ds = some is → vs = is.map V.int
  | [], vs, is, r, e => by rw [Reps] at r; subst r; simp [intsOf] at e; subst e; rfl
  | .int i :: ds, vs, is, r, e => by
    rw [Reps] at r
    obtain ⟨v, w, rfl, r1, r2⟩ := r
    obtain ⟨js, e1, rfl⟩ := map_some1 e
    rw [rep_int r1, ints_reps r2 e1]; rfl
  | .non :: _, _, _, _, e => by simp [intsOf] at e
  | .bl _ :: _, _, _, _, e => by simp [intsOf] at e
  | .str _ :: _, _, _, _, e => by simp [intsOf] at e
  | .lst _ :: _, _, _, _, e => by simp [intsOf] at e
  | .tup _ :: _, _, _, _, e => by simp [intsOf] at e
  | .obj _ _ :: _, _, _, _, e => by simp [intsOf] at e
  | .cls _ :: _, _, _, _, e => by simp [intsOf] at e
  | .scr _ :: _, _, _, _, e => by simp [intsOf] at e
def funSum : List D → Option D
  | [.lst ds] => (intsOf ds).map fun is => .int is.sum
  | _ => none
theorem callv_sum {K : PySem.W.Frag} : CallV T (rSum K) funSum := by
  intro S ds vs H d Q tr r e q
  unfold funSum at e
  split at e
  · obtain ⟨is, e1, rfl⟩ := map_some1 e
    rw [Reps] at r
    obtain ⟨v, r2, rfl, r3, r4⟩ := r
    rw [Reps] at r4; subst r4
    rw [Rep] at r3
    obtain ⟨a, ws, rfl, ha, _, rs⟩ := r3
    exact ⟨a, is, rfl, .of (by rw [← ints_reps rs e1]; exact ha), q _ H (Same.refl _) (rep_lit rfl)⟩
  · cases e
/-- the greatest of a list -/
def topOf : List Int → Option Int
  | [] => none
  | [i] => some i
  | i :: is => (topOf is).map fun j => if j > i then j else i
theorem topOf_is : ∀ {is : List Int} {m : Int}, topOf is = some m → ∀ z, z ∈ is → (∀ y, y ∈ is → y ≤ z) → z = m
  | [i], m, h, z, hz, _ => by simp [topOf] at h hz; omega
  | i :: j :: is, m, h, z, hz, hm => by
    obtain ⟨t, e, rfl⟩ := map_some1 h
    have mem : ∀ {l : List Int} {t : Int}, topOf l = some t → t ∈ l := by
      intro l
      induction l with
      | nil => intro t e; simp [topOf] at e
      | cons a l ih =>
        intro t e
        cases l with
        | nil => simp [topOf] at e; simp [e]
        | cons b l =>
          obtain ⟨u, e1, rfl⟩ := map_some1 e
          have := ih e1
          split
          · exact List.mem_cons_of_mem _ this
          · exact List.mem_cons_self ..
    have lt := mem e
    have b1 := hm i (List.mem_cons_self ..)
    have b2 := hm t (List.mem_cons_of_mem _ lt)
    rcases List.mem_cons.mp hz with rfl | hz
    · split <;> omega
    · have := topOf_is e z hz fun y hy => hm y (List.mem_cons_of_mem _ hy)
      split <;> omega
def funMaxL : List D → Option D
  | [.lst ds] => (intsOf ds).bind fun is => (topOf is).map .int
  | _ => none
theorem callv_maxL {K : PySem.W.Frag} : CallV T (rMax K) funMaxL := by
  intro S ds vs H d Q tr r e q
  unfold funMaxL at e
  split at e
  · obtain ⟨is, e1, e2⟩ := bind_some1 e
    obtain ⟨m, e3, rfl⟩ := map_some1 e2
    rw [Reps] at r
    obtain ⟨v, r2, rfl, r3, r4⟩ := r
    rw [Reps] at r4; subst r4
    rw [Rep] at r3
    obtain ⟨a, ws, rfl, ha, _, rs⟩ := r3
    refine ⟨a, is, rfl, .of (by rw [← ints_reps rs e1]; exact ha), ?_, fun z hz hm => ?_⟩
    · cases is with
      | nil => simp [topOf] at e3
      | cons _ _ => simp
    · rw [topOf_is e3 z hz hm]
      exact q _ H (Same.refl _) (rep_lit rfl)
  · cases e
/-- xs * n -/
def gRep : D → D → Option D
  | .lst ds, .int k => if -(2 ^ 63) ≤ k ∧ k < 2 ^ 63 ∧ ds.length * k.toNat ≤ big then some (.lst (List.replicate k.toNat ds).flatten) else none
  | _, _ => none
theorem reps_flat {H : Hp} {S : Addr → Prop} {ds : List D} {vs : List V} (r : Reps T H S ds vs) : ∀ n : Nat, Reps T H S (List.replicate n ds).flatten (List.replicate n vs).flatten
  | 0 => Reps.nil
  | n + 1 => by
    rw [List.replicate_succ, List.replicate_succ, List.flatten_cons, List.flatten_cons]
    exact r.append (reps_flat r n)
theorem opv_rep : OpV T rRep gRep := by
  intro S x y vx vy H d Q tr rx ry e q
  unfold gRep at e
  split at e
  · rename_i ds k
    obtain ⟨⟨h1, h2, h3⟩, rfl⟩ := ite_some e
    rw [Rep] at rx
    obtain ⟨a, vs, rfl, ha, _, r⟩ := rx
    rw [rep_int ry]
    refine ⟨a, k, vs, rfl, rfl, ha, h1, h2, by rw [r.length]; exact big_line h3, fun p hp => ?_⟩
    have := fresh_rep tr hp (reps_flat r k.toNat)
    exact q _ _ this.1 this.2
  · cases e
/-- e[::-1], a new list -/
def fRev (f : FE) : FA := fun δ => (f δ).bind fun (d, δ1) => match d with
  | .lst ds => some (ds.reverse, δ1)
  | _ => none
theorem pf_rev {k : Nat} {p1 p2 p3 : Pos} (he : PE X e (tD T fe)) : PE X (.Subscript e (.Slice none none (some (.UnaryOp .USub (.Constant (.int 1) k p1) p2)) p3) pos) (tF T (fRev fe)) := PE.imp (pe_revL he) fun σ H Q ⟨S0, δ, ds, δ', ok, e, q⟩ => by
  obtain ⟨d, δ1, e1, e2⟩ := bind_some2 e
  dsimp only at e2
  split at e2
  · rename_i es
    cases e2
    refine ⟨S0, δ, .lst es, δ', ok, e1, fun v H1 ok1 s1 r1 => ?_⟩
    rw [Rep] at r1
    obtain ⟨a, vs, rfl, ha, _, rs⟩ := r1
    exact ⟨a, vs, rfl, .of ha, fun p hp => q p _ H1 ok1 s1 hp rs.reverse⟩
  · cases e2
/-- list(e), a new list -/
def fLof (fa : FA) : FA := fun δ => (fa δ).bind fun (ds, δ1) => match ds with
  | [.lst es] => some (es, δ1)
  | [.tup es] => some (es, δ1)
  | _ => none
theorem pf_lof {p : Pos} {fa : FA} (hm : X.mg "list" = none) (ha : PA X (e :: es) (tDs T fa)) (hg : Gl X "list" := by rfl)
    (he : starEach (e :: es) X.env = (false, eval e X.env) :: starEach es X.env := by rfl) (hpl : (backTo pos (starEach es X.env)).any (·.1) = false := by rfl) : PE X (.Call (.Name "list" p) (e :: es) [] pos) (tF T (fLof fa)) :=
  PE.imp (pe_callTy call_list_of hg hm rfl ha (by decide) (by decide) he hpl) fun σ H Q ⟨S0, δ, ds, δ', ok, e, q⟩ => by
  obtain ⟨ds1, δ1, e1, e2⟩ := bind_some2 e
  dsimp only at e2
  split at e2
  · rename_i es'
    cases e2
    refine ⟨S0, δ, _, δ', ok, e1, fun vs H1 ok1 s1 r1 => ?_⟩
    rw [Reps] at r1
    obtain ⟨v, w, rfl, r2, r3⟩ := r1
    rw [Reps] at r3; subst r3
    rw [Rep] at r2
    obtain ⟨a, ws, rfl, ha, _, rs⟩ := r2
    exact ⟨a, ws, rfl, .inl (.of ha), fun l hl => q l _ H1 ok1 s1 hl rs⟩
  · rename_i es'
    cases e2
    refine ⟨S0, δ, _, δ', ok, e1, fun vs H1 ok1 s1 r1 => ?_⟩
    rw [Reps] at r1
    obtain ⟨v, w, rfl, r2, r3⟩ := r1
    rw [Reps] at r3; subst r3
    rw [Rep] at r2
    obtain ⟨a, ws, rfl, ha, _, rs⟩ := r2
    exact ⟨a, ws, rfl, .inr (.inl (.inl ha)), fun l hl => q l _ H1 ok1 s1 hl rs⟩
  · cases e2
/-- x.pop() as a statement -/
def sPop (i : Nat) : FS := fun δ => match δ[i]? with
  | some (.own w xs) => if isL w = true ∧ xs ≠ [] then some (.nx (δ.set i (.own w xs.dropLast))) else none
  | _ => none
theorem reps_dropLast {H : Hp} {S : Addr → Prop} {ds : List D} {vs : List V} (r : Reps T H S ds vs) : Reps T H S ds.dropLast vs.dropLast := by
  rw [List.dropLast_eq_take, List.dropLast_eq_take, r.length]
  exact r.take _
theorem st_pop {i : Nat} {y : Str} {py pa pe : Pos} (hN : X.N[i]? = some y := by rfl) (hv : Vis X.env.scope y := by first | exact Or.inl rfl | exact Or.inr (Or.inl rfl) | exact Or.inr (Or.inr rfl)) (hdy : (y == ("__debug__" : Str)) = false := by decide) (hcd : (y == ("__classdict__" : Str)) = false := by decide)
    (h : ∀ {ty : TE}, PE X (.Name y py) ty → PE X (.Call (.Attribute (.Name y py) "pop" pa) [] [] pe) (tBM0 X.K "list" rPop ty)) (hs : swapsWith (.Call (.Attribute (.Name y py) "pop" pa) [] [] pe) none pos.line X.env = pure false := by rfl) :
    PS X (.Expr (.Call (.Attribute (.Name y py) "pop" pa) [] [] pe) pos) (tSt T (sPop i)) := PS.imp (ps_expr (h (pe_var hN hv hdy hcd)) hs) fun E σ H ⟨S0, δ, r, ok, e, q⟩ => by
  unfold sPop at e
  split at e
  case h_2 => cases e
  rename_i w xs hw
  obtain ⟨⟨hp, hne⟩, e2⟩ := ite_some e
  subst e2
  obtain ⟨a, us, ea, ha0, r0, _⟩ := ok.ow i w xs hw
  rw [isL_ho hp] at ha0
  have lv := r0.length
  have hlt : us.length - 1 < us.length := by
    have : xs.length ≠ 0 := fun z => hne (List.length_eq_zero_iff.mp z)
    omega
  refine ⟨_, ea, .inl ⟨rfl, _, SqL.of ha0⟩, a, us, us[us.length - 1], rfl, rfl, ha0, List.getElem?_eq_getElem hlt, ?_⟩
  have na : Av S0 σ δ a := .inr ⟨i, w, xs, hw, ea⟩
  have hk : ∀ b o, H b = some o → b ≠ a → upd H a (.lst us.dropLast) b = some o := fun b o e ne => by rw [upd_ne ne]; exact e
  obtain ⟨ok2, s2⟩ := ok.change (H' := upd H a (.lst us.dropLast)) (us := us.dropLast) hw ea hk (by rw [isL_ho hp]; exact upd_same) ((reps_dropLast r0).move (fun b o e n => hk b o e fun z => n (by rw [z]; exact na)) fun b z => .inl z)
  exact q _ _ ok2 s2
end
end Dl
namespace Dl
open PySem PySem.Spec PyProof.Rows L2
section
variable {X : Cx} {T : CT} {e a b : Expr} {es : List Expr} {fe fb fc : FE} {pos : Pos}
/-- two names, the first gets a new list of its own -/
def sParF (i j : Nat) (fa : FA) (fb : FE) : FS := fun δ => (fa δ).bind fun (zs, δ1) => (fb δ1).bind fun (y, δ2) => some (.nx ((δ2.set i (.own .mine zs)).set j (.val y)))
theorem st_parF (i j : Nat) {x y : Str} {fa : FA} {px py pt : Pos} {kt k2 pt2} (hc : X.calm = true) (hN : X.N.Nodup) (ha : PE X a (tF T fa)) (hb : PE X b (tD T fb)) (hij : i ≠ j := by decide) (hi : X.N[i]? = some x := by rfl) (hj : X.N[j]? = some y := by rfl)
    (hx : X.env.scope.names.lookup x = some .local := by rfl) (hy : X.env.scope.names.lookup y = some .local := by rfl)
    (h1 : starEach [a, b] X.env = (false, eval a X.env) :: starEach [b] X.env := by rfl) (h2 : starEach [b] X.env = (false, eval b X.env) :: starEach [] X.env := by rfl)
    (hw : swappedStores [.Tuple [.Name x px, .Name y py] kt pt] (.Tuple [a, b] k2 pt2) X.env = pure (some [x, y]) := by rfl)
    (hs : swapsWithSole [.Tuple [.Name x px, .Name y py] kt pt] (.Tuple [a, b] k2 pt2) pos.line X.env = pure false := by rfl) :
    PS X (.Assign [.Tuple [.Name x px, .Name y py] kt pt] (.Tuple [a, b] k2 pt2) pos) (tSt T (sParF i j fa fb)) := PS.imp (ps_par hc hN hi hj hij hx hy (pa_cons ha (pa_cons hb pa_nil h2) h1) hw hs) fun E σ H ⟨S0, δ, r, ok, e, q⟩ => by
  obtain ⟨zs, δ1, e1, e2⟩ := bind_some2 e
  obtain ⟨dy, δ2, e3, e4⟩ := bind_some2 e2
  cases e4
  refine ⟨S0, δ, zs, δ1, ok, e1, fun p vs H1 ok1 s1 hp r1 => ?_⟩
  obtain ⟨okA, nA⟩ := ok1.apart (D := p) (o := .lst vs) hp
  refine ⟨orD S0 p, δ1, dy, δ2, okA, e3, fun v H2 ok2 s2 r2 => ?_⟩
  have hS : ¬ S0 p := fun z => by obtain ⟨o, e⟩ := ok1.tr p z; rw [hp] at e; cases e
  have h2p : H2 p = some (.lst vs) := s2.keep p _ upd_same nA
  have n2 : ¬ ownAt σ δ2 p := fun z => (s2.own p z).elim nA fun q => by rw [upd_same] at q; cases q
  obtain ⟨ok3, mv⟩ := ok2.erase hS n2
  have sm : Same H1 (upd H1 p (.lst vs)) := fun b o e => by rw [upd_ne (ne_of_none e hp)]; exact e
  have s3 : Step σ δ1 H1 σ δ2 (er H2 p) := ((Step.same sm).trans s2).erase hp
  have rr := mv (Reps.cons r2 Reps.nil)
  rw [Reps] at rr
  obtain ⟨v', w', ev, rv, _⟩ := rr
  cases ev
  obtain ⟨ok4, s4⟩ := ok3.storeOwn (i := i) er_self (s3.reps r1)
  obtain ⟨ok5, s5⟩ := ok4.store (i := j) (s4.rep rv)
  rw [upd_er h2p] at ok5 s5 s4
  exact ⟨.ref p, v, rfl, q _ _ ok5 (((s1.trans s3).trans s4).trans s5)⟩

/-- x op b, x a list of its own, which it stays -/
def fCmpO (i : Nat) (g : D → D → Option D) (fb : FE) : FE := fun δ => if isOwnL δ[i]? = true then (fb δ).bind fun (d, δ1) => match δ1[i]? with
    | some (.own w xs) => if isL w = true then (match g (.lst xs) d with
      | some (.bl r) => some (.bl r, δ1)
      | _ => none) else none
    | _ => none
  else none
theorem own_seen {S0 : Addr → Prop} {σ : L2.St} {δ : Es} {H : Hp} {i : Nat} {w : Ow} {xs : List D} (ok : Ok T S0 σ δ H) (hw : δ[i]? = some (.own w xs)) (hL : isL w = true) : ∃ a vs, σ[i]? = some (some (.ref a)) ∧ H a = some (.lst vs) ∧ Rep T H (fun b => Av S0 σ δ b ∧ b ≠ a) (.lst xs) (.ref a) := by
  obtain ⟨a, vs, e1, e2, e3, _⟩ := ok.ow i w xs hw
  rw [isL_ho hL] at e2
  refine ⟨a, vs, e1, e2, ?_⟩
  rw [Rep]
  exact ⟨a, vs, rfl, e2, fun z => z.2 rfl, e3.sub fun b z => z.1⟩
theorem cmpO_imp {r : R2} {g : D → D → Option D} {i : Nat} (hv : OpV T r g) {σ : L2.St} {H : Hp} {Q : VK} (h : tD T (fCmpO i g fb) σ H Q) : tOp r (tVar i) (tD T fb) σ H Q := by
  obtain ⟨S0, δ, d, δ', ok, e, q⟩ := h
  unfold fCmpO at e
  by_cases h0 : isOwnL δ[i]? = true
  case neg => rw [if_neg h0] at e; cases e
  rw [if_pos h0] at e
  obtain ⟨d1, δ1, e1, e2⟩ := bind_some2 e
  obtain ⟨w0, xs0, e0, w0L⟩ := ownL_of h0
  obtain ⟨a, us, ea, ha0, _⟩ := ok.ow i w0 xs0 e0
  dsimp only at e2
  split at e2
  case h_2 => cases e2
  rename_i w xs hw
  obtain ⟨hp, e2⟩ := ite_some' e2
  split at e2
  case h_2 => cases e2
  rename_i r0 e3
  cases e2
  refine ⟨_, ea, S0, δ, d1, δ', ok, e1, fun v H1 ok1 s1 r1 => ?_⟩
  obtain ⟨b, vs, q1, q2, q3⟩ := own_seen ok1 hw hp
  rw [ea] at q1; cases q1
  exact hv _ (.lst xs) d1 (.ref a) v H1 (.bl r0) _ (fun b z => ok1.trk z.1) q3 (r1.sub fun b z => z.1) e3 fun v2 H2 sm rv => by
    rw [rep_bl rv]
    exact q _ H2 (ok1.same sm) (s1.trans (Step.same sm)) (rep_lit rfl)
theorem pd_cmpO {op : CmpOp} {r : R2} {g : D → D → Option D} {i : Nat} {y : Str} {py : Pos} (ho : OpR X (compareOp op) r) (hv : OpV T r g) (hb : PE X b (tD T fb)) (hm : behindInMarks op b = false) (hN : X.N[i]? = some y := by rfl) (hvis : Vis X.env.scope y := by first | exact Or.inl rfl | exact Or.inr (Or.inl rfl) | exact Or.inr (Or.inr rfl))
    (hdy : (y == ("__debug__" : Str)) = false := by decide) (hcd : (y == ("__classdict__" : Str)) = false := by decide) : PE X (.Compare (.Name y py) [op] [b] pos) (tD T (fCmpO i g fb)) := PE.imp (pe_cmpR ho (pe_var hN hvis hdy hcd) hb hm) fun σ H Q h => cmpO_imp hv h
theorem pt_cmpO {op : CmpOp} {r : R2} {g : D → D → Option D} {i : Nat} {y : Str} {py : Pos} (ho : OpR X (compareOp op) r) (hv : OpV T r g) (hb : PE X b (tD T fb)) (hm : behindInMarks op b = false) (hN : X.N[i]? = some y := by rfl) (hvis : Vis X.env.scope y := by first | exact Or.inl rfl | exact Or.inr (Or.inl rfl) | exact Or.inr (Or.inr rfl))
    (hdy : (y == ("__debug__" : Str)) = false := by decide) (hcd : (y == ("__classdict__" : Str)) = false := by decide) : PT X (.Compare (.Name y py) [op] [b] pos) (tDt T (fB (fCmpO i g fb))) := PT.imp (pt_cmpR ho (pe_var hN hvis hdy hcd) hb hm) fun σ H Q ⟨S0, δ, d, δ', ok, e, q⟩ => by
  refine cmpO_imp hv ⟨S0, δ, .bl d, δ', ok, fB_some e, fun v H' ok' s r => ⟨d, rep_bl r, q H' ok' s⟩⟩
end
end Dl
/-! a new list of new lists -/
namespace Dl
open PySem PySem.Spec PyProof.Rows L2
/-- the lists at ps are new since H, unlike, apart from S, and bear xss -/
structure News (T : CT) (H H1 : Hp) (S : Addr → Prop) (xss : List (List D)) (ps : List Addr) : Prop where
  len : ps.length = xss.length
  nd : ps.Nodup
  at_ : ∀ (i : Nat) p xs, ps[i]? = some p → xss[i]? = some xs → H p = none ∧ ¬ S p ∧ ∃ ws, H1 p = some (.lst ws) ∧ Reps T H1 S xs ws
theorem News.nil {T : CT} {H H1 : Hp} {S : Addr → Prop} : News T H H1 S [] [] := ⟨rfl, List.nodup_nil, fun i p xs h => by simp at h⟩
theorem News.reps {T : CT} {H H1 : Hp} {S : Addr → Prop} : ∀ {xss : List (List D)} {ps : List Addr}, News T H H1 S xss ps → Reps T H1 S (xss.map D.lst) (ps.map V.ref)
  | [], [], _ => Reps.nil
  | [], p :: ps, n => by have := n.len; simp at this
  | xs :: xss, [], n => by have := n.len; simp at this
  | xs :: xss, p :: ps, n => by
    obtain ⟨_, h2, ws, h3, h4⟩ := n.at_ 0 p xs rfl rfl
    refine Reps.cons ?_ (News.reps (xss := xss) (ps := ps) ⟨by have := n.len; simpa using this, (List.nodup_cons.mp n.nd).2, fun i q ys e1 e2 => n.at_ (i + 1) q ys (by simpa using e1) (by simpa using e2)⟩)
    rw [Rep]
    exact ⟨p, ws, rfl, h3, h2, h4⟩
theorem News.mem {T : CT} {H H1 : Hp} {S : Addr → Prop} {xss : List (List D)} {ps : List Addr} (n : News T H H1 S xss ps) {p : Addr} (h : p ∈ ps) : H p = none ∧ ¬ S p ∧ ∃ ws, H1 p = some (.lst ws) := by
  obtain ⟨i, hi⟩ := List.getElem?_of_mem h
  obtain ⟨hl, _⟩ := List.getElem?_eq_some_iff.mp hi
  have hx : i < xss.length := by rw [← n.len]; exact hl
  obtain ⟨h1, h2, ws, h3, _⟩ := n.at_ i p _ hi (List.getElem?_eq_getElem hx)
  exact ⟨h1, h2, ws, h3⟩
theorem News.move {T : CT} {H H1 H2 : Hp} {S S' : Addr → Prop} {xss : List (List D)} {ps : List Addr} (n : News T H H1 S xss ps) (hk : ∀ b o, H1 b = some o → ¬ S b → H2 b = some o) (hs : ∀ b, S' b → S b ∨ H1 b = none) : News T H H2 S' xss ps :=
  ⟨n.len, n.nd, fun i p xs e1 e2 => by
    obtain ⟨h1, h2, ws, h3, h4⟩ := n.at_ i p xs e1 e2
    refine ⟨h1, fun z => ?_, ws, hk _ _ h3 h2, h4.move hk hs⟩
    rcases hs _ z with z | z
    · exact h2 z
    · rw [h3] at z; cases z⟩
theorem News.snoc {T : CT} {H H1 : Hp} {S : Addr → Prop} {xss : List (List D)} {ps : List Addr} {xs : List D} {p : Addr} {ws : List V} (n : News T H H1 S xss ps) (hp : H p = none) (hS : ¬ S p) (h1 : H1 p = some (.lst ws)) (r : Reps T H1 S xs ws) (hn : p ∉ ps) : News T H H1 S (xss ++ [xs]) (ps ++ [p]) := by
  refine ⟨by simp [n.len], ?_, fun i q ys e1 e2 => ?_⟩
  · rw [List.nodup_append]
    exact ⟨n.nd, by simp, fun a ha b hb => by simp at hb; subst hb; exact fun z => hn (z ▸ ha)⟩
  · by_cases hi : i < ps.length
    · rw [List.getElem?_append_left hi] at e1
      rw [List.getElem?_append_left (by rw [← n.len]; exact hi)] at e2
      exact n.at_ i q ys e1 e2
    · rw [List.getElem?_append_right (by omega)] at e1
      rw [List.getElem?_append_right (by rw [← n.len]; omega), ← n.len] at e2
      obtain ⟨h, _⟩ := List.getElem?_eq_some_iff.mp e1
      have h0 : i - ps.length = 0 := by simp at h; omega
      rw [h0] at e1 e2
      simp at e1 e2
      subst e1 e2
      exact ⟨hp, hS, ws, h1, r⟩
abbrev FL := Es → Option (List (List D) × Es)
def tNs (T : CT) (f : FL) : TE := fun σ H Q => ∃ S0 δ xss δ', Ok T S0 σ δ H ∧ f δ = some (xss, δ') ∧ ∀ a ps H1, Ok T S0 σ δ' H1 → Step σ δ H σ δ' H1 → H1 a = none → H a = none → News T H H1 (Av S0 σ δ') xss ps → Q (.ref a) (upd H1 a (.lst (ps.map V.ref)))
def lcN (ft : FG) (fc : FT) (fe : FA) (vs : List Nat) : List D → List (List D) → Es → Option (List (List D) × Es)
  | [], acc, δ => some (acc, δ)
  | d :: ds, acc, δ => (ft d δ).bind fun δ1 => (fc δ1).bind fun (b, δ2) => if b = true then (fe δ2).bind fun (y, δ3) => if acc.length ≤ big then lcN ft fc fe vs ds (acc ++ [y]) (wipeE δ3 vs) else none
    else lcN ft fc fe vs ds acc (wipeE δ2 vs)
def fLcN (fI : FA) (ft : FG) (fc : FT) (fe : FA) (vs : List Nat) : FL := fun δ => (fI δ).bind fun (ds, δ1) => lcN ft fc fe vs ds [] (wipeE δ1 vs)
section
variable {T : CT}
theorem lcN_reading {fI : FA} {ft : FG} {fc : FT} {fe : FA} {vs : List Nat} {σ : L2.St} {H : Hp} {Q : VK} (h : tNs T (fLcN fI ft fc fe vs) σ H Q) : tLc (tIt T fI) (tTg T vs ft) (tDt T fc) (tF T fe) vs σ H Q := by
  obtain ⟨S0, δ, res, δ', ok, e, q⟩ := h
  obtain ⟨ds, δ1, e1, e2⟩ := bind_some2 e
  refine ⟨S0, δ, ds, δ1, ok, e1, fun J H1 ok1 s1 run A hA => ?_⟩
  have hS : ¬ S0 A := fun z => by obtain ⟨o, e⟩ := ok1.tr A z; rw [hA] at e; cases e
  have hA0 : H A = none := by
    cases e : H A with
    | none => rfl
    | some o => obtain ⟨o', e'⟩ := s1.trk A o e; rw [hA] at e'; cases e'
  obtain ⟨okw, sw⟩ := ok1.wipe vs
  obtain ⟨okd, nd⟩ := okw.apart (D := A) (o := .lst []) hA
  refine ⟨fun i m H' => m = ds.length - i ∧ i ≤ ds.length ∧ ∃ δi outs ps, Ok T (orD S0 A) (L2.wipe σ vs) δi H' ∧ Step σ δ1 H1 (L2.wipe σ vs) δi H' ∧ H' A = some (.lst (ps.map V.ref)) ∧ News T H1 H' (Av (orD S0 A) (L2.wipe σ vs) δi) outs ps ∧ ¬ ownAt (L2.wipe σ vs) δi A ∧
      (∀ i ∈ vs, ∀ s, δi[i]? = some s → s = .un) ∧ lcN ft fc fe vs (ds.drop i) outs δi = some (res, δ'),
    ⟨ds.length, by simp, Nat.zero_le _, wipeE δ1 vs, [], [], okd, sw.poke hA, upd_same, News.nil, nd, fun i hi s hs => wipeE_un hi hs, e2⟩, ?_⟩
  rintro i m H' ⟨rfl, hle, δi, outs, ps, oki, si, hAi, ri, ni, ui, ei⟩
  have pers : ∀ d v, Rep T H1 (Av S0 σ δ1) d v → Rep T H' (Av (orD S0 A) (L2.wipe σ vs) δi) d v := fun d v z => z.move (fun b o e n => si.keep b o e fun w => n (.inr w)) fun b w => w.elim (fun w => w.elim (fun w => .inl (.inl w)) fun w => .inr (by rw [w]; exact hA)) fun w => (si.own b w).elim (fun w => .inl (.inr w)) .inr
  obtain ⟨r1, r2⟩ := run _ H' (fun b z => oki.trk z) pers
  by_cases hlt : i < ds.length
  · refine .inr ⟨(r1 i _ (List.getElem?_eq_getElem hlt)).1, fun H2 => ∃ δi outs ps, Ok T (orD S0 A) (L2.wipe σ vs) δi H2 ∧ Step σ δ1 H1 (L2.wipe σ vs) δi H2 ∧ H2 A = some (.lst (ps.map V.ref)) ∧ News T H1 H2 (Av (orD S0 A) (L2.wipe σ vs) δi) outs ps ∧ ¬ ownAt (L2.wipe σ vs) δi A ∧
      (∀ i ∈ vs, ∀ s, δi[i]? = some s → s = .un) ∧ lcN ft fc fe vs (ds.drop (i + 1)) outs δi = some (res, δ'), fun H2 z => ⟨ds.length - (i + 1), by omega, rfl, hlt, z⟩, fun x H2 hy => ?_⟩
    obtain ⟨sm, rx⟩ := (r1 i _ (List.getElem?_eq_getElem hlt)).2 x H2 hy
    replace oki := oki.same sm
    replace si := si.trans (Step.same sm)
    replace hAi := sm _ _ hAi
    replace ri := ri.move (fun b o e _ => sm b o e) fun b z => .inl z
    rw [drop_cons hlt] at ei
    obtain ⟨δa, e3, e4⟩ := bind_some1 ei
    obtain ⟨b, δb, e5, e6⟩ := bind_some2 e4
    refine ⟨orD S0 A, δi, _, δa, oki, rx, e3, fun σa Ha ag oka sa => ?_⟩
    have hw : L2.wipe σa vs = L2.wipe σ vs := by
      rw [wipe_eq (vs := vs) (σ := L2.wipe σ vs) (σ1 := σa) ag.1 fun j hj => by rw [ag.2 j hj, wipe_get vs (L2.wipe σ vs), if_neg (fun z => hj z.1)]]
      exact wipe_eq (by rw [L2.wipe_length]) fun j _ => rfl
    refine ⟨hw, orD S0 A, δa, b, δb, oka, e5, fun Hb okb sb => ?_⟩
    have nown : ∀ {σx : L2.St} {δx : Es} {Hx : Hp}, Step (L2.wipe σ vs) δi H2 σx δx Hx → ¬ ownAt σx δx A := fun s z => (s.own A z).elim ni fun w => by rw [hAi] at w; cases w
    have news : ∀ {σx : L2.St} {δx : Es} {Hx : Hp}, Step (L2.wipe σ vs) δi H2 σx δx Hx → News T H1 Hx (Av (orD S0 A) σx δx) outs ps := fun s => ri.move (fun b o e n => s.keep b o e fun z => n (.inr z)) fun b z => z.elim (fun z => .inl (.inl z)) fun z => (s.own b z).elim (fun z => .inl (.inr z)) .inr
    cases b with
    | false =>
      dsimp only at e6
      show (if _ then _ else _)
      rw [if_neg Bool.false_ne_true] at e6 ⊢
      obtain ⟨okc, sc⟩ := okb.wipe vs
      rw [hw] at okc sc
      have st := (sa.trans sb).trans sc
      exact ⟨_, outs, ps, okc, si.trans st, st.keep A _ hAi ni, news st, nown st, fun i hi s hs => wipeE_un hi hs, e6⟩
    | true =>
      dsimp only at e6
      show (if _ then _ else _)
      rw [if_pos rfl] at e6 ⊢
      obtain ⟨y, δc, e7, e8⟩ := bind_some2 e6
      obtain ⟨hb, e8⟩ := ite_some' e8
      refine ⟨orD S0 A, δb, y, δc, okb, e7, fun p ws Hc okc sc hp ry => ?_⟩
      have smp : Same Hc (upd Hc p (.lst ws)) := fun b o e => by rw [upd_ne (ne_of_none e hp)]; exact e
      have okp := okc.same smp
      have scp := sc.trans (Step.same smp)
      obtain ⟨okd, sd⟩ := okp.wipe vs
      rw [hw] at okd sd
      have st := ((sa.trans sb).trans scp).trans sd
      have stc := ((sa.trans sb).trans sc)
      have hAc := stc.keep A _ hAi ni
      have pA : p ≠ A := fun z => by rw [z, hAc] at hp; cases hp
      have nS : ¬ Av (orD S0 A) (L2.wipe σ vs) (wipeE δc vs) p := fun z => by
        obtain ⟨okd0, sd0⟩ := okc.wipe vs
        rw [hw] at okd0
        exact okd0.fresh hp z
      have pps : p ∉ ps := fun z => by
        obtain ⟨_, _, ws', h3⟩ := (news stc).mem z
        rw [hp] at h3; cases h3
      have pH1 : H1 p = none := by
        cases e : H1 p with
        | none => rfl
        | some o => obtain ⟨o', e'⟩ := (si.trans stc).trk p o e; rw [hp] at e'; cases e'
      have n1 := (news st).snoc (p := p) (xs := y) (ws := ws) pH1 nS upd_same ((sd.reps (ry.same smp))) pps
      have mv : ∀ b u, upd Hc p (.lst ws) b = some u → ¬ Av (orD S0 A) (L2.wipe σ vs) (wipeE δc vs) b → upd (upd Hc p (.lst ws)) A (.lst ((ps ++ [p]).map V.ref)) b = some u := fun b u e n => by rw [upd_ne (fun z => n (by rw [z]; exact .inl (.inr rfl)))]; exact e
      refine ⟨ps.map V.ref, smp _ _ hAc, by rw [List.length_map, ri.len]; exact big_line' hb, ?_⟩
      have eq : ps.map V.ref ++ [V.ref p] = (ps ++ [p]).map V.ref := by simp
      rw [eq]
      exact ⟨_, outs ++ [y], ps ++ [p], okd.poke (.inr rfl) (nown st), (si.trans st).poke hA, upd_same, n1.move mv fun b z => .inl z, nown st, fun i hi s hs => wipeE_un hi hs, e8⟩
  · have hi : i = ds.length := by omega
    subst hi
    rw [List.drop_length] at ei
    cases ei
    refine .inl ⟨r2, ?_⟩
    have hl : σ.length = (L2.wipe σ vs).length := by rw [L2.wipe_length]
    have ha : ∀ (i : Nat) s, δ'[i]? = some s → s ≠ .un → σ[i]? = (L2.wipe σ vs)[i]? := fun i s hs ns => by
      rw [wipe_get, if_neg]
      exact fun z => ns (ui i z.1 s hs)
    obtain ⟨ok2, s2⟩ := oki.agree hl ha
    have n2 : ¬ ownAt σ δ' A := fun z => (s2.own A z).elim ni fun w => by rw [hAi] at w; cases w
    obtain ⟨ok3, mvE⟩ := ok2.erase hS n2
    have s3 := (s1.trans ((si.trans s2).erase hA))
    have nw2 : News T H1 H' (Av (orD S0 A) σ δ') res ps := ri.move (fun b o e n => s2.keep b o e fun z => n (.inr z)) fun b z => z.elim (fun z => .inl (.inl z)) fun z => (s2.own b z).elim (fun z => .inl (.inr z)) .inr
    have nw3 : News T H (er H' A) (Av S0 σ δ') res ps := by
      refine ⟨nw2.len, nw2.nd, fun i p xs ea eb => ?_⟩
      obtain ⟨h1, h2, ws, h3, h4⟩ := nw2.at_ i p xs ea eb
      have pA : p ≠ A := fun z => h2 (by rw [z]; exact .inl (.inr rfl))
      refine ⟨?_, fun z => h2 (z.elim (fun z => .inl (.inl z)) .inr), ws, by rw [er_ne pA]; exact h3, mvE h4⟩
      cases e : H p with
      | none => rfl
      | some o => obtain ⟨o', e'⟩ := s1.trk p o e; rw [h1] at e'; cases e'
    have := q A ps (er H' A) ok3 s3 er_self hA0 nw3
    rw [upd_er hAi] at this
    exact this
end
end Dl
namespace Dl
open PySem PySem.Spec PyProof.Rows L2
/-- a def that gives a new list of new lists -/
def spN (T : CT) (n : Nat) (F : List D → Option (List (List D))) : Sp := fun vs H Q _ => ∃ S ds xss, (∀ b, S b → ∃ o, H b = some o) ∧ ds.length = n ∧ Reps T H S ds vs ∧ F ds = some xss ∧ ∀ a ps H1, Same H H1 → H1 a = none → H a = none → News T H H1 S xss ps → Q (.ref a) (upd H1 a (.lst (ps.map V.ref)))
def outN (m : Nat) (g : FL) (ds : List D) : Option (List (List D)) := (g (ini m ds)).map (·.1)
def asLst (F : List D → Option (List (List D))) : List D → Option D := fun ds => (F ds).map fun xss => .lst (xss.map D.lst)
section
variable {P : Program} {w : World} {K : PySem.W.Frag} {mg : Str → Option Value} {base : Heap} {T : CT}
theorem okN {x qual : Str} {st : Stmt} {f : Addr} {fd : FuncData} {N ps : List Str} {k m n : Nat} {g : FL} {e : Expr} {pos : Pos} (F : Fun K x qual st f fd) (S : FnScope N ps (defScope st)) (hN : N.length = m) (hps : ps.length = n) (hbd : defBody st = [.Return (some e) pos])
    (body : ∀ (cdv : Value) (A : Around) (outer : List PySem.Env) (s : Shared) (H : Hp) (E : XK), Quiet A → Room k (A.deeper (envOfC qual (defScope st) s.heap.objs.size f cdv)) → PE (cxOf CX0 P w K mg base N qual (defScope st) f cdv A outer s H E).nox e (tNs T g)) : FnG P w K mg base (k + 1) f fd ps (spN T n (outN m g)) := by
  subst hN hps
  obtain ⟨oc, od, kV, doc, pm, an, cdv, ct, osl, rfl, lk, hcd⟩ := F.ex
  refine fnG_of lk hcd S (fun vs H Q E h => ?_) (fun A outer s H vs Q E hq hr h => ?_)
  · obtain ⟨S, ds, d, _, hl, r, _⟩ := h
    rw [r.length, hl]
  · obtain ⟨S, ds, xs, tr, hl, r, eG, q⟩ := h
    unfold outN at eG
    obtain ⟨z, e1, e2⟩ := map_some1 eG
    obtain ⟨ys, δ'⟩ := z
    cases e2
    rw [hbd]
    refine ⟨_, pss_one (ps_ret (body cdv A outer s H E hq hr)), S, ini N.length ds, _, δ', ini_ok tr r, e1, fun a ps H1 ok1 s1 ha h0 rs => ?_⟩
    exact q a ps H1 (fun b o e => s1.keep b o e (ini_own b)) ha h0 (rs.move (fun _ _ e _ => e) fun b z => .inl (.inl z))
theorem FnG.asLst {f : Addr} {fd : FuncData} {ps : List Str} {k n : Nat} {F : List D → Option (List (List D))} (G : FnG P w K mg base k f fd ps (spN T n F)) : FnG P w K mg base k f fd ps (sp0 T n (asLst F)) := G.imp fun vs H Q E ⟨S, ds, d, tr, hl, r, eG, q⟩ => by
  obtain ⟨xss, e1, rfl⟩ := map_some1 eG
  refine ⟨S, ds, xss, tr, hl, r, e1, fun a ps H1 sm ha h0 nw => ?_⟩
  have sm1 : Same H1 (upd H1 a (.lst (ps.map V.ref))) := fun b o e => by rw [upd_ne (ne_of_none e ha)]; exact e
  refine q _ _ (sm.trans sm1) ?_
  rw [Rep]
  exact ⟨a, _, rfl, upd_same, fun z => (by obtain ⟨o, e⟩ := tr a z; rw [h0] at e; cases e), nw.reps.same sm1⟩
end
section
variable {X : Cx} {T : CT} {k c : Nat} {f C : Addr} {fd : FuncData} {ps : List Str} {o : Expr} {fo : FE}
theorem pn_lc {elt iter tg : Expr} {pos : Pos} {ifs : List Expr} {scope : Scope} {own : List (Str × Nat)} {fI : FA} {ft : FG} {fc : FT} {fe : FA} (hc : X.calm = true) (hN : X.N.Nodup) (ok : BlkOk X.N X.env.scope scope own) (hi : PI X tg iter (tIt T fI))
    (hg : ∀ (s : Shared) (H : Hp) (C : Addr) (cl : List (Str × Addr)) (fp : List Addr), PG (X.blk s H scope (compEnvC scope cl C X.env) fp) tg (tTg T (own.map (·.2)) ft)) (ht : ∀ (s : Shared) (H : Hp) (C : Addr) (cl : List (Str × Addr)) (fp : List Addr), PTs (X.blk s H scope (compEnvC scope cl C X.env) fp) ifs (tDt T fc))
    (he : ∀ (s : Shared) (H : Hp) (C : Addr) (cl : List (Str × Addr)) (fp : List Addr), PE (X.blk s H scope (compEnvC scope cl C X.env) fp) elt (tF T fe)) (hs : ∀ x, foldedSetIterable iter X.env x = pure x := by intro _; rfl) :
    PE X (.ListComp elt [⟨tg, iter, ifs, 0⟩] scope pos) (tNs T (fLcN fI ft fc fe (own.map (·.2)))) := PE.imp (pe_lc hc hN hi ok hg ht he hs) fun σ H Q h => lcN_reading h
/-- x = o.m(); x[0].append(None); x.append(None): what x is then is not spoken of -/
def sDeep (i c : Nat) (F : List D → Option (List (List D))) (fo : FE) : FS := fun δ => (fo δ).bind fun (d, δ1) => match d with
  | .obj c' fs => if c' = c ∧ i < δ1.length then (match F [.obj c' fs] with
    | some (xs :: xss) => if xs.length ≤ big ∧ xss.length + 1 ≤ big then some (.nx (δ1.set i .un)) else none
    | _ => none) else none
  | _ => none
theorem sts_deep {i : Nat} {x m : Str} {rest : List Stmt} {h : FS} {ns : List Str} {F : List D → Option (List (List D))} {py py2 py3 apos pos1 p1 pc psx pa2 pn pe2 p2 pa3 pn2 pe3 p3 : Pos} {k0} {k1} {k2} {pl : Sem Bool}
    (ho : PE X o (tD T fo)) (hT : T c = some (C, ns)) (hc : Cls X.K C) (hm : Meth X.K C m f) (G : FnG X.prog X.w X.K X.mg X.base k f fd ps (spN T 1 F)) (hq : Quiet X.A) (hr : Room k X.A) (hb : Binds X.K fd ps []) (hps : ps.length = 1) (hND : X.N.Nodup) (hrest : PSs X rest (tSt T h))
    (hb2 : ∀ {ty te : TE}, PE X (.Subscript (.Name x py2) (.Constant (.int 0) k0 pc) psx) ty → PE X (.Constant .none k1 pn) te → PE X (.Call (.Attribute (.Subscript (.Name x py2) (.Constant (.int 0) k0 pc) psx) "append" pa2) [.Constant .none k1 pn] [] pe2) (tBM X.K "list" rAppend ty (tCons te tNil)))
    (hb3 : ∀ {ty te : TE}, PE X (.Name x py3) ty → PE X (.Constant .none k2 pn2) te → PE X (.Call (.Attribute (.Name x py3) "append" pa3) [.Constant .none k2 pn2] [] pe3) (tBM X.K "list" rAppend ty (tCons te tNil)))
    (hN : X.N[i]? = some x := by rfl) (hlx : X.env.scope.names.lookup x = some .local := by rfl) (hmn : m ∉ ns := by decide +kernel)
    (hdy : (x == ("__debug__" : Str)) = false := by decide) (hcd : (x == ("__classdict__" : Str)) = false := by decide)
    (hpl : ((backTo pos1 (starEach [] X.env)).any (·.1) || (backToKw pos1 (keywordEach [] X.env)).any (·.1.isNone)) = false := by rfl)
    (ht : eval (.Call (.Attribute o m apos) [] [] pos1) X.env = (do
      let y ← eval o X.env
      standAt apos.atName
      let (h, first) ← holding [y] (getMethod y m pl)
      callWith pos1 h first (backTo pos1 (starEach [] X.env)) (backToKw pos1 (keywordEach [] X.env))) := by rfl)
    (hs1 : swapsWith (.Call (.Attribute o m apos) [] [] pos1) (some (.Name x py)) p1.line X.env = pure false := by rfl)
    (hs2 : swapsWith (.Call (.Attribute (.Subscript (.Name x py2) (.Constant (.int 0) k0 pc) psx) "append" pa2) [.Constant .none k1 pn] [] pe2) none p2.line X.env = pure false := by rfl)
    (hs3 : swapsWith (.Call (.Attribute (.Name x py3) "append" pa3) [.Constant .none k2 pn2] [] pe3) none p3.line X.env = pure false := by rfl) :
    PSs X (.Assign [.Name x py] (.Call (.Attribute o m apos) [] [] pos1) p1 :: .Expr (.Call (.Attribute (.Subscript (.Name x py2) (.Constant (.int 0) k0 pc) psx) "append" pa2) [.Constant .none k1 pn] [] pe2) p2 ::
      .Expr (.Call (.Attribute (.Name x py3) "append" pa3) [.Constant .none k2 pn2] [] pe3) p3 :: rest) (tSt T (sSeq (sDeep i c F fo) h)) := by
  have hv : Vis X.env.scope x := .inl hlx
  have e1 := pe_methG0 (E := E0) ho hc hm G hq hr (kbn_pos hb hps) pk_nil rfl rfl hpl ht
  have e2 := hb2 (pe_ix ix_list (pe_var hN hv hdy hcd) pe_int (fun _ _ => rfl)) pe_non
  have e3 := hb3 (pe_var hN hv hdy hcd) pe_non
  refine PSs.imp (pss_cons (ps_set hND hN (.inl hlx) e1 hs1 (.inr hlx)) (pss_cons (ps_expr e2 hs2) (pss_cons (ps_expr e3 hs3) hrest))) fun E σ H ⟨S0, δ, r, ok, e, q⟩ => ?_
  obtain ⟨r0, g1, g2⟩ := bind_some1 e
  obtain ⟨d, δ1, g3, g4⟩ := bind_some2 g1
  dsimp only at g4
  split at g4
  case h_2 => cases g4
  rename_i c' fs
  by_cases hcc : c' = c ∧ i < δ1.length
  case neg => rw [if_neg hcc] at g4; cases g4
  rw [if_pos hcc] at g4
  obtain ⟨rfl, hil⟩ := hcc
  rcases hF : F [.obj c' fs] with _ | (_ | ⟨xs, xss⟩)
  · rw [hF] at g4; cases g4
  · rw [hF] at g4; cases g4
  rw [hF] at g4
  obtain ⟨⟨hl1, hl2⟩, g4⟩ := ite_some g4
  subst g4
  dsimp only at g2
  refine ⟨S0, δ, _, δ1, ok, g3, fun v H1 ok1 s1 rv => ?_⟩
  have rv' := rv
  rw [Rep] at rv
  obtain ⟨a0, dx, C', ns', vs0, rfl, hT', ha0, hlen0, na0, rs0⟩ := rv
  rw [hT] at hT'; cases hT'
  refine ⟨a0, dx, _, rfl, ha0, zip_none hmn, ?_⟩
  refine ⟨rfl, rfl, Av S0 σ δ1, [_], _, fun b z => ok1.trk z, rfl, Reps.cons rv' Reps.nil, hF, fun a pz H2 sm ha h0 nw => ?_⟩
  match pz, nw with
  | [], nw => have := nw.len; simp at this
  | p0 :: pz, nw =>
  obtain ⟨hp0, hS0, ws, hw, rw0⟩ := nw.at_ 0 p0 xs rfl rfl
  have ne0 : p0 ≠ a := fun z => by rw [z, ha] at hw; cases hw
  have n1p : ∀ {b : Addr}, b = p0 ∨ b = a → H1 b = none := fun {b} z => by
    rcases z with rfl | rfl
    · exact hp0
    · exact h0
  have hx : (σ.set i (some (V.ref a)))[i]? = some (some (V.ref a)) := by
    rw [List.getElem?_set_self]
    rw [ok1.len]
    exact hil
  have lw := rw0.length
  have i0 : atI ((p0 :: pz).map V.ref) 0 = some (V.ref p0) := by
    unfold atI ixN
    simp
  have sq1 : SqL X.K (upd H2 a (.lst ((p0 :: pz).map V.ref))) a ((p0 :: pz).map V.ref) := .of upd_same
  have hw1 : (upd H2 a (.lst ((p0 :: pz).map V.ref))) p0 = some (.lst ws) := by rw [upd_ne ne0]; exact hw
  refine ⟨_, hx, a, _, 0, V.ref p0, rfl, rfl, sq1, i0, ?_⟩
  refine ⟨.inl ⟨rfl, _, .of hw1⟩, p0, ws, .non, rfl, rfl, hw1, by rw [lw]; exact big_line' hl1, ?_⟩
  have ha3 : (upd (upd H2 a (.lst ((p0 :: pz).map V.ref))) p0 (.lst (ws ++ [V.non]))) a = some (.lst ((p0 :: pz).map V.ref)) := by rw [upd_ne (Ne.symm ne0)]; exact upd_same
  refine ⟨_, hx, .inl ⟨rfl, _, .of ha3⟩, a, _, .non, rfl, rfl, ha3, ?_, ?_⟩
  · have ln := nw.len
    have lb := big_line' hl2
    simp only [List.length_map]
    rw [ln, List.length_cons]
    exact lb
  have smf : Same H1 (upd (upd (upd H2 a (.lst ((p0 :: pz).map V.ref))) p0 (.lst (ws ++ [V.non]))) a (.lst ((p0 :: pz).map V.ref ++ [V.non]))) := fun b u z => by
    have na : b ≠ a := fun y => by rw [y, h0] at z; cases z
    have np : b ≠ p0 := fun y => by rw [y, hp0] at z; cases z
    rw [upd_ne na, upd_ne np, upd_ne na]
    exact sm b u z
  obtain ⟨ok5, s5⟩ := (ok1.same smf).junk (i := i) (v := some (V.ref a))
  exact ⟨S0, _, _, ok5, g2, q.back ((s1.trans (Step.same smf)).trans s5)⟩
end
end Dl
namespace Dl
open PySem PySem.Spec PyProof.Rows L2
theorem kit_other {K : PySem.W.Frag} {C C' : Addr} {r : Bool} (hn : (C' == C) = false) (hc : PySem.W.isClsIn K C = true) (ht : PySem.W.typeIn K (.ref C) = some (.type "type")) (h : PySem.W.subIn K (.ref C') (.ref C) = some r) : PySem.W.kitOne K (.ref C') (.ref C) = some r := by
  unfold PySem.W.kitOne PySem.W.kitCls
  have e : (PySem.W.clsIn K C).isSome = true := hc
  have ne : C' ≠ C := by simpa using hn
  rw [if_neg (by simpa using ne)]
  show (if ((PySem.W.clsIn K C).isSome && PySem.W.typeIn K (.ref C) == some (.type "type")) = true then _ else _) = _
  rw [if_pos (by rw [e, ht]; simp)]
  exact h
section
variable {X : Cx} {T : CT} {e a b c : Expr} {fe fa fb : FE} {pos : Pos}
theorem pd_gintE {x : Str} {i : Int} (hm : ∃ tk, X.mg x = some (.int i tk)) (hg : Gl X x := by rfl) (hd : (x == ("__debug__" : Str)) = false := by decide) : PE X (.Name x pos) (tD T (fC (.int i))) := by
  obtain ⟨tk, h⟩ := hm
  exact pd_gint h hg hd
/-- script[lo:hi] -/
def fSliceS (f : FE) (fl fh : Es → Option (Option Int × Es)) : FA := fun δ => (f δ).bind fun (d, δ1) => (fl δ1).bind fun (l, δ2) => (fh δ2).bind fun (h, δ3) => match d with
  | .scr ns => some (cutD (ns.map D.int) l h, δ3)
  | _ => none
theorem ints_rep {H : Hp} {S : Addr → Prop} : ∀ ns : List Int, Reps T H S (ns.map D.int) (ns.map V.int)
  | [] => Reps.nil
  | n :: ns => Reps.cons (by rw [Rep]) (ints_rep ns)
theorem pf_sliceS {lo hi : Option Expr} {fl fh : Es → Option (Option Int × Es)} {p2 : Pos} (hS : ScK X.K T) (he : PE X e (tD T fe)) (hl : PO X lo (tDo T fl)) (hh : PO X hi (tDo T fh)) : PE X (.Subscript e (.Slice lo hi none p2) pos) (tF T (fSliceS fe fl fh)) := PE.imp (pe_slice sl_list he hl hh) fun σ H Q ⟨S0, δ, ds, δ', ok, e, q⟩ => by
  obtain ⟨d1, δ1, e1, e2⟩ := bind_some2 e
  obtain ⟨l, δ2, e3, e4⟩ := bind_some2 e2
  obtain ⟨h, δ3, e5, e6⟩ := bind_some2 e4
  refine ⟨S0, δ, d1, δ1, ok, e1, fun v H1 ok1 s1 r => ⟨S0, δ1, l, δ2, ok1, e3, fun H2 ok2 s2 => ⟨S0, δ2, h, δ3, ok2, e5, fun H3 ok3 s3 => ?_⟩⟩⟩
  have r3 := (s2.trans s3).rep r
  dsimp only at e6
  cases d1 with
  | scr ns =>
    cases e6
    obtain ⟨p, rfl, sq⟩ := scr_sql hS r3
    refine ⟨p, _, rfl, sq, fun q1 hq1 => q q1 _ H3 ok3 ((s1.trans s2).trans s3) hq1 ?_⟩
    unfold cutD cutV
    rw [List.length_map, List.length_map]
    have := ((ints_rep (T := T) (H := H3) (S := Av S0 σ δ') ns).drop (HT.sIx ns.length 0 l)).take (HT.sIx ns.length ns.length h - HT.sIx ns.length 0 l)
    simpa using this
  | _ => cases e6
/-- two names, the second gets a new list of its own -/
def sPar2F (i j : Nat) (fa : FE) (fb : FA) : FS := fun δ => (fa δ).bind fun (x, δ1) => (fb δ1).bind fun (zs, δ2) => some (.nx ((δ2.set i (.val x)).set j (.own .mine zs)))
theorem st_par2F (i j : Nat) {x y : Str} {fb : FA} {px py pt : Pos} {kt k2 pt2} (hc : X.calm = true) (hN : X.N.Nodup) (ha : PE X a (tD T fa)) (hb : PE X b (tF T fb)) (hij : i ≠ j := by decide) (hi : X.N[i]? = some x := by rfl) (hj : X.N[j]? = some y := by rfl)
    (hx : X.env.scope.names.lookup x = some .local := by rfl) (hy : X.env.scope.names.lookup y = some .local := by rfl)
    (h1 : starEach [a, b] X.env = (false, eval a X.env) :: starEach [b] X.env := by rfl) (h2 : starEach [b] X.env = (false, eval b X.env) :: starEach [] X.env := by rfl)
    (hw : swappedStores [.Tuple [.Name x px, .Name y py] kt pt] (.Tuple [a, b] k2 pt2) X.env = pure (some [x, y]) := by rfl)
    (hs : swapsWithSole [.Tuple [.Name x px, .Name y py] kt pt] (.Tuple [a, b] k2 pt2) pos.line X.env = pure false := by rfl) :
    PS X (.Assign [.Tuple [.Name x px, .Name y py] kt pt] (.Tuple [a, b] k2 pt2) pos) (tSt T (sPar2F i j fa fb)) := PS.imp (ps_par hc hN hi hj hij hx hy (pa_cons ha (pa_cons hb pa_nil h2) h1) hw hs) fun E σ H ⟨S0, δ, r, ok, e, q⟩ => by
  obtain ⟨dx, δ1, e1, e2⟩ := bind_some2 e
  obtain ⟨zs, δ2, e3, e4⟩ := bind_some2 e2
  cases e4
  refine ⟨S0, δ, dx, δ1, ok, e1, fun u H1 ok1 s1 r1 => ⟨S0, δ1, zs, δ2, ok1, e3, fun p vs H2 ok2 s2 hp r2 => ?_⟩⟩
  obtain ⟨ok3, s3⟩ := ok2.store (i := i) (s2.rep r1)
  obtain ⟨ok4, s4⟩ := ok3.storeOwn (i := j) hp (s3.reps r2)
  exact ⟨u, .ref p, rfl, q _ _ ok4 (((s1.trans s2).trans s3).trans s4)⟩
end
end Dl
namespace Dl
open PySem PySem.Spec PyProof.Rows L2
section
variable {K : PySem.W.Frag} {x qual : Str} {st : Stmt} {f : Addr} {fd : FuncData} {ps : List Str}
/-- a def without defaults as one with defaults -/
theorem funD_fun (F : Fun K x qual st f fd) : FunD K x qual (defArgs st) (defBody st) (defScope st) [] [] f fd := by
  obtain ⟨oc, od, kV, doc, pm, an, cdv, ct, osl, rfl, lk, hcd⟩ := F.ex
  exact ⟨⟨oc, od, .none, kV, doc, pm, an, cdv, ct, osl, rfl, lk, hcd, .inl ⟨rfl, rfl⟩, .inl rfl⟩, F.kp⟩
theorem bndI_fun (n : Nat) (ks : List Str) (F : Fun K x qual st f fd)
    (h : ∀ (kV doc pm : Value) (an : Option Addr) (cdv ct : Value) (us ws : List Value), us.length = n + 1 → ws.length = ks.length → bindArgs (PySem.W.fnOf x qual (defArgs st) (defBody st) (defScope st) .none kV doc pm an cdv ct) ⟨us, ks.zip ws⟩ = pure (ps.zip (us ++ ws))) : BndI K fd ps n ks (gPos []) := by
  obtain ⟨oc, od, kV, doc, pm, an, cdv, ct, osl, rfl, lk, hcd⟩ := F.ex
  refine ⟨fun us ws => us ++ ws, fun vs zs => vs ++ zs, ⟨fun s us ws X l1 l2 => .of_eq (h kV doc pm an cdv ct us ws l1 l2), fun r1 r2 => r1.append r2⟩, fun vs zs => vs ++ zs, fun a vs zs _ _ => rfl, fun T H S d e vs zs _ _ r r2 => ?_⟩
  rw [gPos, List.append_nil]
  exact r.append r2
end
end Dl
namespace Dl
open PySem PySem.Spec PyProof.Rows L2
section
variable {X : Cx} {T : CT} {k : Nat} {f : Addr} {fd : FuncData} {ps : List Str} {x : Str} {e : Expr} {fa : FA} {p pos : Pos}
/-- f(e), f a def that changes its list, e a new list -/
def fCallPF (F : List D → List D → Option (D × List D)) (fa : FA) : FE := fun δ => (fa δ).bind fun (xs, δ1) => (F xs []).map fun (d, _) => (d, δ1)
theorem pd_callPF {F : List D → List D → Option (D × List D)} (G : FnG X.prog X.w X.K X.mg X.base k f fd ps (sp1 T 0 F)) (hq : Quiet X.A) (hr : Room k X.A) (hm : X.mg x = some (.ref f)) (hk : PySem.W.keepIn X.K (.ref f) = true) (hb : Binds X.K fd ps []) (hps : ps.length = 1) (ha : PE X e (tF T fa))
    (hg : Gl X x := by rfl) (hdb : (x == ("__debug__" : Str)) = false := by decide) (he : starEach [e] X.env = (false, eval e X.env) :: starEach [] X.env := by rfl)
    (hpl : ((backTo pos (starEach [e] X.env)).any (·.1) || (backToKw pos (keywordEach [] X.env)).any (·.1.isNone)) = false := by rfl) :
    PE X (.Call (.Name x p) [e] [] pos) (tD T (fCallPF F fa)) := PE.imp (pe_callG (E := E0) G hq hr hm hk (kbn_pos hb hps) (pa_cons ha pa_nil he) pk_nil hg rfl rfl hdb he hpl) fun σ H Q h => by
  obtain ⟨S0, δ, d, δ', ok, e, q⟩ := h
  obtain ⟨xs, δ1, e1, e2⟩ := bind_some2 e
  obtain ⟨d1, xs', e3, e4⟩ := map_some2 e2
  cases e4
  refine ⟨S0, δ, xs, δ', ok, e1, fun a us H1 ok1 s1 hp r1 => ⟨rfl, rfl, orD (Av S0 σ δ') a, a, us, xs, [], [], d, xs', rfl, fun b z => ?_, .inr rfl, upd_same, ?_, rfl, Reps.nil, e3, fun v H' us' hk' ha' rs rv => ?_⟩⟩
  · rcases z with z | rfl
    · obtain ⟨o, e⟩ := ok1.trk z
      exact ⟨o, by rw [upd_ne (ne_of_none e hp)]; exact e⟩
    · exact ⟨_, upd_same⟩
  · exact r1.move (fun b o e _ => by rw [upd_ne (ne_of_none e hp)]; exact e) fun b z => z.elim .inl fun z => .inr (by rw [z]; exact hp)
  · have sm : Same H1 H' := fun b o e => hk' b o (by rw [upd_ne (ne_of_none e hp)]; exact e) (ne_of_none e hp)
    exact q v H' (ok1.same sm) (s1.trans (Step.same sm)) (rv.sub fun b z => .inl z)
end
end Dl
namespace Dl
open PySem PySem.Spec PyProof.Rows L2 ClX
/-! comprehensions that map -/
def itemsD : D → Option (List D)
  | .lst ds => some ds
  | .tup ds => some ds
  | _ => none
def mapO (h : D → Option D) : List D → Option (List D)
  | [] => some []
  | d :: ds => (h d).bind fun y => (mapO h ds).map fun ys => y :: ys
theorem mapO_some {h : D → Option D} {f : D → D} : ∀ {ds : List D}, (∀ d, d ∈ ds → h d = some (f d)) → mapO h ds = some (ds.map f)
  | [], _ => rfl
  | d :: ds, hh => by
    have e1 := hh d (List.mem_cons_self ..)
    have e2 := mapO_some (fun x hx => hh x (List.mem_cons_of_mem _ hx))
    simp [mapO, e1, e2]
theorem mapO_mem {h : D → Option D} : ∀ {ds ys : List D}, mapO h ds = some ys → ∀ d, d ∈ ds → ∃ y, h d = some y
  | [], _, _, d, hd => by cases hd
  | x :: ds, ys, e, d, hd => by
    obtain ⟨y, e1, e2⟩ := bind_some1 e
    obtain ⟨zs, e3, rfl⟩ := map_some1 e2
    cases hd with
    | head => exact ⟨y, e1⟩
    | tail _ h => exact mapO_mem e3 d h
theorem mapO_len {h : D → Option D} : ∀ {ds ys : List D}, mapO h ds = some ys → ys.length = ds.length
  | [], ys, e => by simp [mapO] at e; subst e; rfl
  | d :: ds, ys, e => by
    obtain ⟨y, e1, e2⟩ := bind_some1 e
    obtain ⟨zs, e3, rfl⟩ := map_some1 e2
    simp [mapO_len e3]
theorem wipe1 {δ : Es} {i : Nat} {x : Sl} (hi : δ[i]? = some .un) : wipeE (δ.set i x) [i] = δ := by
  simp only [wipeE]
  rw [List.set_set]
  apply List.ext_getElem?
  intro j
  by_cases h : j = i
  · subst h
    rw [hi, List.getElem?_set_self (List.getElem?_eq_some_iff.mp hi).1]
  · rw [List.getElem?_set_ne (Ne.symm h)]
theorem lc_map {i : Nat} {fe : FE} {h : D → Option D} {δ : Es} (hi : δ[i]? = some .un) : ∀ (ds acc : List D), (∀ d, d ∈ ds → fe (δ.set i (.val d)) = (h d).map fun y => (y, δ.set i (.val d))) → acc.length + ds.length ≤ big → lcF (gN i) fYes fe [i] ds acc δ = (mapO h ds).map fun ys => (acc ++ ys, δ)
  | [], acc, _, _ => by simp [lcF, mapO]
  | d :: ds, acc, hf, hl => by
    simp only [List.length_cons] at hl
    have hb : acc.length ≤ big := by omega
    have hd := hf d (List.mem_cons_self ..)
    have rest := fun y => lc_map hi ds (acc ++ [y]) (fun x hx => hf x (List.mem_cons_of_mem _ hx)) (by simp; omega)
    simp only [lcF, gN, fYes, Option.bind_some, if_true, hd, mapO]
    cases hy : h d with
    | none => simp
    | some y =>
      simp only [Option.map_some, Option.bind_some, hb, if_true, wipe1 hi, rest]
      cases mapO h ds <;> simp
theorem wipe0 {δ : Es} {i : Nat} (hi : δ[i]? = some .un) : wipeE δ [i] = δ := by
  have := wipe1 (x := .un) hi
  have e : δ.set i .un = δ := by
    apply List.ext_getElem?
    intro j
    by_cases h : j = i
    · subst h
      rw [hi, List.getElem?_set_self (List.getElem?_eq_some_iff.mp hi).1]
    · rw [List.getElem?_set_ne (Ne.symm h)]
  rw [e] at this; exact this
/-- a comprehension over a list (or tuple) whose element is a function of its name -/
theorem flc {i : Nat} {fI : FA} {fe : FE} {h : D → Option D} {δ δ1 : Es} {ds : List D} (hI : fI δ = some (ds, δ1)) (hi : δ1[i]? = some .un) (hf : ∀ d, d ∈ ds → fe (δ1.set i (.val d)) = (h d).map fun y => (y, δ1.set i (.val d))) (hl : ds.length ≤ big) : fLc fI (gN i) fYes fe [i] δ = (mapO h ds).map fun ys => (ys, δ1) := by
  simp only [fLc, hI, Option.bind_some, wipe0 hi]
  rw [lc_map hi ds [] hf (by simpa using hl)]
  simp
theorem ite_o {α : Type} {c : Prop} [Decidable c] {x : Option α} {y : α} (h : (if c then x else none) = some y) : c ∧ x = some y := by
  split at h
  · exact ⟨‹c›, h⟩
  · cases h
/-- == on equal flat fields of one thing -/
theorem reps_at {T : CT} {H : Hp} {S : Addr → Prop} : ∀ {ds : List D} {vs : List V} {j : Nat} {d : D}, Reps T H S ds vs → ds[j]? = some d → ∃ v, vs[j]? = some v ∧ Rep T H S d v
  | [], _, _, _, _, h => by simp at h
  | x :: ds, vs, 0, d, r, h => by
    rw [Reps] at r
    obtain ⟨v, ws, rfl, a, _⟩ := r
    simp at h
    subst h
    exact ⟨v, rfl, a⟩
  | x :: ds, vs, j + 1, d, r, h => by
    rw [Reps] at r
    obtain ⟨v, ws, rfl, _, b⟩ := r
    simp at h
    obtain ⟨z, hz, rz⟩ := reps_at b h
    exact ⟨z, by simpa using hz, rz⟩
theorem gEqF_self {T : CT} {H : Hp} {S : Addr → Prop} {ds es : List D} {vs : List V} {j : Nat} {d e r : D} (r1 : Reps T H S ds vs) (r2 : Reps T H S es vs) (h1 : ds[j]? = some d) (h2 : es[j]? = some e) (h : gEqF d e = some r) : r = .bl true := by
  obtain ⟨v, hv, a⟩ := reps_at r1 h1
  obtain ⟨v2, hv2, b⟩ := reps_at r2 h2
  rw [hv] at hv2; cases hv2
  unfold gEqF at h
  split at h
  · rename_i x y hx hy
    obtain ⟨_, h⟩ := ite_some h
    subst h
    have e1 := lit_rep a hx
    have e2 := lit_rep b hy
    subst e1 e2
    simp
  · cases h
theorem ob_self {T : CT} {H : Hp} {S : Addr → Prop} {c : Nat} {ds es : List D} {v : V} (a : Rep T H S (.obj c ds) v) (b : Rep T H S (.obj c es) v) : ∃ vs, Reps T H S ds vs ∧ Reps T H S es vs := by
  rw [Rep] at a b
  obtain ⟨a, dx, C, ns, vs, rfl, hc, ha, hl, _, r⟩ := a
  obtain ⟨a2, dx2, C2, ns2, ws, e2, hc2, ha2, hl2, _, r2⟩ := b
  cases e2
  rw [hc] at hc2; cases hc2
  rw [ha] at ha2
  injection ha2 with h1
  injection h1 with h2 h3 h4
  have := zip_snd hl hl2 h4
  subst this
  exact ⟨_, r, r2⟩
end Dl
namespace Dl
open PySem PySem.Spec PyProof.Rows L2 ClX
/-- zip( *e), e a list of two lists -/
theorem pi_zipS {X : Cx} {e : Expr} {te : TE} {p pos tpos sp_ : Pos} {elts : List Expr} {kk : Nat} (hg : Gl X "zip") (hm : X.mg "zip" = none) (he : PE X e te) (hst : starEach [.Starred e sp_] X.env = [(true, eval e X.env)] := by rfl) :
    PI X (.Tuple elts kk tpos) (.Call (.Name "zip" p) [.Starred e sp_] [] pos) (fun σ H R => te σ H fun y H1 => ∃ c a b xs ys, y = V.ref c ∧ (SqT X.K H1 c [.ref a, .ref b] ∨ SqL X.K H1 c [.ref a, .ref b]) ∧ SqL X.K H1 a xs ∧ SqL X.K H1 b ys ∧ R (Itz X.K a b) H1) := by
  refine ⟨fun pins s σ H R I h => ?_⟩
  refine Call_ (ld_blt I hg hm PyProof.Rows.boot_zip ?_)
  rw [hst]
  refine PySem.W.ks_call (P := fun _ => True) rfl (fun h _ => ⟨.machine, .inr (.inl rfl), ?_⟩) (PySem.W.ks_lone (thn (he.run pins s σ H _ I h) fun v s1 ⟨y, H1, I1, ry, c, a, b, xs, ys, ey, hx, hqx, hqy, q⟩ => ?_))
  · exact PySem.W.Looks.now
  subst ey
  obtain rfl : v = Value.ref c := ry
  refine StX.star_any I1 hx fun us s2 I2 rv => ⟨trivial, ?_⟩
  cases rv with
  | cons r rr =>
    cases rr with
    | cons r' rr =>
      cases rr
      cases r
      cases r'
      obtain ⟨its, rv, p1, _⟩ := I2.list hqx
      obtain ⟨its2, rv2, p2, _⟩ := I2.list hqy
      have la : a < s2.heap.objs.size := p1.lt
      have lb : b < s2.heap.objs.size := p2.lt
      refine call_zip_2 p1.isList p2.isList fun h' hz hTI hTO h1 h2 hsz hk => wpAny_pyIter_zip hz ?_
      have I3 : Inv X pins σ H1 { s2 with heap := h' } := I2.kept (t' := s2.toks) hk
      refine ⟨s2.heap.objs.size + 4, [s2.heap.objs.size + 4, s2.heap.objs.size + 2, s2.heap.objs.size + 3, s2.heap.objs.size, s2.heap.objs.size + 1], _, _, H1, rfl, I3, turn_zip (PySem.W.ktu_apart s2.heap.objs.size a b la lb), ⟨hz, hTI, ⟨_, _, hTO⟩, h1, h2⟩, fun c hcm => ?_, q⟩
      have e' : c = s2.heap.objs.size + 4 ∨ c = s2.heap.objs.size + 2 ∨ c = s2.heap.objs.size + 3 ∨ c = s2.heap.objs.size ∨ c = s2.heap.objs.size + 1 := by simpa using hcm
      have hle : s2.heap.objs.size ≤ c := by
        rcases e' with z | z | z | z | z
        · rw [z]; exact Nat.le_add_right _ _
        · rw [z]; exact Nat.le_add_right _ _
        · rw [z]; exact Nat.le_add_right _ _
        · rw [z]; exact Nat.le_refl _
        · rw [z]; exact Nat.le_add_right _ _
      exact I2.fpOk hle (I2.hok.fresh hle)
section
variable {X : Cx} {T : CT} {p pos sp_ : Pos}
def fZipS (fe : FE) : FA := fun δ => (fe δ).bind fun (d, δ1) => match d with
  | .lst [.lst xs, .lst ys] => some (pairsD xs ys, δ1)
  | .tup [.lst xs, .lst ys] => some (pairsD xs ys, δ1)
  | _ => none
theorem pid_zipS {e : Expr} {fe : FE} {elts : List Expr} {kk : Nat} {tpos : Pos} (hm : X.mg "zip" = none) (he : PE X e (tD T fe)) (hg : Gl X "zip" := by rfl) (hst : starEach [.Starred e sp_] X.env = [(true, eval e X.env)] := by rfl) :
    PI X (.Tuple elts kk tpos) (.Call (.Name "zip" p) [.Starred e sp_] [] pos) (tIt T (fZipS fe)) := PI.imp (pi_zipS hg hm he hst) fun σ H R ⟨S0, δ, ds, δ', ok, e, q⟩ => by
  obtain ⟨d, δ1, e1, e2⟩ := bind_some2 e
  dsimp only at e2
  have two : ∀ {xs ys : List D} {vs : List V} {H1 : Hp} {S : Addr → Prop}, Reps T H1 S [.lst xs, .lst ys] vs → ∃ a b us ws, vs = [.ref a, .ref b] ∧ H1 a = some (.lst us) ∧ H1 b = some (.lst ws) ∧ Rep T H1 S (.lst xs) (.ref a) ∧ Rep T H1 S (.lst ys) (.ref b) := by
    intro xs ys vs H1 S r
    rw [Reps] at r
    obtain ⟨v, vr, rfl, r1, r2⟩ := r
    rw [Reps] at r2
    obtain ⟨w, wr, rfl, r3, r4⟩ := r2
    rw [Reps] at r4; subst r4
    have r1' := r1
    have r3' := r3
    rw [Rep] at r1 r3
    obtain ⟨a, us, rfl, ha, _, _⟩ := r1
    obtain ⟨b, ws, rfl, hb, _, _⟩ := r3
    exact ⟨a, b, us, ws, rfl, ha, hb, r1', r3'⟩
  split at e2
  case h_3 => cases e2
  · rename_i xs ys
    cases e2
    refine ⟨S0, δ, _, δ', ok, e1, fun v H1 ok1 s1 r => ?_⟩
    rw [Rep] at r
    obtain ⟨c, vs, rfl, hc, _, rr⟩ := r
    obtain ⟨a, b, us, ws, rfl, ha, hb, ra, rb⟩ := two rr
    exact ⟨c, a, b, us, ws, rfl, .inr (SqL.of hc), SqL.of ha, SqL.of hb, q _ H1 ok1 s1 (runs_zip ra rb)⟩
  · rename_i xs ys
    cases e2
    refine ⟨S0, δ, _, δ', ok, e1, fun v H1 ok1 s1 r => ?_⟩
    rw [Rep] at r
    obtain ⟨c, vs, rfl, hc, _, rr⟩ := r
    obtain ⟨a, b, us, ws, rfl, ha, hb, ra, rb⟩ := two rr
    exact ⟨c, a, b, us, ws, rfl, .inl (SqT.of hc), SqL.of ha, SqL.of hb, q _ H1 ok1 s1 (runs_zip ra rb)⟩
end
/-- a def called by keywords in another order -/
def gSel (js : List Nat) : List D → List D → List D := fun ds es => js.map fun j => (ds ++ es).getD j .non
theorem reps_get {T : CT} {H : Hp} {S : Addr → Prop} : ∀ {ds : List D} {vs : List V} {j : Nat}, Reps T H S ds vs → j < ds.length → Rep T H S (ds.getD j .non) (vs.getD j .non)
  | d :: ds, vs, 0, r, _ => by
    rw [Reps] at r
    obtain ⟨v, ws, rfl, a, _⟩ := r
    simpa using a
  | d :: ds, vs, j + 1, r, h => by
    rw [Reps] at r
    obtain ⟨v, ws, rfl, _, b⟩ := r
    simp only [List.length_cons] at h
    have := reps_get (j := j) b (by omega)
    simpa using this
theorem reps_sel {T : CT} {H : Hp} {S : Addr → Prop} {ds : List D} {vs : List V} (r : Reps T H S ds vs) : ∀ (js : List Nat), (∀ j, j ∈ js → j < ds.length) → Reps T H S (js.map fun j => ds.getD j .non) (js.map fun j => vs.getD j .non)
  | [], _ => Reps.nil
  | j :: js, h => Reps.cons (reps_get r (h j (List.mem_cons_self ..))) (reps_sel r js fun i hi => h i (List.mem_cons_of_mem _ hi))
theorem vals_get : ∀ {vs : List V} {us : List Value} (j : Nat), Vals vs us → L2.RelV (vs.getD j .non) (us.getD j .none)
  | _, _, 0, .cons a _ => by simpa using a
  | _, _, j + 1, .cons _ r => by
    have := vals_get j r
    simpa using this
  | _, _, _, .nil => by
    show L2.RelV V.non Value.none
    rfl
theorem vals_sel {vs : List V} {us : List Value} (r : Vals vs us) : ∀ (js : List Nat), Vals (js.map fun j => vs.getD j .non) (js.map fun j => us.getD j .none)
  | [] => .nil
  | j :: js => .cons (vals_get j r) (vals_sel r js)
theorem bnd_kwP {K : PySem.W.Frag} {x qual : Str} {st : Stmt} {f : Addr} {fd : FuncData} {ps : List Str} (n : Nat) (ks : List Str) (js : List Nat) (hj : ∀ j, j ∈ js → j < n + ks.length) (F : Fun K x qual st f fd)
    (h : ∀ (kV doc pm : Value) (an : Option Addr) (cdv ct : Value) (us ws : List Value), us.length = n → ws.length = ks.length → bindArgs (PySem.W.fnOf x qual (defArgs st) (defBody st) (defScope st) .none kV doc pm an cdv ct) ⟨us, ks.zip ws⟩ = pure (ps.zip (js.map fun j => (us ++ ws).getD j .none))) : Bnd K fd ps n ks (gSel js) := by
  obtain ⟨oc, od, kV, doc, pm, an, cdv, ct, osl, rfl, lk, hcd⟩ := F.ex
  refine ⟨fun us ws => js.map fun j => (us ++ ws).getD j .none, fun vs zs => js.map fun j => (vs ++ zs).getD j .non, ⟨fun s us ws X l1 l2 => .of_eq (h kV doc pm an cdv ct us ws l1 l2), fun r1 r2 => vals_sel (r1.append r2) js⟩, fun T H S d e vs zs l1 l2 r r2 => ?_⟩
  exact reps_sel (r.append r2) js fun j hjm => by rw [List.length_append, l1, l2]; exact hj j hjm
section
variable {X : Cx} {T : CT}
def funLcm : List D → Option D
  | [.int i, .int j] => if i.natAbs < 2 ^ 64 ∧ j.natAbs < 2 ^ 64 then some (.int ((Nat.lcm i.natAbs j.natAbs : Nat) : Int)) else none
  | _ => none
def rLcm : List V → Hp → VK → Prop := fun vs H Q => ∃ a b : Int, vs = [.int a, .int b] ∧ a.natAbs < 2 ^ 64 ∧ b.natAbs < 2 ^ 64 ∧ Q (.int ((Nat.lcm a.natAbs b.natAbs : Nat) : Int)) H
theorem cr_lcm : CallR X (.builtin "math.lcm") rLcm := by
  intro pins s σ H vs us Q I r h
  obtain ⟨a, b, rfl, ha, hb, q⟩ := h
  obtain ⟨t, u, rfl⟩ := Vals.int2 r
  exact PySem.W.mc_lcm ha hb fun _ => ⟨.int _, H, I.tok _, ⟨_, rfl⟩, q⟩
theorem callv_lcm : CallV T rLcm funLcm := by
  intro S ds vs H d Q tr r e q
  unfold funLcm at e
  split at e
  · obtain ⟨h, e⟩ := ite_some e
    cases e
    exact ⟨_, _, reps_int2 r, h.1, h.2, q _ H (Same.refl _) (rep_lit rfl)⟩
  · cases e
end
end Dl
/-! x not in a list of ints; slices of a list with a step -/
namespace Dl
open PySem PySem.Spec PyProof.Rows L2 ClX
variable {X : Cx} {T : CT} {e : Expr} {fe : FE} {pos : Pos}
def gNotIn : D → D → Option D
  | .int i, .lst ds => (intsOf ds).map fun is => .bl (!decide (i ∈ is))
  | _, _ => none
theorem inV_int (i : Int) (is : List Int) : inV (.int i) (is.map V.int) = decide (i ∈ is) := by
  unfold inV
  rw [Bool.eq_iff_iff, List.any_eq_true, decide_eq_true_eq]
  constructor
  · rintro ⟨y, hy, e⟩
    obtain ⟨j, hj, rfl⟩ := List.mem_map.mp hy
    have : j = i := by simpa [eqV] using e
    exact this ▸ hj
  · intro h
    exact ⟨.int i, List.mem_map.mpr ⟨i, h, rfl⟩, by simp [eqV]⟩
theorem flat_ints (is : List Int) : (is.map V.int).all flatV = true := by
  rw [List.all_eq_true]
  intro x hx
  obtain ⟨j, _, rfl⟩ := List.mem_map.mp hx
  rfl
theorem opv_notIn {K : PySem.W.Frag} : OpV T (rIn K true) gNotIn := by
  intro S x y vx vy H d Q tr rx ry e q
  unfold gNotIn at e
  split at e
  · rename_i i ds
    obtain ⟨is, e1, e2⟩ := map_some1 e
    subst e2
    rw [rep_int rx]
    rw [Rep] at ry
    obtain ⟨a, vs, rfl, ha, _, rs⟩ := ry
    have hv := ints_reps rs e1
    subst hv
    refine ⟨a, _, rfl, .inl (SqL.of ha), rfl, flat_ints is, ?_⟩
    rw [if_pos rfl, inV_int]
    exact q _ H (Same.refl _) (rep_lit rfl)
  · cases e
/-- the items of xs[lo:hi:st] -/
def stepL {α : Type} (xs : List α) (lo hi st : Option Int) : List α := (sliceRange (sliceBounds lo hi st xs.length).1 (sliceBounds lo hi st xs.length).2.1 (sliceBounds lo hi st xs.length).2.2).filterMap fun i => xs[i]?
theorem vals_pos : ∀ {xs : List V} {us : List Value} (j : Nat), Vals xs us → (xs[j]? = none ∧ us[j]? = none) ∨ ∃ x u, xs[j]? = some x ∧ us[j]? = some u ∧ RelV x u
  | _, _, j, .nil => .inl ⟨rfl, rfl⟩
  | x :: _, u :: _, 0, .cons r _ => .inr ⟨x, u, rfl, rfl, r⟩
  | _ :: _, _ :: _, j + 1, .cons _ t => by simpa using vals_pos j t
theorem vals_pick {xs : List V} {us : List Value} (r : Vals xs us) : ∀ js : List Nat, Vals (js.filterMap fun i => xs[i]?) (js.filterMap fun i => us[i]?)
  | [] => .nil
  | j :: js => by
    have ih := vals_pick r js
    rw [List.filterMap_cons, List.filterMap_cons]
    rcases vals_pos j r with ⟨e1, e2⟩ | ⟨x, u, e1, e2, rx⟩
    · rw [e1, e2]; exact ih
    · rw [e1, e2]; exact .cons rx ih
theorem reps_pos {H : Hp} {S : Addr → Prop} : ∀ {ds : List D} {vs : List V} (j : Nat), Reps T H S ds vs → (ds[j]? = none ∧ vs[j]? = none) ∨ ∃ d v, ds[j]? = some d ∧ vs[j]? = some v ∧ Rep T H S d v
  | [], vs, j, r => by rw [Reps] at r; subst r; exact .inl ⟨rfl, rfl⟩
  | d :: ds, vs, 0, r => by
    rw [Reps] at r
    obtain ⟨v, w, rfl, a, _⟩ := r
    exact .inr ⟨d, v, rfl, rfl, a⟩
  | d :: ds, vs, j + 1, r => by
    rw [Reps] at r
    obtain ⟨v, w, rfl, _, b⟩ := r
    simpa using reps_pos j b
theorem reps_pick {H : Hp} {S : Addr → Prop} {ds : List D} {vs : List V} (r : Reps T H S ds vs) : ∀ js : List Nat, Reps T H S (js.filterMap fun i => ds[i]?) (js.filterMap fun i => vs[i]?)
  | [] => by rw [List.filterMap_nil, List.filterMap_nil, Reps]
  | j :: js => by
    have ih := reps_pick r js
    rw [List.filterMap_cons, List.filterMap_cons]
    rcases reps_pos j r with ⟨e1, e2⟩ | ⟨d, v, e1, e2, a⟩
    · rw [e1, e2]; exact ih
    · rw [e1, e2, Reps]; exact ⟨v, _, rfl, a, ih⟩
theorem pick_step (us : List Value) (lo hi st : Option Int) : slicePick us.toArray lo hi st = (stepL us lo hi st).toArray := by
  simp [slicePick, stepL]
def tStepL (K : PySem.W.Frag) (te : TE) (tl th ts : TO) : TE := fun σ H Q => te σ H fun x H1 => tl σ H1 fun l H2 => th σ H2 fun u H3 => ts σ H3 fun o H4 => ∃ a xs, x = .ref a ∧ SqL K H4 a xs ∧ o ≠ some 0 ∧ (stepL xs l u o).length ≤ sizeLine ∧ ∀ p, H4 p = none → Q (.ref p) (upd H4 p (.lst (stepL xs l u o)))
theorem pe_stepL {te : TE} {tl th ts : TO} {lo hi : Option Expr} {st : Expr} {p2 : Pos} (he : PE X e te) (hl : PO X lo tl) (hh : PO X hi th) (hs : PO X (some st) ts) : PE X (.Subscript e (.Slice lo hi (some st) p2) pos) (tStepL X.K te tl th ts) := by
  refine ⟨fun pins s σ H Q I h => ?_⟩
  refine Subscript_ (thn (he.run pins s σ H _ I h) fun v s1 ⟨x, H1, I1, r1, q1⟩ => ?_)
  refine wpAny_Slice (thn (hl.run pins s1 σ H1 _ I1 q1) fun vl s2 ⟨l, H2, I2, pl, q2⟩ => thn (hh.run pins s2 σ H2 _ I2 q2) fun vu s3 ⟨u, H3, I3, pu, q3⟩ => thn (hs.run pins s3 σ H3 _ I3 q3) fun vs s4 ⟨o, H4, I4, ps, q4⟩ => ?_)
  obtain ⟨a, xs, ex, hx, h0, hz2, q⟩ := q4
  subst ex
  cases r1
  have I5 : Inv X pins σ H4 { s4 with heap := s4.heap.push { cls := .type "slice", data := .fields #[vl, vu, vs] } } := I4.kept (t' := s4.toks) fun b ob q => Heap.get?_push_of_some _ q
  obtain ⟨its, r, ht, hz⟩ := I5.list hx
  have hlen := r.length
  show wpAny (model X.prog X.w) X.A (subscriptTail e (.Slice lo hi (some st) p2) (.ref a) (.ref s4.heap.objs.size)) (EP X pins σ Q) X.xe { s4 with heap := s4.heap.push { cls := .type "slice", data := .fields #[vl, vu, vs] } }
  refine tail_any (ops := [.ref a, .ref s4.heap.objs.size]) ht.isList.typeIs (PySem.slot_list_getitem.lookup) ?_ (by with_unfolding_all rfl)
  refine wpAny_getItem_list_slice ht.isList (Heap.IsSliceOf.new _ vl vu vs) pl pu ps h0 ?_ (by rw [List.size_toArray]; omega)
  rw [pick_step]
  refine ⟨.ref _, _, I5.laid (t' := s4.toks) (o := .lst (stepL xs l u o)) (fun b ob q => Heap.get?_push_of_some _ q) (Nat.le_refl _) ?_, rfl, q _ (I5.hok.fresh (Nat.le_refl _))⟩
  have vv : Vals (stepL xs l u o) (stepL its l u o) := by
    unfold stepL
    rw [hlen]
    exact vals_pick r _
  exact ⟨hz2, _, 0, vv, Heap.get?_push_size _ rfl⟩
/-- e[lo:hi:st], a new list -/
def fStep (f : FE) (fl fh fs : Es → Option (Option Int × Es)) : FA := fun δ => (f δ).bind fun (d, δ1) => (fl δ1).bind fun (l, δ2) => (fh δ2).bind fun (h, δ3) => (fs δ3).bind fun (o, δ4) => match d with
  | .lst ds => if o ≠ some 0 ∧ (stepL ds l h o).length ≤ big then some (stepL ds l h o, δ4) else none
  | _ => none
theorem pf_step {lo hi : Option Expr} {st : Expr} {fl fh fs : Es → Option (Option Int × Es)} {p2 : Pos} (he : PE X e (tD T fe)) (hl : PO X lo (tDo T fl)) (hh : PO X hi (tDo T fh)) (hs : PO X (some st) (tDo T fs)) : PE X (.Subscript e (.Slice lo hi (some st) p2) pos) (tF T (fStep fe fl fh fs)) := PE.imp (pe_stepL he hl hh hs) fun σ H Q ⟨S0, δ, ds, δ', ok, e, q⟩ => by
  obtain ⟨d1, δ1, e1, e2⟩ := bind_some2 e
  obtain ⟨l, δ2, e3, e4⟩ := bind_some2 e2
  obtain ⟨h, δ3, e5, e6⟩ := bind_some2 e4
  obtain ⟨o, δ4, e7, e8⟩ := bind_some2 e6
  refine ⟨S0, δ, d1, δ1, ok, e1, fun v H1 ok1 s1 r => ⟨S0, δ1, l, δ2, ok1, e3, fun H2 ok2 s2 => ⟨S0, δ2, h, δ3, ok2, e5, fun H3 ok3 s3 => ⟨S0, δ3, o, δ4, ok3, e7, fun H4 ok4 s4 => ?_⟩⟩⟩⟩
  have r3 := (s2.trans (s3.trans s4)).rep r
  dsimp only at e8
  split at e8
  · rename_i xs
    obtain ⟨⟨h0, hb⟩, e9⟩ := ite_some e8
    cases e9
    rw [Rep] at r3
    obtain ⟨a, vs, rfl, ha, _, rs⟩ := r3
    have rr : Reps T H4 (Av S0 σ δ') (stepL xs l h o) (stepL vs l h o) := by
      unfold stepL
      rw [rs.length]
      exact reps_pick rs _
    refine ⟨a, vs, rfl, SqL.of ha, h0, ?_, fun p hp => q p _ H4 ok4 (((s1.trans s2).trans s3).trans s4) hp rr⟩
    rw [rr.length]
    exact big_line hb
  · cases e8
end Dl
/-! two lists handed in; new lists by + and *; a walk over an own list; is not None; greater numbers -/
namespace Dl
open PySem PySem.Spec PyProof.Rows L2 ClX
section
variable {T : CT} {S0 S : Addr → Prop} {σ : L2.St} {δ : Es} {H H' : Hp}
/-! ### two own lists of the caller -/
def sp2 (T : CT) (n : Nat) (F : List D → List D → List D → Option (D × List D × List D)) : Sp := fun vs H Q _ => ∃ S p q us ws zs xs ys ds d xs' ys', vs = V.ref p :: V.ref q :: zs ∧ p ≠ q ∧ (∀ b, S b → ∃ o, H b = some o) ∧ S p ∧ S q ∧
  H p = some (.lst us) ∧ H q = some (.lst ws) ∧ Reps T H S xs us ∧ Reps T H S ys ws ∧ ds.length = n ∧ Reps T H S ds zs ∧ F xs ys ds = some (d, xs', ys') ∧
  ∀ v H' us' ws', (∀ b o, H b = some o → b ≠ p → b ≠ q → H' b = some o) → H' p = some (.lst us') → H' q = some (.lst ws') → Reps T H' S xs' us' → Reps T H' S ys' ws' → Rep T H' S d v → Q v H'
def endP2 : Fl → Option (D × List D × List D)
  | .rt d (.own .pot xs :: .own .pot ys :: _) => some (d, xs, ys)
  | _ => none
theorem endP2_some {r : Fl} {d : D} {xs ys : List D} (h : endP2 r = some (d, xs, ys)) : ∃ δ1, r = .rt d (.own .pot xs :: .own .pot ys :: δ1) := by
  unfold endP2 at h
  split at h
  · cases h; exact ⟨_, rfl⟩
  · cases h
def outP2 (m : Nat) (g : FS) (xs ys ds : List D) : Option (D × List D × List D) := (g (.own .pot xs :: .own .pot ys :: ini (m - 2) ds)).bind endP2
theorem ini_no {m : Nat} {ds : List D} {i : Nat} {q : Ow} {es : List D} (h1 : (ini m ds)[i]? = some (.own q es)) : False := by
  unfold ini at h1
  rw [List.getElem?_append] at h1
  split at h1
  · rw [List.getElem?_map] at h1
    cases q : ds[i]? with
    | none => rw [q] at h1; cases h1
    | some d => rw [q] at h1; cases h1
  · rw [List.getElem?_replicate] at h1
    split at h1 <;> cases h1
theorem ini_val {T : CT} {S : Addr → Prop} {H : Hp} {m : Nat} {ds : List D} {vs : List V} (r : Reps T H S ds vs) {i : Nat} {d : D} (h : (ini m ds)[i]? = some (.val d)) : ∃ v, vs[i]? = some v ∧ Rep T H S d v := by
  unfold ini at h
  rw [List.getElem?_append] at h
  split at h
  · rw [List.getElem?_map] at h
    cases q : ds[i]? with
    | none => rw [q] at h; cases h
    | some d' =>
      rw [q] at h
      cases h
      exact r.get q
  · rw [List.getElem?_replicate] at h
    split at h <;> cases h
theorem iniP2_ok {T : CT} {S : Addr → Prop} {H : Hp} {N : List Str} {ds xs ys : List D} {vs us ws : List V} {p q : Addr} (ne : p ≠ q) (tr : ∀ b, S b → ∃ o, H b = some o) (hp : S p) (hq : S q) (ha : H p = some (.lst us)) (hb : H q = some (.lst ws)) (rx : Reps T H S xs us) (ry : Reps T H S ys ws) (r : Reps T H S ds vs) (hN : 1 < N.length) :
    Ok T S (L2.start N (V.ref p :: V.ref q :: vs)) (.own .pot xs :: .own .pot ys :: ini (N.length - 2) ds) H ∧ ∀ b, ownAt (L2.start N (V.ref p :: V.ref q :: vs)) (.own .pot xs :: .own .pot ys :: ini (N.length - 2) ds) b → b = p ∨ b = q := by
  have hl := r.length
  have hst : L2.start N (V.ref p :: V.ref q :: vs) = some (V.ref p) :: some (V.ref q) :: (vs.map some ++ List.replicate (N.length - (vs.length + 2)) none) := by
    unfold L2.start
    simp
  have own1 : ∀ b, ownAt (L2.start N (V.ref p :: V.ref q :: vs)) (.own .pot xs :: .own .pot ys :: ini (N.length - 2) ds) b → b = p ∨ b = q := fun b ⟨i, w, es, h1, h2⟩ => by
    rw [hst] at h2
    match i with
    | 0 => simp at h2; exact .inl h2.symm
    | 1 => simp at h2; exact .inr h2.symm
    | i + 2 => simp at h1; exact (ini_no h1).elim
  have sub : ∀ b, Av S (L2.start N (V.ref p :: V.ref q :: vs)) (.own .pot xs :: .own .pot ys :: ini (N.length - 2) ds) b → S b := fun b z => z.elim id fun z => by rcases own1 b z with e | e <;> rw [e] <;> assumption
  refine ⟨⟨?_, tr, fun i d h => ?_, fun i w es h => ?_, fun i j q1 q2 es fs a h1 h2 h3 h4 => ?_⟩, own1⟩
  · rw [hst]
    unfold ini
    simp only [List.length_cons, List.length_append, List.length_map, List.length_replicate]
    omega
  · match i with
    | 0 => simp at h
    | 1 => simp at h
    | i + 2 =>
      simp at h
      obtain ⟨v, hv, rv⟩ := ini_val r h
      refine ⟨v, ?_, rv.sub sub⟩
      rw [hst]
      have hi' : i < vs.length := (List.getElem?_eq_some_iff.mp hv).1
      rw [List.getElem?_cons_succ, List.getElem?_cons_succ, List.getElem?_append_left (by simpa using hi'), List.getElem?_map, hv]
      rfl
  · match i with
    | 0 =>
      simp at h
      obtain ⟨rfl, rfl⟩ := h
      exact ⟨p, us, by rw [hst]; rfl, ha, rx.sub sub, fun z => by cases z⟩
    | 1 =>
      simp at h
      obtain ⟨rfl, rfl⟩ := h
      exact ⟨q, ws, by rw [hst]; rfl, hb, ry.sub sub, fun z => by cases z⟩
    | i + 2 => simp at h; exact (ini_no h).elim
  · rw [hst] at h3 h4
    match i, j with
    | 0, 0 => rfl
    | 1, 1 => rfl
    | 0, 1 =>
      simp at h3 h4
      exact absurd (h3.trans h4.symm) ne
    | 1, 0 =>
      simp at h3 h4
      exact absurd (h4.trans h3.symm) ne
    | 0, j + 2 => simp at h2; exact (ini_no h2).elim
    | 1, j + 2 => simp at h2; exact (ini_no h2).elim
    | i + 2, _ => simp at h1; exact (ini_no h1).elim
end
section
variable {P : Program} {w : World} {K : PySem.W.Frag} {mg : Str → Option Value} {base : Heap} {T : CT}
theorem ok2' {x qual : Str} {st : Stmt} {f : Addr} {fd : FuncData} {N ps : List Str} {k m n : Nat} {g : FS} (F : Fun K x qual st f fd) (S : FnScope N ps (defScope st)) (hNm : N.length = m) (hn : ps.length = n + 2)
    (body : ∀ (cdv : Value) (A : Around) (outer : List PySem.Env) (s : Shared) (H : Hp) (E : XK), Quiet A → Room k (A.deeper (envOfC qual (defScope st) s.heap.objs.size f cdv)) → PSs (cxOf CX0 P w K mg base N qual (defScope st) f cdv A outer s H E).nox (defBody st) (tSt T g)) : FnG P w K mg base (k + 1) f fd ps (sp2 T n (outP2 m g)) := by
  subst hNm
  have hN : 1 < N.length := by
    have h := congrArg List.length S.pre
    rw [List.length_take, hn] at h
    omega
  obtain ⟨oc, od, kV, doc, pm, an, cdv, ct, osl, rfl, lk, hcd⟩ := F.ex
  refine fnG_of lk hcd S (fun vs H Q E h => ?_) (fun A outer s H vs Q E hq hr h => ?_)
  · obtain ⟨S, p, q, us, ws, zs, xs, ys, ds, d, xs', ys', rfl, _, _, _, _, _, _, _, _, hl, r, _⟩ := h
    rw [List.length_cons, List.length_cons, r.length, hl, hn]
  · obtain ⟨S, p, q, us, ws, zs, xs, ys, ds, d, xs', ys', rfl, ne, tr, hp, hq', ha, hb, rx, ry, hl, r, eG, qq⟩ := h
    obtain ⟨r1, e1, e2⟩ := bind_some1 eG
    obtain ⟨δ1, rfl⟩ := endP2_some e2
    obtain ⟨ok, own1⟩ := iniP2_ok ne tr hp hq' ha hb rx ry r hN
    refine ⟨_, body cdv A outer s H E hq hr, S, _, _, ok, e1, ?_⟩
    intro v σ' H' ok' s r'
    have hst0 : (L2.start N (V.ref p :: V.ref q :: zs))[0]? = some (some (V.ref p)) := by unfold L2.start; simp
    have hst1 : (L2.start N (V.ref p :: V.ref q :: zs))[1]? = some (some (V.ref q)) := by unfold L2.start; simp
    obtain ⟨a, us', e3, e4, rs, _⟩ := ok'.ow 0 .pot xs' rfl
    obtain ⟨_, e5⟩ := s.pot 0 .pot xs' (by intro z; cases z) rfl
    obtain ⟨b, ws', f3, f4, rs2, _⟩ := ok'.ow 1 .pot ys' rfl
    obtain ⟨_, f5⟩ := s.pot 1 .pot ys' (by intro z; cases z) rfl
    rw [e3, hst0] at e5
    rw [f3, hst1] at f5
    cases e5
    cases f5
    exact qq v H' us' ws' (fun c o e n1 n2 => s.keep c o e fun z => (own1 c z).elim n1 n2) e4 f4 (rs.sub fun b z => .inl z) (rs2.sub fun b z => .inl z) (r'.sub fun b z => .inl z)
end
section
variable {X : Cx} {T : CT} {n k : Nat} {f : Addr} {fd : FuncData} {ps : List Str} {x : Str} {p pos : Pos}
def fCallP2 (i j : Nat) (F : List D → List D → List D → Option (D × List D × List D)) : FE := fun δ => match δ[i]?, δ[j]? with
  | some (.own w xs), some (.own w2 ys) => if isL w = true ∧ isL w2 = true ∧ i ≠ j then (F xs ys []).map fun (d, xs', ys') => (d, (δ.set i (.own w xs')).set j (.own w2 ys')) else none
  | _, _ => none
theorem pd_callP2 {i j : Nat} {y z : Str} {F : List D → List D → List D → Option (D × List D × List D)} {py pz : Pos} (G : FnG X.prog X.w X.K X.mg X.base k f fd ps (sp2 T 0 F)) (hq : Quiet X.A) (hr : Room k X.A) (hm : X.mg x = some (.ref f)) (hk : PySem.W.keepIn X.K (.ref f) = true) (hb : Binds X.K fd ps []) (hps : ps.length = 2)
    (hN : X.N[i]? = some y := by rfl) (hv : Vis X.env.scope y := by first | exact Or.inl rfl | exact Or.inr (Or.inl rfl) | exact Or.inr (Or.inr rfl)) (hdy : (y == ("__debug__" : Str)) = false := by decide) (hcd : (y == ("__classdict__" : Str)) = false := by decide)
    (hN2 : X.N[j]? = some z := by rfl) (hv2 : Vis X.env.scope z := by first | exact Or.inl rfl | exact Or.inr (Or.inl rfl) | exact Or.inr (Or.inr rfl)) (hdz : (z == ("__debug__" : Str)) = false := by decide) (hcz : (z == ("__classdict__" : Str)) = false := by decide)
    (hg : Gl X x := by rfl) (hdb : (x == ("__debug__" : Str)) = false := by decide) (he : starEach [.Name y py, .Name z pz] X.env = (false, eval (.Name y py) X.env) :: starEach [.Name z pz] X.env := by rfl) (he2 : starEach [.Name z pz] X.env = (false, eval (.Name z pz) X.env) :: starEach [] X.env := by rfl)
    (hpl : ((backTo pos (starEach [.Name y py, .Name z pz] X.env)).any (·.1) || (backToKw pos (keywordEach [] X.env)).any (·.1.isNone)) = false := by rfl) :
    PE X (.Call (.Name x p) [.Name y py, .Name z pz] [] pos) (tD T (fCallP2 i j F)) := PE.imp (pe_callG (E := E0) G hq hr hm hk (kbn_pos hb hps) (pa_cons (pe_var hN hv hdy hcd) (pa_cons (pe_var hN2 hv2 hdz hcz) pa_nil he2) he) pk_nil hg rfl rfl hdb he hpl) fun σ H Q h => by
  obtain ⟨S0, δ, d, δ', ok, e, q⟩ := h
  unfold fCallP2 at e
  split at e
  case h_2 => cases e
  rename_i w xs w2 ys ei ej
  obtain ⟨⟨l1, l2, ne⟩, e⟩ := (show (isL w = true ∧ isL w2 = true ∧ i ≠ j) ∧ (F xs ys []).map (fun (d, xs', ys') => (d, (δ.set i (.own w xs')).set j (.own w2 ys'))) = some (d, δ') from by
    by_cases c : isL w = true ∧ isL w2 = true ∧ i ≠ j
    · rw [if_pos c] at e; exact ⟨c, e⟩
    · rw [if_neg c] at e; cases e)
  obtain ⟨⟨d1, xs', ys'⟩, eF, e5⟩ := map_some1 e
  cases e5
  obtain ⟨a, us, ea, ha, ra, _⟩ := ok.ow i w xs ei
  obtain ⟨b, ws, eb, hbb, rb, _⟩ := ok.ow j w2 ys ej
  rw [isL_ho l1] at ha
  rw [isL_ho l2] at hbb
  have nab : a ≠ b := fun z => ne (ok.dj i j w w2 xs ys a ei ej ea (by rw [eb, z]))
  refine ⟨_, ea, _, eb, ⟨rfl, rfl, ?_⟩⟩
  refine ⟨Av S0 σ δ, a, b, us, ws, [], xs, ys, [], d, xs', ys', rfl, nab, fun c z => ok.trk z, .inr ⟨i, w, xs, ei, ea⟩, .inr ⟨j, w2, ys, ej, eb⟩, ha, hbb, ra, rb, rfl, Reps.nil, eF, fun v H' us' ws' hk' hp hq' r1 r2 r => ?_⟩
  -- the first list alone
  let Hm : Hp := fun c => if c = b then some (.lst ws) else H' c
  have hm_b : Hm b = some (.lst ws) := if_pos rfl
  have hm_n : ∀ c, c ≠ b → Hm c = H' c := fun c h => if_neg h
  have avb : Av S0 σ δ b := .inr ⟨j, w2, ys, ej, eb⟩
  have r1m : Reps T Hm (Av S0 σ δ) xs' us' := r1.move (fun c o z nS => by rw [hm_n c (fun z => nS (by rw [z]; exact avb))]; exact z) fun c z => .inl z
  obtain ⟨ok2, s2⟩ := ok.change (H' := Hm) ei ea (fun c o z nc => by
    by_cases cb : c = b
    · subst cb; rw [hbb] at z; cases z; exact hm_b
    · rw [hm_n c cb]; exact hk' c o z nc cb) (by rw [hm_n a nab, isL_ho l1]; exact hp) r1m
  have ej2 : (δ.set i (.own w xs'))[j]? = some (.own w2 ys) := by rw [List.getElem?_set_ne ne]; exact ej
  have same : ∀ c, Av S0 σ (δ.set i (.own w xs')) c → Av S0 σ δ c := fun c z => z.elim .inl fun z => by
    obtain ⟨l, q3, es, h1, h2⟩ := z
    rcases get_set h1 with ⟨rfl, _, _⟩ | ⟨_, h1⟩
    · exact .inr ⟨l, w, xs, ei, h2⟩
    · exact .inr ⟨l, q3, es, h1, h2⟩
  obtain ⟨ok3, s3⟩ := ok2.change (H' := H') ej2 eb (fun c o z nc => by rw [hm_n c nc] at z; exact z) (by rw [isL_ho l2]; exact hq') (r2.sub same)
  refine q v H' ok3 (s2.trans s3) (r.sub fun c z => same c (z.elim .inl fun z => ?_))
  obtain ⟨l, q3, es, h1, h2⟩ := z
  rcases get_set h1 with ⟨rfl, _, _⟩ | ⟨_, h1⟩
  · exact .inr ⟨l, w2, ys, ej2, h2⟩
  · exact .inr ⟨l, q3, es, h1, h2⟩
/-! ### new lists by + and * -/
def OpF (T : CT) (r : R2) (g : D → D → Option (List D)) : Prop := ∀ (S : Addr → Prop) (x y : D) (vx vy : V) (H : Hp) (ds : List D) (Q : VK), (∀ b, S b → ∃ o, H b = some o) → Rep T H S x vx → Rep T H S y vy → g x y = some ds →
  (∀ p us, H p = none → Reps T H S ds us → Q (.ref p) (upd H p (.lst us))) → r vx vy H Q
def fBinF (g : D → D → Option (List D)) (fa fb : FE) : FA := fun δ => (fa δ).bind fun (x, δ1) => (fb δ1).bind fun (y, δ2) => (g x y).map fun d => (d, δ2)
theorem pf_op {a b : Expr} {op : Operator} {r : R2} {g : D → D → Option (List D)} {fa fb : FE} {pos : Pos} (ho : OpR X (binaryOp op) r) (hv : OpF T r g) (ha : PE X a (tD T fa)) (hb : PE X b (tD T fb)) : PE X (.BinOp a op b pos) (tF T (fBinF g fa fb)) :=
  PE.imp (pe_op ho ha hb) fun σ H Q ⟨S0, δ, ds, δ', ok, e, q⟩ => by
  obtain ⟨x, δ1, e1, e2⟩ := bind_some2 e
  obtain ⟨y, δ2, e2, e3⟩ := bind_some2 e2
  dsimp only at e3
  obtain ⟨z, e5, e4⟩ := map_some1 e3
  cases e4
  refine ⟨S0, δ, x, δ1, ok, e1, fun vx H1 ok1 s1 r1 => ⟨S0, δ1, y, δ', ok1, e2, fun vy H2 ok2 s2 r2 => ?_⟩⟩
  exact hv _ x y vx vy H2 ds Q (fun b z => ok2.trk z) (s2.rep r1) r2 e5 fun p us hp r => q p us H2 ok2 (s1.trans s2) hp r
def gCatF : D → D → Option (List D)
  | .lst a, .lst b => if a.length + b.length ≤ big then some (a ++ b) else none
  | _, _ => none
theorem opf_cat : OpF T rCat gCatF := by
  intro S x y vx vy H d Q tr rx ry e q
  unfold gCatF at e
  split at e
  · obtain ⟨h, e⟩ := ite_some e
    subst e
    rw [Rep] at rx ry
    obtain ⟨a, vs, rfl, ha, _, rs⟩ := rx
    obtain ⟨b, ws, rfl, hb, _, rs'⟩ := ry
    exact ⟨a, b, vs, ws, rfl, rfl, ha, hb, by rw [rs.length, rs'.length]; exact big_line h, fun p hp => q p _ hp (rs.append rs')⟩
  · cases e
def gRepF : D → D → Option (List D)
  | .lst ds, .int k => if -(2 ^ 63) ≤ k ∧ k < 2 ^ 63 ∧ ds.length * k.toNat ≤ big then some (List.replicate k.toNat ds).flatten else none
  | _, _ => none
theorem opf_rep : OpF T rRep gRepF := by
  intro S x y vx vy H d Q tr rx ry e q
  unfold gRepF at e
  split at e
  · rename_i ds k
    obtain ⟨⟨h1, h2, h3⟩, rfl⟩ := ite_some e
    rw [Rep] at rx
    obtain ⟨a, vs, rfl, ha, _, r⟩ := rx
    rw [rep_int ry]
    exact ⟨a, k, vs, rfl, rfl, ha, h1, h2, by rw [r.length]; exact big_line h3, fun p hp => q p _ hp (reps_flat r k.toNat)⟩
  · cases e
/-! ### is not None -/
def gNotN : D → D → Option D
  | .int _, .non => some (.bl true)
  | .non, .non => some (.bl false)
  | _, _ => none
theorem opv_notN : OpV T (fun x y H Q => y = .non ∧ Q (.bl (!decide (x = .non))) H) gNotN := by
  intro S x y vx vy H d Q tr rx ry e q
  unfold gNotN at e
  split at e
  · cases e
    rw [Rep] at ry
    rw [rep_int rx]
    exact ⟨ry, q _ H (Same.refl _) (rep_lit rfl)⟩
  · cases e
    rw [Rep] at rx ry
    subst rx
    exact ⟨ry, q _ H (Same.refl _) (rep_lit rfl)⟩
  · cases e
/-! ### greater numbers -/
def okMulB (i j : Int) : Bool := decide (i.natAbs < 2 ^ 400000) && decide (j.natAbs < 2 ^ 400000)
theorem opv_mulB : OpV T (rI CMulW fun i j => .int (i * j)) (gI okMulB fun i j => .int (i * j)) := opv_I (fun i j h => by
  unfold okMulB at h
  rw [Bool.and_eq_true] at h
  exact wide_mul (of_decide_eq_true h.1) (of_decide_eq_true h.2) (by decide) (by decide) (by decide)) fun _ _ => rfl
/-! ### a walk over an own list, which stays its holder's -/
def loopO (i : Nat) (ft : FG) (g : FS) : Nat → Nat → Es → Option Fl
  | 0, n, δ => match δ[i]? with
    | some (.own .pot xs) => if xs.length ≤ n then some (.nx (δ.set i (.own .mine xs))) else none
    | _ => none
  | k + 1, n, δ => match δ[i]? with
    | some (.own .pot xs) => if xs.length ≤ n then some (.nx (δ.set i (.own .mine xs))) else (xs[n]?).bind fun d => (ft d δ).bind fun δ1 => (g δ1).bind fun r => match r with
      | .nx δ2 => loopO i ft g k (n + 1) δ2
      | _ => none
    | _ => none
def sForO (i : Nat) (ft : FG) (g : FS) : FS := fun δ => match δ[i]? with
  | some (.own .mine xs) => loopO i ft g xs.length 0 (δ.set i (.own .pot xs))
  | _ => none
theorem ownAt_re {σ : L2.St} {δ : Es} {i : Nat} {w w' : Ow} {xs : List D} (e : δ[i]? = some (.own w xs)) (b : Addr) : ownAt σ (δ.set i (.own w' xs)) b ↔ ownAt σ δ b := by
  have hi : i < δ.length := (List.getElem?_eq_some_iff.mp e).1
  constructor
  · rintro ⟨j, p, es, h1, h2⟩
    rcases get_set h1 with ⟨rfl, _, _⟩ | ⟨_, h1⟩
    · exact ⟨j, w, xs, e, h2⟩
    · exact ⟨j, p, es, h1, h2⟩
  · rintro ⟨j, p, es, h1, h2⟩
    by_cases hj : j = i
    · subst hj
      exact ⟨j, w', xs, by rw [List.getElem?_set_self hi], h2⟩
    · exact ⟨j, p, es, by rw [List.getElem?_set_ne (Ne.symm hj)]; exact h1, h2⟩
theorem Av_re {S0 : Addr → Prop} {σ : L2.St} {δ : Es} {i : Nat} {w w' : Ow} {xs : List D} (e : δ[i]? = some (.own w xs)) (b : Addr) : Av S0 σ (δ.set i (.own w' xs)) b ↔ Av S0 σ δ b := by
  unfold Av
  rw [ownAt_re e b]
theorem Ok.re {S0 : Addr → Prop} {σ : L2.St} {δ : Es} {H : Hp} {i : Nat} {w w' : Ow} {xs : List D} (k : Ok T S0 σ δ H) (e : δ[i]? = some (.own w xs)) (hl : isL w = true) (hl' : isL w' = true) (hS : w' = .mine → ∀ a, σ[i]? = some (some (.ref a)) → ¬ S0 a) : Ok T S0 σ (δ.set i (.own w' xs)) H := by
  have hi : i < δ.length := (List.getElem?_eq_some_iff.mp e).1
  have sub : ∀ b, Av S0 σ (δ.set i (.own w' xs)) b → Av S0 σ δ b := fun b => (Av_re e b).mp
  have back : ∀ {j : Nat} {p : Ow} {es : List D}, (δ.set i (.own w' xs))[j]? = some (.own p es) → ∃ q, δ[j]? = some (.own q es) := fun {j p es} h => by
    rcases get_set h with ⟨rfl, _, z⟩ | ⟨_, h⟩
    · cases z; exact ⟨w, e⟩
    · exact ⟨p, h⟩
  refine ⟨by rw [List.length_set]; exact k.len, k.tr, fun j d h => ?_, fun j q es h => ?_, fun j l q1 q2 es fs b h1 h2 h3 h4 => ?_⟩
  · rcases get_set h with ⟨_, _, z⟩ | ⟨_, h⟩
    · cases z
    · obtain ⟨v, e1, r⟩ := k.sl j d h
      exact ⟨v, e1, r.sub sub⟩
  · rcases get_set h with ⟨rfl, _, z⟩ | ⟨_, h⟩
    · cases z
      obtain ⟨a, vs, e1, e2, r, _⟩ := k.ow j w xs e
      rw [isL_ho hl] at e2
      exact ⟨a, vs, e1, by rw [isL_ho hl']; exact e2, r.sub sub, fun z => hS z a e1⟩
    · obtain ⟨a, vs, e1, e2, r, n⟩ := k.ow j q es h
      exact ⟨a, vs, e1, e2, r.sub sub, n⟩
  · obtain ⟨q1', h1⟩ := back h1
    obtain ⟨q2', h2⟩ := back h2
    exact k.dj j l q1' q2' es fs b h1 h2 h3 h4
theorem st_forO {i : Nat} {y : Str} {py : Pos} {tg : Expr} {body : List Stmt} {ws : List Nat} {ft : FG} {g : FS} (hp : PassesOwn (model X.prog X.w) X.A X.env X.xe) (hc : X.calm = true) (hg : PG X tg (tTg T ws ft)) (hb : PSs X body (tSt T g))
    (hN : X.N[i]? = some y := by rfl) (hv : Vis X.env.scope y := by first | exact Or.inl rfl | exact Or.inr (Or.inl rfl) | exact Or.inr (Or.inr rfl)) (hdy : (y == ("__debug__" : Str)) = false := by decide) (hcd : (y == ("__classdict__" : Str)) = false := by decide)
    (hs : ∀ x, foldedSetIterable (.Name y py) X.env x = pure x := by intro _; rfl) : PS X (.For tg (.Name y py) body [] pos) (tSt T (sForO i ft g)) := PS.imp (ps_for hp hc (pi_list (pe_var hN hv hdy hcd)) hg hb hs) fun E σ H ⟨S0, δ, r, ok, e, q⟩ => by
  unfold sForO at e
  split at e
  case h_2 => cases e
  rename_i xs ei
  obtain ⟨a, us, ea, ha, rs, nS⟩ := ok.ow i .mine xs ei
  have hi : i < δ.length := (List.getElem?_eq_some_iff.mp ei).1
  have okp : Ok T S0 σ (δ.set i (.own .pot xs)) H := ok.re ei rfl rfl (fun z => by cases z)
  have eip : (δ.set i (.own .pot xs))[i]? = some (.own .pot xs) := List.getElem?_set_self hi
  -- a step of the walk is a step of the holder
  have lift : ∀ {σ' : L2.St} {δ' : Es} {H' : Hp} {ys : List D}, Step σ (δ.set i (.own .pot xs)) H σ' δ' H' → δ'[i]? = some (.own .pot ys) → Step σ δ H σ' (δ'.set i (.own .mine ys)) H' := fun {σ' δ' H' ys} s e' => by
    refine ⟨fun b o z n => s.keep b o z fun z2 => n ((ownAt_re ei b).mp z2), fun b z => ?_, s.trk, fun j p es hp h => ?_⟩
    · rcases s.own b ((ownAt_re e' b).mp z) with z | z
      · exact .inl ((ownAt_re ei b).mp z)
      · exact .inr z
    · rcases get_set h with ⟨_, _, z⟩ | ⟨hj, h⟩
      · cases z; exact absurd rfl hp
      · obtain ⟨⟨ds', e1⟩, e2⟩ := s.pot j p es hp h
        rcases get_set e1 with ⟨z, _, _⟩ | ⟨_, e1⟩
        · exact absurd z hj
        · exact ⟨⟨ds', e1⟩, e2⟩
  refine ⟨_, ea, a, rfl, ⟨us, SqL.of ha⟩, ?_⟩
  refine ⟨fun n m σ' H' => ∃ δi, Ok T S0 σ' δi H' ∧ Step σ (δ.set i (.own .pot xs)) H σ' δi H' ∧ loopO i ft g m n δi = some r, ⟨xs.length, _, okp, Step.refl, e⟩, ?_⟩
  rintro n m σ' H' ⟨δi, oki, si, el⟩
  obtain ⟨ys, hy⟩ : ∃ ys, δi[i]? = some (.own .pot ys) := by
    cases m with
    | zero =>
      rw [loopO] at el
      split at el
      · rename_i ys hy; exact ⟨ys, hy⟩
      · cases el
    | succ m =>
      rw [loopO] at el
      split at el
      · rename_i ys hy; exact ⟨ys, hy⟩
      · cases el
  obtain ⟨⟨_, _⟩, es⟩ := si.pot i .pot ys (by intro z; cases z) hy
  obtain ⟨a', us', ea', ha', rs', _⟩ := oki.ow i .pot ys hy
  rw [es, ea] at ea'
  cases ea'
  by_cases hlt : ys.length ≤ n
  · have er : r = .nx (δi.set i (.own .mine ys)) := by
      cases m with
      | zero => rw [loopO, hy] at el; dsimp only at el; rw [if_pos hlt] at el; exact (Option.some.inj el).symm
      | succ m => rw [loopO, hy] at el; dsimp only at el; rw [if_pos hlt] at el; exact (Option.some.inj el).symm
    subst er
    have okm : Ok T S0 σ' (δi.set i (.own .mine ys)) H' := oki.re hy rfl rfl (fun _ b hb => by
      rw [es, ea] at hb
      cases hb
      exact nS rfl)
    exact .inl ⟨⟨us', SqL.of ha', by rw [rs'.length]; exact hlt⟩, q σ' H' okm (lift si hy)⟩
  · cases m with
    | zero => rw [loopO, hy] at el; dsimp only at el; rw [if_neg hlt] at el; cases el
    | succ m =>
      rw [loopO, hy] at el
      dsimp only at el
      rw [if_neg hlt] at el
      have hlt' : n < ys.length := by omega
      obtain ⟨d, ed, el⟩ := bind_some1 el
      obtain ⟨v, hv', rv⟩ := rs'.get ed
      refine .inr ⟨⟨us', v, SqL.of ha', hv'⟩, fun σ2 H2 => ∃ δ2, Ok T S0 σ2 δ2 H2 ∧ Step σ (δ.set i (.own .pot xs)) H σ2 δ2 H2 ∧ loopO i ft g m (n + 1) δ2 = some r, fun σ2 H2 z => ⟨m, by omega, z⟩, fun x H2 hyl => ?_⟩
      obtain ⟨e1, hx⟩ := hyl
      have hx2 := hx us' (SqL.of ha')
      rw [hv'] at hx2
      cases hx2
      subst e1
      obtain ⟨δa, e3, e4⟩ := bind_some1 el
      obtain ⟨r', e5, e6⟩ := bind_some1 e4
      refine ⟨S0, δi, _, δa, oki, rv, e3, fun σa Ha _ oka sa => ⟨S0, δa, r', oka, e5, ?_⟩⟩
      cases r' with
      | nx δ2 => exact fun σ3 H3 ok3 s3 => ⟨δ2, ok3, (si.trans sa).trans s3, e6⟩
      | ct δ2 => cases e6
      | bk δ2 => cases e6
      | rt d δ2 => cases e6
end
section
variable {X : Cx} {T : CT}
def okDivB (_ j : Int) : Bool := decide (j ≠ 0) && decide (j.natAbs < 2 ^ 8900)
theorem opv_fdivB : OpV T (rI CDivNW fun i j => .int (i.fdiv j)) (gI okDivB fun i j => .int (i.fdiv j)) := opv_I (fun i j h => by
  unfold okDivB at h
  simp only [Bool.and_eq_true, decide_eq_true_eq] at h
  exact ⟨h.1, Nat.lt_of_lt_of_le (PySem.Flt.log2_lt_of (by decide) h.2) (by decide)⟩) fun _ _ => rfl
/-! ### lcm of greater numbers -/
def funLcmB : List D → Option D
  | [.int i, .int j] => if i.natAbs < 2 ^ 13000 ∧ j.natAbs < 2 ^ 13000 then some (.int ((Nat.lcm i.natAbs j.natAbs : Nat) : Int)) else none
  | _ => none
def rLcmB : List V → Hp → VK → Prop := fun vs H Q => ∃ a b : Int, vs = [.int a, .int b] ∧ a.natAbs < 2 ^ 13000 ∧ b.natAbs < 2 ^ 13000 ∧ Q (.int ((Nat.lcm a.natAbs b.natAbs : Nat) : Int)) H
theorem log_le {n k : Nat} (hk : 0 < k) (h : n < 2 ^ k) : n.log2 < k := PySem.Flt.log2_lt_of hk h
theorem cr_lcmB : CallR X (.builtin "math.lcm") rLcmB := by
  intro pins s σ H vs us Q I r h
  obtain ⟨a, b, rfl, ha, hb, q⟩ := h
  obtain ⟨t, u, rfl⟩ := Vals.int2 r
  have p0 : (0 : Nat) < 2 ^ 13000 := Nat.two_pow_pos _
  have l1 : (max 1 a.natAbs).log2 < 13000 := log_le (by decide) (by
    have : 1 < 2 ^ 13000 := Nat.one_lt_two_pow (by decide)
    omega)
  have l2 : (max a.natAbs b.natAbs).log2 < 13000 := log_le (by decide) (by omega)
  have lc : Nat.lcm a.natAbs b.natAbs < 2 ^ 26000 := by
    have h1 := PySem.W.mc_lcm_le a.natAbs b.natAbs
    have h2 : a.natAbs * b.natAbs < 2 ^ 13000 * 2 ^ 13000 := Nat.mul_lt_mul'' ha hb
    rw [← Nat.pow_add] at h2
    exact Nat.lt_of_le_of_lt h1 h2
  have l3 : (Nat.lcm a.natAbs b.natAbs).log2 < 26000 := log_le (by decide) lc
  have e1 : Nat.lcm 1 a.natAbs = a.natAbs := PySem.W.mc_lcm_one _
  have run := PySem.W.mg_run_lcm a t b u (by omega) (by omega) (by
    rw [e1, Int.natAbs_natCast]
    exact Nat.lt_of_lt_of_le l3 (by decide))
  rw [e1] at run
  exact call_function_meets PySem.W.MGF.kind_lcm PySem.W.MGF.plain_lcm PySem.W.MGF.entry_lcm (PySem.W.MGF.args_lcm _ _) run.meets ⟨.int _, H, I.tok _, ⟨_, rfl⟩, q⟩
theorem callv_lcmB : CallV T rLcmB funLcmB := by
  intro S ds vs H d Q tr r e q
  unfold funLcmB at e
  split at e
  · rename_i i j
    obtain ⟨⟨h1, h2⟩, rfl⟩ := ite_some e
    rw [Reps] at r
    obtain ⟨v, r2, rfl, a1, a2⟩ := r
    rw [Reps] at a2
    obtain ⟨v2, r3, rfl, b1, b2⟩ := a2
    rw [Reps] at b2; subst b2
    rw [rep_int a1, rep_int b1]
    exact ⟨i, j, rfl, h1, h2, q _ H (Same.refl _) (rep_lit rfl)⟩
  · cases e
end
end Dl
namespace My
def cof (t b : Int) : Int := if b < 0 then -(Int.gcd t b : Int) else (Int.gcd t b : Int)
def nrm (t b : Int) : Int × Int := (t.fdiv (cof t b), b.fdiv (cof t b))
structure IsN (t b p q : Int) : Prop where
  pos : 0 < q
  one : Int.gcd p q = 1
  eq : p * b = t * q
theorem cof_ne {t b : Int} (h : b ≠ 0) : cof t b ≠ 0 := by
  have : 0 < Int.gcd t b := Int.gcd_pos_of_ne_zero_right _ h
  unfold cof
  split <;> omega
theorem cof_dvd {t b : Int} : cof t b ∣ t ∧ cof t b ∣ b := by
  unfold cof
  split
  · exact ⟨Int.neg_dvd.mpr (Int.gcd_dvd_left ..), Int.neg_dvd.mpr (Int.gcd_dvd_right ..)⟩
  · exact ⟨Int.gcd_dvd_left .., Int.gcd_dvd_right ..⟩
theorem nrm_is {t b : Int} (h : b ≠ 0) : IsN t b (nrm t b).1 (nrm t b).2 := by
  obtain ⟨⟨p, hp⟩, ⟨q, hq⟩⟩ := @cof_dvd t b
  have hc := @cof_ne t b h
  have e1 : (nrm t b).1 = p := by
    show t.fdiv (cof t b) = p
    conv => lhs; arg 1; rw [hp]
    exact Int.mul_fdiv_cancel_left p hc
  have e2 : (nrm t b).2 = q := by
    show b.fdiv (cof t b) = q
    conv => lhs; arg 1; rw [hq]
    exact Int.mul_fdiv_cancel_left q hc
  rw [e1, e2]
  have hg : 0 < Int.gcd t b := Int.gcd_pos_of_ne_zero_right _ h
  have habs : (cof t b).natAbs = Int.gcd t b := by
    unfold cof
    split <;> simp
  refine ⟨?_, ?_, ?_⟩
  · have : b = cof t b * q := hq
    by_cases hb : b < 0
    · have hc' : cof t b < 0 := by unfold cof; rw [if_pos hb]; omega
      rcases Int.lt_trichotomy q 0 with hq' | hq' | hq'
      · have := Int.mul_pos_of_neg_of_neg hc' hq'; omega
      · subst hq'; omega
      · exact hq'
    · have hc' : 0 < cof t b := by unfold cof; rw [if_neg hb]; omega
      rcases Int.lt_trichotomy q 0 with hq' | hq' | hq'
      · have := Int.mul_neg_of_pos_of_neg hc' hq'; omega
      · subst hq'; omega
      · exact hq'
  · have e : Int.gcd (cof t b * p) (cof t b * q) = (cof t b).natAbs * Int.gcd p q := Int.gcd_mul_left ..
    rw [← hp, ← hq, habs] at e
    have : Int.gcd t b * Int.gcd p q = Int.gcd t b * 1 := by omega
    exact Nat.eq_of_mul_eq_mul_left hg this
  · calc p * b = p * (cof t b * q) := by rw [← hq]
      _ = (cof t b * p) * q := by rw [← Int.mul_assoc, Int.mul_comm p]
      _ = t * q := by rw [← hp]
theorem dvd_co {q a b : Int} (h : q ∣ a * b) (c : Int.gcd q a = 1) : q ∣ b := by
  rw [← Int.natAbs_dvd_natAbs] at h ⊢
  rw [Int.natAbs_mul] at h
  exact Nat.Coprime.dvd_of_dvd_mul_left c h
theorem isN_unique {t b p q p' q' : Int} (hb : b ≠ 0) (h : IsN t b p q) (h' : IsN t b p' q') : p = p' ∧ q = q' := by
  have e : p * q' = p' * q := by
    have : b * (p * q') = b * (p' * q) := by
      calc b * (p * q') = (p * b) * q' := by rw [← Int.mul_assoc, Int.mul_comm b]
        _ = t * q * q' := by rw [h.eq]
        _ = t * q' * q := by rw [Int.mul_assoc, Int.mul_comm q, ← Int.mul_assoc]
        _ = p' * b * q := by rw [h'.eq]
        _ = b * (p' * q) := by rw [← Int.mul_assoc, Int.mul_comm b]
    exact Int.eq_of_mul_eq_mul_left hb this
  have d1 : q ∣ q' := by
    have : q ∣ p * q' := ⟨p', by rw [e, Int.mul_comm]⟩
    exact dvd_co this (by rw [Int.gcd_comm]; exact h.one)
  have d2 : q' ∣ q := by
    have : q' ∣ p' * q := ⟨p, by rw [← e, Int.mul_comm]⟩
    exact dvd_co this (by rw [Int.gcd_comm]; exact h'.one)
  have eq : q = q' := Int.dvd_antisymm (Int.le_of_lt h.pos) (Int.le_of_lt h'.pos) d1 d2
  subst eq
  exact ⟨Int.eq_of_mul_eq_mul_right (Int.ne_of_gt h.pos) e, rfl⟩
theorem nrm_eq {t b p q : Int} (hb : b ≠ 0) (h : IsN t b p q) : nrm t b = (p, q) := by
  obtain ⟨e1, e2⟩ := isN_unique hb (nrm_is hb) h
  exact Prod.ext e1 e2
/-- the same fraction by other numbers -/
theorem nrm_same {t b t' b' : Int} (hb : b ≠ 0) (hb' : b' ≠ 0) (e : t * b' = t' * b) : nrm t b = nrm t' b' := by
  have h := nrm_is (t := t') hb'
  refine nrm_eq hb ⟨h.pos, h.one, ?_⟩
  have : b' * ((nrm t' b').1 * b) = b' * (t * (nrm t' b').2) := by
    calc b' * ((nrm t' b').1 * b) = ((nrm t' b').1 * b') * b := by rw [← Int.mul_assoc, Int.mul_comm b']
      _ = t' * (nrm t' b').2 * b := by rw [h.eq]
      _ = (t' * b) * (nrm t' b').2 := by rw [Int.mul_assoc, Int.mul_comm (nrm t' b').2, ← Int.mul_assoc]
      _ = (t * b') * (nrm t' b').2 := by rw [e]
      _ = b' * (t * (nrm t' b').2) := by rw [← Int.mul_assoc, Int.mul_comm t]
  exact Int.eq_of_mul_eq_mul_left hb' this
theorem nrm_one (i : Int) : nrm i 1 = (i, 1) := nrm_eq (by decide) ⟨by decide, by simp, by simp⟩
theorem natAbs_fdiv_le {a c : Int} (h : c ∣ a) : (a.fdiv c).natAbs ≤ a.natAbs := by
  obtain ⟨k, rfl⟩ := h
  by_cases hc : c = 0
  · subst hc; simp
  · rw [Int.mul_fdiv_cancel_left k hc, Int.natAbs_mul]
    exact Nat.le_mul_of_pos_left _ (by omega)
theorem nrm_le (t b : Int) : (nrm t b).1.natAbs ≤ t.natAbs ∧ (nrm t b).2.natAbs ≤ b.natAbs := ⟨natAbs_fdiv_le cof_dvd.1, natAbs_fdiv_le cof_dvd.2⟩
end My
namespace My
open PySem PySem.Spec PyProof.Rows L2 ClX Dl
def top (i : Nat) : Stmt := PySem.Challenge.pw_soughtrows_k12_whole_steps_and_kernels.main.body.getD i (.Pass ⟨0, 0, 0, 0⟩)
def TT (K : PySem.W.Frag) (C0 : Addr) : CT := ⟨fun c => match c with
  | 0 => some (C0, ["_top", "_bottom"])
  | _ => none, scOf K⟩
theorem sS {K : PySem.W.Frag} {C0 : Addr} : ScK K (TT K C0) := fun a ns h H => h H
def pInt : D → Bool
  | .bl _ => true | .int _ => true | _ => false
def pBool : D → Bool
  | .bl _ => true | _ => false
def pStr : D → Bool
  | .str _ => true | _ => false
def pLst : D → Bool
  | .lst _ => true | _ => false
def pTup : D → Bool
  | .tup _ => true | _ => false
def pObj (c : Nat) : D → Bool
  | .obj c' _ => c' == c | _ => false
abbrev s_law_pot : Stmt := top 38
abbrev s_law_draw : Stmt := top 39
abbrev s_law_pick : Stmt := top 40
abbrev s_law_sum : Stmt := top 41
abbrev s_law_product : Stmt := top 42
abbrev s_is_integer : Stmt := top 3
abbrev s_is_count : Stmt := top 4
abbrev s_is_list : Stmt := top 5
abbrev s_greatest_divisor : Stmt := top 6
abbrev s_Ratio_init : Stmt := inClass (top 13) 0
abbrev s_as_ratio : Stmt := top 15
abbrev s_is_number : Stmt := top 14
abbrev s_are_numbers : Stmt := top 16
abbrev s_law_number : Stmt := top 43
abbrev s_law_told : Stmt := top 44
abbrev s_law_row : Stmt := top 45
abbrev s_law_rows : Stmt := top 46
abbrev s_Ratio_top : Stmt := inClass (top 13) 2
abbrev s_Ratio_bottom : Stmt := inClass (top 13) 3
abbrev s_common_bottom : Stmt := top 19
abbrev s_times_whole : Stmt := top 20
abbrev s_short_row : Stmt := top 21
abbrev s_whole_row : Stmt := top 18
abbrev s_first_with : Stmt := top 25
abbrev s_less : Stmt := top 27
abbrev s_cleared : Stmt := top 26
abbrev s_reduced : Stmt := top 22
abbrev s_kernel_row : Stmt := top 24
abbrev s_kernel_rows : Stmt := top 23
abbrev s_ratio_rows : Stmt := top 33
abbrev s_whole_rows : Stmt := top 34
abbrev s_is_width : Stmt := top 35
abbrev s_check_rows : Stmt := top 36
abbrev s_steps : Stmt := top 31
abbrev s_kernel : Stmt := top 32
abbrev s_law_all_told : Stmt := top 47
abbrev s_law_led : Stmt := top 48
abbrev s_law_own : Stmt := top 49
abbrev s_law_head : Stmt := top 51
abbrev s_law_taken_off : Stmt := top 52
abbrev s_Ratio_eq : Stmt := inClass (top 13) 6
abbrev s_law_is_nought : Stmt := top 50
abbrev s_law_is_in_steps : Stmt := top 53
abbrev s_law_free : Stmt := top 54
abbrev s_law_are_ratios : Stmt := top 55
abbrev s_law_bare : Stmt := top 56
abbrev s_Ratio_repr : Stmt := inClass (top 13) 8
abbrev s_law_right : Stmt := top 57
abbrev s_law : Stmt := top 58
structure Facts (K : PySem.W.Frag) (mg : Str → Option Value) where
  C_Ratio : Addr
  a_law_pot : Addr
  d_law_pot : FuncData
  a_law_draw : Addr
  d_law_draw : FuncData
  a_law_pick : Addr
  d_law_pick : FuncData
  a_law_sum : Addr
  d_law_sum : FuncData
  a_law_product : Addr
  d_law_product : FuncData
  a_is_integer : Addr
  d_is_integer : FuncData
  a_is_count : Addr
  d_is_count : FuncData
  a_is_list : Addr
  d_is_list : FuncData
  a_greatest_divisor : Addr
  d_greatest_divisor : FuncData
  a_Ratio_init : Addr
  d_Ratio_init : FuncData
  a_as_ratio : Addr
  d_as_ratio : FuncData
  a_is_number : Addr
  d_is_number : FuncData
  a_are_numbers : Addr
  d_are_numbers : FuncData
  a_law_number : Addr
  d_law_number : FuncData
  a_law_told : Addr
  d_law_told : FuncData
  a_law_row : Addr
  d_law_row : FuncData
  a_law_rows : Addr
  d_law_rows : FuncData
  a_Ratio_top : Addr
  d_Ratio_top : FuncData
  a_Ratio_bottom : Addr
  d_Ratio_bottom : FuncData
  p_Ratio_bottom : Addr
  a_common_bottom : Addr
  d_common_bottom : FuncData
  p_Ratio_top : Addr
  a_times_whole : Addr
  d_times_whole : FuncData
  a_short_row : Addr
  d_short_row : FuncData
  a_whole_row : Addr
  d_whole_row : FuncData
  a_first_with : Addr
  d_first_with : FuncData
  a_less : Addr
  d_less : FuncData
  a_cleared : Addr
  d_cleared : FuncData
  a_reduced : Addr
  d_reduced : FuncData
  a_kernel_row : Addr
  d_kernel_row : FuncData
  a_kernel_rows : Addr
  d_kernel_rows : FuncData
  a_ratio_rows : Addr
  d_ratio_rows : FuncData
  a_whole_rows : Addr
  d_whole_rows : FuncData
  a_is_width : Addr
  d_is_width : FuncData
  a_check_rows : Addr
  d_check_rows : FuncData
  a_steps : Addr
  d_steps : FuncData
  a_kernel : Addr
  d_kernel : FuncData
  a_law_all_told : Addr
  d_law_all_told : FuncData
  a_law_led : Addr
  d_law_led : FuncData
  a_law_own : Addr
  d_law_own : FuncData
  a_law_head : Addr
  d_law_head : FuncData
  a_law_taken_off : Addr
  d_law_taken_off : FuncData
  a_Ratio_eq : Addr
  d_Ratio_eq : FuncData
  a_law_is_nought : Addr
  d_law_is_nought : FuncData
  a_law_is_in_steps : Addr
  d_law_is_in_steps : FuncData
  a_law_free : Addr
  d_law_free : FuncData
  a_law_are_ratios : Addr
  d_law_are_ratios : FuncData
  a_law_bare : Addr
  d_law_bare : FuncData
  a_Ratio_repr : Addr
  d_Ratio_repr : FuncData
  a_law_right : Addr
  d_law_right : FuncData
  a_law : Addr
  d_law : FuncData
  n_int : mg "int" = none
  n_max : mg "max" = none
  n_len : mg "len" = none
  n_abs : mg "abs" = none
  F_law_pot : Fun K "_law_pot" "_law_pot" s_law_pot a_law_pot d_law_pot
  b_law_pot : Binds K d_law_pot ["_law_script", "_law_k"] []
  n_divmod : mg "divmod" = none
  F_law_draw : Fun K "_law_draw" "_law_draw" s_law_draw a_law_draw d_law_draw
  b_law_draw : Binds K d_law_draw ["_law_pot_here", "_law_size"] []
  m_law_draw : mg "_law_draw" = some (.ref a_law_draw)
  F_law_pick : Fun K "_law_pick" "_law_pick" s_law_pick a_law_pick d_law_pick
  b_law_pick : Binds K d_law_pick ["_law_pot_here", "_law_some"] []
  F_law_sum : Fun K "_law_sum" "_law_sum" s_law_sum a_law_sum d_law_sum
  b_law_sum : Binds K d_law_sum ["_law_one", "_law_other"] []
  F_law_product : Fun K "_law_product" "_law_product" s_law_product a_law_product d_law_product
  b_law_product : Binds K d_law_product ["_law_one", "_law_other"] []
  n_isinstance : mg "isinstance" = none
  ca : ClsAll K (TT K C_Ratio)
  i_int : Isi K (TT K C_Ratio) (.type "int") pInt
  i_bool : Isi K (TT K C_Ratio) (.type "bool") pBool
  n_bool : mg "bool" = none
  F_is_integer : Fun K "is_integer" "is_integer" s_is_integer a_is_integer d_is_integer
  b_is_integer : Binds K d_is_integer ["value"] []
  m_is_integer : mg "is_integer" = some (.ref a_is_integer)
  F_is_count : Fun K "is_count" "is_count" s_is_count a_is_count d_is_count
  b_is_count : Binds K d_is_count ["value"] []
  i_list : Isi K (TT K C_Ratio) (.type "list") pLst
  n_list : mg "list" = none
  i_tuple : Isi K (TT K C_Ratio) (.type "tuple") pTup
  n_tuple : mg "tuple" = none
  F_is_list : Fun K "is_list" "is_list" s_is_list a_is_list d_is_list
  b_is_list : Binds K d_is_list ["value"] []
  m_gcd : mg "gcd" = some (.builtin "math.gcd")
  F_greatest_divisor : Fun K "greatest_divisor" "greatest_divisor" s_greatest_divisor a_greatest_divisor d_greatest_divisor
  b_greatest_divisor : Binds K d_greatest_divisor ["numbers"] []
  hc_Ratio : Cls K C_Ratio
  na_Ratio_top : NoAttr K C_Ratio "_top"
  na_Ratio_bottom : NoAttr K C_Ratio "_bottom"
  F_Ratio_init : FunD K "__init__" "Ratio.__init__" (defArgs s_Ratio_init) (defBody s_Ratio_init) (defScope s_Ratio_init) [V.int 1] [] a_Ratio_init d_Ratio_init
  i_Ratio : Isi K (TT K C_Ratio) (.ref C_Ratio) (pObj 0)
  m_Ratio : mg "Ratio" = some (.ref C_Ratio)
  mk_Ratio : Mk K C_Ratio a_Ratio_init
  bi_Ratio_init_1 : BndI K d_Ratio_init ["self", "top", "bottom"] 1 [] (gPos [.int 1])
  F_as_ratio : Fun K "as_ratio" "as_ratio" s_as_ratio a_as_ratio d_as_ratio
  b_as_ratio : Binds K d_as_ratio ["number"] []
  F_is_number : Fun K "is_number" "is_number" s_is_number a_is_number d_is_number
  b_is_number : Binds K d_is_number ["value"] []
  m_is_list : mg "is_list" = some (.ref a_is_list)
  m_is_number : mg "is_number" = some (.ref a_is_number)
  n_all : mg "all" = none
  F_are_numbers : Fun K "are_numbers" "are_numbers" s_are_numbers a_are_numbers d_are_numbers
  b_are_numbers : Binds K d_are_numbers ["value", "many"] []
  F_law_number : Fun K "_law_number" "_law_number" s_law_number a_law_number d_law_number
  b_law_number : Binds K d_law_number ["_law_pot_here"] []
  bi_Ratio_init_2 : BndI K d_Ratio_init ["self", "top", "bottom"] 2 [] (gPos [])
  F_law_told : Fun K "_law_told" "_law_told" s_law_told a_law_told d_law_told
  b_law_told : Binds K d_law_told ["_law_number_here"] []
  n_range : mg "range" = none
  m_law_number : mg "_law_number" = some (.ref a_law_number)
  F_law_row : Fun K "_law_row" "_law_row" s_law_row a_law_row d_law_row
  b_law_row : Binds K d_law_row ["_law_pot_here", "_law_wide"] []
  m_law_row : mg "_law_row" = some (.ref a_law_row)
  m_law_pick : mg "_law_pick" = some (.ref a_law_pick)
  n_zip : mg "zip" = none
  m_law_sum : mg "_law_sum" = some (.ref a_law_sum)
  m_law_product : mg "_law_product" = some (.ref a_law_product)
  F_law_rows : Fun K "_law_rows" "_law_rows" s_law_rows a_law_rows d_law_rows
  b_law_rows : Binds K d_law_rows ["_law_pot_here", "_law_many", "_law_wide"] []
  F_Ratio_top : Fun K "top" "Ratio.top" s_Ratio_top a_Ratio_top d_Ratio_top
  b_Ratio_top : Binds K d_Ratio_top ["self"] []
  F_Ratio_bottom : Fun K "bottom" "Ratio.bottom" s_Ratio_bottom a_Ratio_bottom d_Ratio_bottom
  b_Ratio_bottom : Binds K d_Ratio_bottom ["self"] []
  pr_Ratio_bottom : PropOf K C_Ratio "bottom" p_Ratio_bottom a_Ratio_bottom
  m_lcm : mg "lcm" = some (.builtin "math.lcm")
  F_common_bottom : Fun K "common_bottom" "common_bottom" s_common_bottom a_common_bottom d_common_bottom
  b_common_bottom : Binds K d_common_bottom ["row"] []
  pr_Ratio_top : PropOf K C_Ratio "top" p_Ratio_top a_Ratio_top
  F_times_whole : Fun K "times_whole" "times_whole" s_times_whole a_times_whole d_times_whole
  b_times_whole : Binds K d_times_whole ["row", "times"] []
  m_greatest_divisor : mg "greatest_divisor" = some (.ref a_greatest_divisor)
  F_short_row : Fun K "short_row" "short_row" s_short_row a_short_row d_short_row
  b_short_row : Binds K d_short_row ["row"] []
  m_short_row : mg "short_row" = some (.ref a_short_row)
  m_times_whole : mg "times_whole" = some (.ref a_times_whole)
  m_common_bottom : mg "common_bottom" = some (.ref a_common_bottom)
  F_whole_row : Fun K "whole_row" "whole_row" s_whole_row a_whole_row d_whole_row
  b_whole_row : Binds K d_whole_row ["row"] []
  F_first_with : Fun K "_first_with" "_first_with" s_first_with a_first_with d_first_with
  b_first_with : Binds K d_first_with ["rows", "low", "place"] []
  F_less : Fun K "_less" "_less" s_less a_less d_less
  b_less : Binds K d_less ["row", "head", "place", "pivot"] []
  n_enumerate : mg "enumerate" = none
  m_less : mg "_less" = some (.ref a_less)
  F_cleared : Fun K "_cleared" "_cleared" s_cleared a_cleared d_cleared
  b_cleared : Binds K d_cleared ["rows", "at", "place", "pivot"] []
  m_first_with : mg "_first_with" = some (.ref a_first_with)
  m_cleared : mg "_cleared" = some (.ref a_cleared)
  F_reduced : Fun K "reduced" "reduced" s_reduced a_reduced d_reduced
  b_reduced : Binds K d_reduced ["rows", "wide"] []
  F_kernel_row : Fun K "_kernel_row" "_kernel_row" s_kernel_row a_kernel_row d_kernel_row
  b_kernel_row : Binds K d_kernel_row ["found", "heads", "pivot", "free", "wide"] []
  m_reduced : mg "reduced" = some (.ref a_reduced)
  m_kernel_row : mg "_kernel_row" = some (.ref a_kernel_row)
  F_kernel_rows : Fun K "kernel_rows" "kernel_rows" s_kernel_rows a_kernel_rows d_kernel_rows
  b_kernel_rows : Binds K d_kernel_rows ["rows", "wide"] []
  m_as_ratio : mg "as_ratio" = some (.ref a_as_ratio)
  F_ratio_rows : Fun K "_ratio_rows" "_ratio_rows" s_ratio_rows a_ratio_rows d_ratio_rows
  b_ratio_rows : Binds K d_ratio_rows ["rows"] []
  m_ratio_rows : mg "_ratio_rows" = some (.ref a_ratio_rows)
  m_whole_row : mg "whole_row" = some (.ref a_whole_row)
  F_whole_rows : Fun K "_whole_rows" "_whole_rows" s_whole_rows a_whole_rows d_whole_rows
  b_whole_rows : Binds K d_whole_rows ["rows"] []
  m_is_count : mg "is_count" = some (.ref a_is_count)
  mi_MOST_WIDE : ∃ tk, mg "MOST_WIDE" = some (.int 60 tk)
  F_is_width : Fun K "_is_width" "_is_width" s_is_width a_is_width d_is_width
  b_is_width : Binds K d_is_width ["value"] []
  mi_MOST_ROWS : ∃ tk, mg "MOST_ROWS" = some (.int 60 tk)
  m_is_width : mg "_is_width" = some (.ref a_is_width)
  m_are_numbers : mg "are_numbers" = some (.ref a_are_numbers)
  F_check_rows : Fun K "_check_rows" "_check_rows" s_check_rows a_check_rows d_check_rows
  b_check_rows : Binds K d_check_rows ["rows"] []
  m_check_rows : mg "_check_rows" = some (.ref a_check_rows)
  m_whole_rows : mg "_whole_rows" = some (.ref a_whole_rows)
  F_steps : Fun K "steps" "steps" s_steps a_steps d_steps
  b_steps : Binds K d_steps ["rows"] []
  m_kernel_rows : mg "kernel_rows" = some (.ref a_kernel_rows)
  F_kernel : Fun K "kernel" "kernel" s_kernel a_kernel d_kernel
  b_kernel : Binds K d_kernel ["rows", "wide"] []
  m_law_told : mg "_law_told" = some (.ref a_law_told)
  F_law_all_told : Fun K "_law_all_told" "_law_all_told" s_law_all_told a_law_all_told d_law_all_told
  b_law_all_told : Binds K d_law_all_told ["_law_rows_here"] []
  F_law_led : Fun K "_law_led" "_law_led" s_law_led a_law_led d_law_led
  b_law_led : Binds K d_law_led ["_law_row_here", "_law_other"] []
  F_law_own : Fun K "_law_own" "_law_own" s_law_own a_law_own d_law_own
  b_law_own : Binds K d_law_own ["_law_numbers"] []
  F_law_head : Fun K "_law_head" "_law_head" s_law_head a_law_head d_law_head
  b_law_head : Binds K d_law_head ["_law_row_here"] []
  m_law_head : mg "_law_head" = some (.ref a_law_head)
  F_law_taken_off : Fun K "_law_taken_off" "_law_taken_off" s_law_taken_off a_law_taken_off d_law_taken_off
  b_law_taken_off : Binds K d_law_taken_off ["_law_row_here", "_law_others"] []
  F_Ratio_eq : Fun K "__eq__" "Ratio.__eq__" s_Ratio_eq a_Ratio_eq d_Ratio_eq
  b_Ratio_eq : Binds K d_Ratio_eq ["self", "other"] []
  e_Ratio_eq : PySem.W.findIn K (.ref C_Ratio) "__eq__" = some (some (.ref a_Ratio_eq))
  ef_Ratio_eq : PySem.W.isFn K (.ref a_Ratio_eq) = true
  tp_Ratio : Top K (TT K C_Ratio) C_Ratio
  ne_Ratio_eq : PySem.W.findIn K (.ref C_Ratio) "__ne__" = some (some (.builtin "object.__ne__"))
  ob_Ratio : PySem.W.subIn K (.ref C_Ratio) (.type "object") = some true
  F_law_is_nought : Fun K "_law_is_nought" "_law_is_nought" s_law_is_nought a_law_is_nought d_law_is_nought
  b_law_is_nought : Binds K d_law_is_nought ["_law_row_here"] []
  m_law_is_nought : mg "_law_is_nought" = some (.ref a_law_is_nought)
  F_law_is_in_steps : Fun K "_law_is_in_steps" "_law_is_in_steps" s_law_is_in_steps a_law_is_in_steps d_law_is_in_steps
  b_law_is_in_steps : Binds K d_law_is_in_steps ["_law_rows_here"] []
  m_law_taken_off : mg "_law_taken_off" = some (.ref a_law_taken_off)
  F_law_free : Fun K "_law_free" "_law_free" s_law_free a_law_free d_law_free
  b_law_free : Binds K d_law_free ["_law_rows_here"] []
  F_law_are_ratios : Fun K "_law_are_ratios" "_law_are_ratios" s_law_are_ratios a_law_are_ratios d_law_are_ratios
  b_law_are_ratios : Binds K d_law_are_ratios ["_law_row_here"] []
  m_law_own : mg "_law_own" = some (.ref a_law_own)
  F_law_bare : Fun K "_law_bare" "_law_bare" s_law_bare a_law_bare d_law_bare
  b_law_bare : Binds K d_law_bare ["_law_rows_here"] []
  F_Ratio_repr : Fun K "__repr__" "Ratio.__repr__" s_Ratio_repr a_Ratio_repr d_Ratio_repr
  b_Ratio_repr : Binds K d_Ratio_repr ["self"] []
  s_Ratio_repr : PySem.W.findIn K (.ref C_Ratio) "__repr__" = some (some (.ref a_Ratio_repr))
  sf_Ratio_repr : PySem.W.isFn K (.ref a_Ratio_repr) = true
  m_law_rows : mg "_law_rows" = some (.ref a_law_rows)
  m_law_all_told : mg "_law_all_told" = some (.ref a_law_all_told)
  n_repr : mg "repr" = none
  m_steps : mg "steps" = some (.ref a_steps)
  m_law_bare : mg "_law_bare" = some (.ref a_law_bare)
  m_law_are_ratios : mg "_law_are_ratios" = some (.ref a_law_are_ratios)
  m_law_is_in_steps : mg "_law_is_in_steps" = some (.ref a_law_is_in_steps)
  m_law_free : mg "_law_free" = some (.ref a_law_free)
  m_kernel : mg "kernel" = some (.ref a_kernel)
  m_law_led : mg "_law_led" = some (.ref a_law_led)
  F_law_right : Fun K "_law_right" "_law_right" s_law_right a_law_right d_law_right
  b_law_right : Binds K d_law_right ["_law_pot_here"] []
  m_law_right : mg "_law_right" = some (.ref a_law_right)
  m_law_pot : mg "_law_pot" = some (.ref a_law_pot)
  F_law : Fun K "law" "law" s_law a_law d_law
  b_law : Binds K d_law ["_law_script"] []
section
variable {P : Program} {w : World} {K : PySem.W.Frag} {mg : Str → Option Value} {base : Heap}
def G_Ratio_init : List D → Option (List D)
  | [.int t, .int b] => if b ≠ 0 ∧ b.natAbs < 2 ^ 8900 then some [.int (nrm t b).1, .int (nrm t b).2] else none
  | _ => none
theorem cof_small {t b : Int} (h : b ≠ 0) (hs : b.natAbs < 2 ^ 8900) (a : Int) : okDivB a (cof t b) = true := by
  have hn := @cof_ne t b h
  have hl : (cof t b).natAbs ≤ b.natAbs := by
    have h1 : (cof t b).natAbs = Int.gcd t b := by unfold cof; split <;> simp
    rw [h1]
    exact Nat.le_of_dvd (by omega) (Int.natAbs_dvd_natAbs.mpr (Int.gcd_dvd_right t b))
  unfold okDivB
  simp only [Bool.and_eq_true, decide_eq_true_eq]
  exact ⟨hn, Nat.lt_of_le_of_lt hl hs⟩
theorem sc_law_pot : FnScope ["_law_script", "_law_k", "_law_cell"] ["_law_script", "_law_k"] (defScope s_law_pot) := ⟨rfl, rfl, rfl, by decide +kernel, rfl, by decide +kernel, by decide +kernel⟩
def g_law_pot : FA := (sSeqF (sSet 2 (fBin gAdd0 (fBin (gOr (gI okMulB fun i j => .int (i * j)) gRep) (fC (.int 853)) (fV 1)) (fC (.int 571))))
    (sSeqF (sIf (fB (fBin (gI0 fun i j => .bl (decide (i < j))) (fV 1) (fFun funLenR (fCons (fV 0) fNil)))) (sSet 2 (fFun (fun1I fun i => .int (if i < 0 then -i else i)) (fCons (fBin gIxS (fV 0) (fV 1)) fNil))) sNil)
    (fLst (fCons (fFun funMax2 (fCons (fC (.int 0)) (fCons (fBin (gI0 fun i j => .int (i - j)) (fV 2) (fBin (gI okPow fun i j => .int (i ^ j.toNat)) (fC (.int 10)) (fC (.int 18)))) fNil))) (fCons (fBin gAdd0 (fBin (gI okPos fun i j => .int (i % j)) (fFun funInt (fCons (fBin gAdd0 (fBin (gOr (gI okMulB fun i j => .int (i * j)) gRep) (fBin (gI okPos fun i j => .int (i % j)) (fFun funInt (fCons (fV 2) fNil)) (fC (.int 2147483549))) (fBin gAdd0 (fBin (gOr (gI okMulB fun i j => .int (i * j)) gRep) (fC (.int 2)) (fV 1)) (fC (.int 499)))) (fC (.int 1279))) fNil)) (fC (.int 2147483543))) (fC (.int 1))) fNil)))))
def G_law_pot : List D → Option (List D) := outF 3 g_law_pot
theorem ok_law_pot (M : Facts K mg) : FnG P w K mg base 1 M.a_law_pot M.d_law_pot ["_law_script", "_law_k"] (spF (TT K M.C_Ratio) 2 G_law_pot) :=
  okF (g := g_law_pot) M.F_law_pot sc_law_pot rfl rfl (fun cdv A outer s H E hq hr =>
    (sts_consF (st_set 2 sc_law_pot.nd (pd_op op_add0 opv_add0 (pd_op (Dl.OpR.or op_mulW op_rep) (Dl.OpV.or opv_mulB opv_rep) pd_int (pd_v 1)) pd_int))
    (sts_consF (st_if (pt_cmp' op_lt opv_lt (pd_v 1) (pd_blt call_len_seq (callv_lenR sS) M.n_len PySem.boot_len (pds_cons (pd_v 0) pds_nil)) rfl) (sts_one (st_set 2 sc_law_pot.nd (pd_blt call_abs callv_abs M.n_abs (by decide +kernel) (pds_cons (pd_ixS sS (pd_v 0) (pd_v 1)) pds_nil)))) sts_nil)
    (sts_retF (pf_lst (pds_cons (pd_blt (call_max2 rfl) callv_max2 M.n_max (by decide +kernel) (pds_cons pd_int (pds_cons (pd_op op_sub opv_sub (pd_v 2) (pd_op op_pow opv_pow pd_int pd_int)) pds_nil))) (pds_cons (pd_op op_add0 opv_add0 (pd_op op_mod opv_mod (pd_bty call_int1 callv_int M.n_int (by decide +kernel) (pds_cons (pd_op op_add0 opv_add0 (pd_op (Dl.OpR.or op_mulW op_rep) (Dl.OpV.or opv_mulB opv_rep) (pd_op op_mod opv_mod (pd_bty call_int1 callv_int M.n_int (by decide +kernel) (pds_cons (pd_v 2) pds_nil)) pd_int) (pd_op op_add0 opv_add0 (pd_op (Dl.OpR.or op_mulW op_rep) (Dl.OpV.or opv_mulB opv_rep) pd_int (pd_v 1)) pd_int)) pd_int) pds_nil)) pd_int) pd_int) pds_nil)))))))

theorem sc_law_draw : FnScope ["_law_pot_here", "_law_size", "_law_digit"] ["_law_pot_here", "_law_size"] (defScope s_law_draw) := ⟨rfl, rfl, rfl, by decide +kernel, rfl, by decide +kernel, by decide +kernel⟩
def g_law_draw : FS := (sSeq (sIf (fB (fBin (gI0 fun i j => .bl (decide (j < i))) (fIxN 0 (fC (.int 0))) (fC (.int 0)))) (sSeq (sAsg (fFun funDivmod (fCons (fIxN 0 (fC (.int 0))) (fCons (fV 1) fNil))) (gT 2 (gsCons (gI1 0 (fC (.int 0))) (gsCons (gN 2) gsNil))))
    (sRet (fV 2))) sNil)
    (sSeq (sAsg (fBin (gI okPos fun i j => .int (i % j)) (fFun funInt (fCons (fBin gAdd0 (fBin (gOr (gI okMulB fun i j => .int (i * j)) gRep) (fIxN 0 (fC (.int 1))) (fC (.int 48271))) (fC (.int 18523))) fNil)) (fC (.int 2147483587))) (gI1 0 (fC (.int 1))))
    (sRet (fBin (gI okPos fun i j => .int (i % j)) (fFun funInt (fCons (fBin (gI okDivB fun i j => .int (i.fdiv j)) (fBin (gI okPos fun i j => .int (i % j)) (fFun funInt (fCons (fBin (gOr (gI okMulB fun i j => .int (i * j)) gRep) (fIxN 0 (fC (.int 1))) (fIxN 0 (fC (.int 1)))) fNil)) (fC (.int 2147483549))) (fC (.int 13))) fNil)) (fV 1)))))
def G_law_draw : List D → List D → Option (D × List D) := outP 3 g_law_draw
theorem ok_law_draw (M : Facts K mg) : FnG P w K mg base 1 M.a_law_draw M.d_law_draw ["_law_pot_here", "_law_size"] (sp1 (TT K M.C_Ratio) 1 G_law_draw) :=
  ok1' (g := g_law_draw) M.F_law_draw sc_law_draw rfl rfl (fun cdv A outer s H E hq hr =>
    (sts_cons (st_if (pt_cmp' op_gt opv_gt (pd_ixN (i := 0) pd_int) pd_int rfl) (sts_cons (st_asg (ws := [2, 0]) (pd_blt call_divmodW callv_divmod M.n_divmod (by decide +kernel) (pds_cons (pd_ixN (i := 0) pd_int) (pds_cons (pd_v 1) pds_nil))) (tg_t rfl (tgs_cons (tg_i (i := 0) pd_int) (tgs_cons (tg_n 2 sc_law_draw.nd) tgs_nil))))
    (sts_one (st_ret (pd_v 2)))) sts_nil)
    (sts_cons (st_asg (ws := [0]) (pd_op op_mod opv_mod (pd_bty call_int1 callv_int M.n_int (by decide +kernel) (pds_cons (pd_op op_add0 opv_add0 (pd_op (Dl.OpR.or op_mulW op_rep) (Dl.OpV.or opv_mulB opv_rep) (pd_ixN (i := 0) pd_int) pd_int) pd_int) pds_nil)) pd_int) (tg_i (i := 0) pd_int))
    (sts_one (st_ret (pd_op op_mod opv_mod (pd_bty call_int1 callv_int M.n_int (by decide +kernel) (pds_cons (pd_op op_fdivNW opv_fdivB (pd_op op_mod opv_mod (pd_bty call_int1 callv_int M.n_int (by decide +kernel) (pds_cons (pd_op (Dl.OpR.or op_mulW op_rep) (Dl.OpV.or opv_mulB opv_rep) (pd_ixN (i := 0) pd_int) (pd_ixN (i := 0) pd_int)) pds_nil)) pd_int) pd_int) pds_nil)) (pd_v 1)))))))

theorem sc_law_pick : FnScope ["_law_pot_here", "_law_some"] ["_law_pot_here", "_law_some"] (defScope s_law_pick) := ⟨rfl, rfl, rfl, by decide +kernel, rfl, by decide +kernel, by decide +kernel⟩
def g_law_pick : FS := (sRet (fIxN 1 (fCallP 0 G_law_draw (fCons (fLenN 1) fNil))))
def G_law_pick : List D → List D → List D → Option (D × List D × List D) := outP2 2 g_law_pick
theorem ok_law_pick (M : Facts K mg) : FnG P w K mg base 2 M.a_law_pick M.d_law_pick ["_law_pot_here", "_law_some"] (sp2 (TT K M.C_Ratio) 0 G_law_pick) :=
  ok2' (g := g_law_pick) M.F_law_pick sc_law_pick rfl rfl (fun cdv A outer s H E hq hr =>
    (sts_one (st_ret (pd_ixN (i := 1) (pd_callP (i := 0) (ok_law_draw M) hq (hr.mono (by decide)) M.m_law_draw M.F_law_draw.kp M.b_law_draw rfl (pds_cons (pd_lenN (i := 1) M.n_len) pds_nil))))))

theorem sc_law_sum : FnScope ["_law_one", "_law_other"] ["_law_one", "_law_other"] (defScope s_law_sum) := ⟨rfl, rfl, rfl, by decide +kernel, rfl, by decide +kernel, by decide +kernel⟩
def g_law_sum : FS := (sRet (fTup (fCons (fBin gAdd0 (fBin (gOr (gI okMulB fun i j => .int (i * j)) gRep) (fIxN 0 (fC (.int 0))) (fIxN 1 (fC (.int 1)))) (fBin (gOr (gI okMulB fun i j => .int (i * j)) gRep) (fIxN 1 (fC (.int 0))) (fIxN 0 (fC (.int 1))))) (fCons (fBin (gOr (gI okMulB fun i j => .int (i * j)) gRep) (fIxN 0 (fC (.int 1))) (fIxN 1 (fC (.int 1)))) fNil))))
def G_law_sum : List D → Option D := outD 2 g_law_sum
theorem ok_law_sum (M : Facts K mg) : FnG P w K mg base 1 M.a_law_sum M.d_law_sum ["_law_one", "_law_other"] (sp0 (TT K M.C_Ratio) 2 G_law_sum) :=
  ok0' (g := g_law_sum) M.F_law_sum sc_law_sum rfl rfl (fun cdv A outer s H E hq hr =>
    (sts_one (st_ret (pd_tup (pds_cons (pd_op op_add0 opv_add0 (pd_op (Dl.OpR.or op_mulW op_rep) (Dl.OpV.or opv_mulB opv_rep) (pd_ixN (i := 0) pd_int) (pd_ixN (i := 1) pd_int)) (pd_op (Dl.OpR.or op_mulW op_rep) (Dl.OpV.or opv_mulB opv_rep) (pd_ixN (i := 1) pd_int) (pd_ixN (i := 0) pd_int))) (pds_cons (pd_op (Dl.OpR.or op_mulW op_rep) (Dl.OpV.or opv_mulB opv_rep) (pd_ixN (i := 0) pd_int) (pd_ixN (i := 1) pd_int)) pds_nil))))))

theorem sc_law_product : FnScope ["_law_one", "_law_other"] ["_law_one", "_law_other"] (defScope s_law_product) := ⟨rfl, rfl, rfl, by decide +kernel, rfl, by decide +kernel, by decide +kernel⟩
def g_law_product : FS := (sRet (fTup (fCons (fBin (gOr (gI okMulB fun i j => .int (i * j)) gRep) (fIxN 0 (fC (.int 0))) (fIxN 1 (fC (.int 0)))) (fCons (fBin (gOr (gI okMulB fun i j => .int (i * j)) gRep) (fIxN 0 (fC (.int 1))) (fIxN 1 (fC (.int 1)))) fNil))))
def G_law_product : List D → Option D := outD 2 g_law_product
theorem ok_law_product (M : Facts K mg) : FnG P w K mg base 1 M.a_law_product M.d_law_product ["_law_one", "_law_other"] (sp0 (TT K M.C_Ratio) 2 G_law_product) :=
  ok0' (g := g_law_product) M.F_law_product sc_law_product rfl rfl (fun cdv A outer s H E hq hr =>
    (sts_one (st_ret (pd_tup (pds_cons (pd_op (Dl.OpR.or op_mulW op_rep) (Dl.OpV.or opv_mulB opv_rep) (pd_ixN (i := 0) pd_int) (pd_ixN (i := 1) pd_int)) (pds_cons (pd_op (Dl.OpR.or op_mulW op_rep) (Dl.OpV.or opv_mulB opv_rep) (pd_ixN (i := 0) pd_int) (pd_ixN (i := 1) pd_int)) pds_nil))))))

theorem sc_is_integer : FnScope ["value"] ["value"] (defScope s_is_integer) := ⟨rfl, rfl, rfl, by decide +kernel, rfl, by decide +kernel, by decide +kernel⟩
def g_is_integer : FS := (sRet (fAndV (fIsi pInt (fV 0)) (fNotV (fIsi pBool (fV 0)))))
def G_is_integer : List D → Option D := outD 1 g_is_integer
theorem ok_is_integer (M : Facts K mg) : FnG P w K mg base 1 M.a_is_integer M.d_is_integer ["value"] (sp0 (TT K M.C_Ratio) 1 G_is_integer) :=
  ok0' (g := g_is_integer) M.F_is_integer sc_is_integer rfl rfl (fun cdv A outer s H E hq hr =>
    (sts_one (st_ret (pd_and (pd_isi (pd_v 0) (pe_bltn (v := .ty "int") rfl M.n_int (by decide +kernel) rfl) (ClsV.ty "int") M.ca M.i_int M.n_isinstance) (pd_one (pd_not (pd_isi (pd_v 0) (pe_bltn (v := .ty "bool") rfl M.n_bool (by decide +kernel) rfl) (ClsV.ty "bool") M.ca M.i_bool M.n_isinstance)))))))

theorem sc_is_count : FnScope ["value"] ["value"] (defScope s_is_count) := ⟨rfl, rfl, rfl, by decide +kernel, rfl, by decide +kernel, by decide +kernel⟩
def g_is_count : FS := (sRet (fAndV (fCall G_is_integer (gPos []) (fCons (fV 0) fNil) fNil) (fBin (gI0 fun i j => .bl (decide (j ≤ i))) (fV 0) (fC (.int 0)))))
def G_is_count : List D → Option D := outD 1 g_is_count
theorem ok_is_count (M : Facts K mg) : FnG P w K mg base 2 M.a_is_count M.d_is_count ["value"] (sp0 (TT K M.C_Ratio) 1 G_is_count) :=
  ok0' (g := g_is_count) M.F_is_count sc_is_count rfl rfl (fun cdv A outer s H E hq hr =>
    (sts_one (st_ret (pd_and (pd_call (ok_is_integer M) hq (hr.mono (by decide)) M.m_is_integer M.F_is_integer.kp (bnd_of 1 M.b_is_integer .nil lits_nil rfl) (pds_cons (pd_v 0) pds_nil) pks_nil) (pd_one (pd_cmp op_ge opv_ge (pd_v 0) pd_int rfl))))))

theorem sc_is_list : FnScope ["value"] ["value"] (defScope s_is_list) := ⟨rfl, rfl, rfl, by decide +kernel, rfl, by decide +kernel, by decide +kernel⟩
def g_is_list : FS := (sRet (fIsi (fun d => pLst d || pTup d) (fV 0)))
def G_is_list : List D → Option D := outD 1 g_is_list
theorem ok_is_list (M : Facts K mg) : FnG P w K mg base 1 M.a_is_list M.d_is_list ["value"] (sp0 (TT K M.C_Ratio) 1 G_is_list) :=
  ok0' (g := g_is_list) M.F_is_list sc_is_list rfl rfl (fun cdv A outer s H E hq hr =>
    (sts_one (st_ret (pd_isi2 (pd_v 0) (pe_bltn (v := .ty "list") rfl M.n_list (by decide +kernel) rfl) (pe_bltn (v := .ty "tuple") rfl M.n_tuple (by decide +kernel) rfl) (ClsV.ty "list") (ClsV.ty "tuple") M.ca M.i_list M.i_tuple M.n_isinstance))))

theorem sc_greatest_divisor : FnScope ["numbers", "found", "number"] ["numbers"] (defScope s_greatest_divisor) := ⟨rfl, rfl, rfl, by decide +kernel, rfl, by decide +kernel, by decide +kernel⟩
def g_greatest_divisor : FS := (sSeq (sSet 1 (fC (.int 0)))
    (sSeq (sFor (fSq (fV 0)) (gN 2) (sSet 1 (fFun funGcd (fCons (fV 1) (fCons (fV 2) fNil)))))
    (sRet (fV 1))))
def G_greatest_divisor : List D → Option D := outD 3 g_greatest_divisor
theorem ok_greatest_divisor (M : Facts K mg) : FnG P w K mg base 1 M.a_greatest_divisor M.d_greatest_divisor ["numbers"] (sp0 (TT K M.C_Ratio) 1 G_greatest_divisor) :=
  ok0' (g := g_greatest_divisor) M.F_greatest_divisor sc_greatest_divisor rfl rfl (fun cdv A outer s H E hq hr =>
    (sts_cons (st_set 1 sc_greatest_divisor.nd pd_int)
    (sts_cons (st_for (ws := [2]) PassesOwn.never rfl (pid_sq (pd_v 0)) (tg_n 2 sc_greatest_divisor.nd) (sts_one (st_set 1 sc_greatest_divisor.nd (pd_bfun cr_gcd callv_gcd M.m_gcd (pds_cons (pd_v 1) (pds_cons (pd_v 2) pds_nil))))))
    (sts_one (st_ret (pd_v 1))))))

theorem sc_Ratio_init : FnScope ["self", "top", "bottom", "common"] ["self", "top", "bottom"] (defScope s_Ratio_init) := ⟨rfl, rfl, rfl, by decide +kernel, rfl, by decide +kernel, by decide +kernel⟩
def g_Ratio_init (C : Addr) : FS := (sSeq (sIf (fNot (fB (fCall G_is_integer (gPos []) (fCons (fV 1) fNil) fNil))) sNo sNil)
    (sSeq (sIf (fOr (fNot (fB (fCall G_is_integer (gPos []) (fCons (fV 2) fNil) fNil))) (fB (fBin gEqF (fV 2) (fC (.int 0))))) sNo sNil)
    (sSeq (sSet 3 (fFun funGcd (fCons (fV 1) (fCons (fV 2) fNil))))
    (sSeq (sIf (fB (fBin (gI0 fun i j => .bl (decide (i < j))) (fV 2) (fC (.int 0)))) (sSet 3 (fUn gNeg (fV 3))) sNil)
    (sSeq (sIni 0 C ["_top", "_bottom"] "_top" (fBin (gI okDivB fun i j => .int (i.fdiv j)) (fV 1) (fV 3)))
    (sIni 0 C ["_top", "_bottom"] "_bottom" (fBin (gI okDivB fun i j => .int (i.fdiv j)) (fV 2) (fV 3))))))))
theorem tell_Ratio_init (C dx : Addr) (ds fs : List D) (h : ds.length = 2) (e : G_Ratio_init ds = some fs) : ∃ r, g_Ratio_init C (.own (.ini C dx ["_top", "_bottom"]) [] :: ini 3 ds) = some r ∧ endI C ["_top", "_bottom"] r = some fs := by
  unfold G_Ratio_init at e
  split at e
  case h_2 => cases e
  rename_i t b
  obtain ⟨⟨hb, hs⟩, e⟩ := ite_some e
  subst e
  have k1 := @cof_small t b hb hs t
  have k2 := @cof_small t b hb hs b
  have isI : ∀ i : Int, G_is_integer [.int i] = some (.bl true) := fun _ => rfl
  by_cases hn : b < 0
  · have e : cof t b = -(Int.gcd t b : Int) := if_pos hn
    simp only [e] at k1 k2
    simp [g_Ratio_init, sSeq, sIf, fNot, fOr, fB, fCall, fCons, fNil, fV, ini, gPos, isI, sNo, sNil, fBin, Dl.gOr, gEqF, litV, scal, sSet, fFun, funGcd, gI0, gI, fC, sIni, hb, hn, fUn, gNeg, uOr, nrm, e]
    simp [k1, k2, endI, Int.gcd] at k1 k2 ⊢
  · have e : cof t b = (Int.gcd t b : Int) := if_neg hn
    simp only [e] at k1 k2
    simp [g_Ratio_init, sSeq, sIf, fNot, fOr, fB, fCall, fCons, fNil, fV, ini, gPos, isI, sNo, sNil, fBin, Dl.gOr, gEqF, litV, scal, sSet, fFun, funGcd, gI0, gI, fC, sIni, hb, hn, fUn, gNeg, uOr, nrm, e]
    simp [k1, k2, endI, Int.gcd] at k1 k2 ⊢
theorem ok_Ratio_init (M : Facts K mg) : FnG P w K mg base 2 M.a_Ratio_init M.d_Ratio_init ["self", "top", "bottom"] (spI (TT K M.C_Ratio) 0 2 G_Ratio_init) :=
  okI (g := g_Ratio_init M.C_Ratio) (C := M.C_Ratio) G_Ratio_init M.F_Ratio_init sc_Ratio_init rfl rfl (fun cdv A outer s H E hq hr =>
    (sts_cons (st_if (pt_n (pt_d (pd_call (ok_is_integer M) hq (hr.mono (by decide)) M.m_is_integer M.F_is_integer.kp (bnd_of 1 M.b_is_integer .nil lits_nil rfl) (pds_cons (pd_v 1) pds_nil) pks_nil))) (sts_one st_no) sts_nil)
    (sts_cons (st_if (PW.pt (w_or (pt_n (pt_d (pd_call (ok_is_integer M) hq (hr.mono (by decide)) M.m_is_integer M.F_is_integer.kp (bnd_of 1 M.b_is_integer .nil lits_nil rfl) (pds_cons (pd_v 2) pds_nil) pks_nil))) (w_or1 (pt_cmp' op_eq opv_eqF (pd_v 2) pd_int rfl)))) (sts_one st_no) sts_nil)
    (sts_cons (st_set 3 sc_Ratio_init.nd (pd_bfun cr_gcd callv_gcd M.m_gcd (pds_cons (pd_v 1) (pds_cons (pd_v 2) pds_nil))))
    (sts_cons (st_if (pt_cmp' op_lt opv_lt (pd_v 2) pd_int rfl) (sts_one (st_set 3 sc_Ratio_init.nd (pd_un un_neg unv_neg (pd_v 3)))) sts_nil)
    (sts_cons (st_ini (i := 0) (pd_op op_fdivNW opv_fdivB (pd_v 1) (pd_v 3)) M.hc_Ratio M.na_Ratio_top)
    (sts_one (st_ini (i := 0) (pd_op op_fdivNW opv_fdivB (pd_v 2) (pd_v 3)) M.hc_Ratio M.na_Ratio_bottom)))))))) fun dx ds fs h1 h2 => tell_Ratio_init M.C_Ratio dx ds fs h1 h2

theorem sc_as_ratio : FnScope ["number"] ["number"] (defScope s_as_ratio) := ⟨rfl, rfl, rfl, by decide +kernel, rfl, by decide +kernel, by decide +kernel⟩
def g_as_ratio : FS := (sSeq (sIf (fB (fIsi (pObj 0) (fV 0))) (sRet (fV 0)) sNil)
    (sRet (fMake 0 G_Ratio_init (gPos [.int 1]) (fCons (fV 0) fNil) fNil)))
def G_as_ratio : List D → Option D := outD 1 g_as_ratio
theorem ok_as_ratio (M : Facts K mg) : FnG P w K mg base 4 M.a_as_ratio M.d_as_ratio ["number"] (sp0 (TT K M.C_Ratio) 1 G_as_ratio) :=
  ok0' (g := g_as_ratio) M.F_as_ratio sc_as_ratio rfl rfl (fun cdv A outer s H E hq hr =>
    (sts_cons (st_if (pt_d (pd_isi (pd_v 0) (pe_glob (v := .ref M.C_Ratio) rfl M.m_Ratio rfl) (ClsV.own M.C_Ratio) M.ca M.i_Ratio M.n_isinstance)) (sts_one (st_ret (pd_v 0))) sts_nil)
    (sts_one (st_ret (pd_make (c := 0) rfl M.mk_Ratio (ok_Ratio_init M) hq (hr.mono (by decide)) M.m_Ratio M.bi_Ratio_init_1 (pds_cons (pd_v 0) pds_nil) pks_nil)))))

theorem sc_is_number : FnScope ["value"] ["value"] (defScope s_is_number) := ⟨rfl, rfl, rfl, by decide +kernel, rfl, by decide +kernel, by decide +kernel⟩
def g_is_number : FS := (sRet (fOrV (fCall G_is_integer (gPos []) (fCons (fV 0) fNil) fNil) (fIsi (pObj 0) (fV 0))))
def G_is_number : List D → Option D := outD 1 g_is_number
theorem ok_is_number (M : Facts K mg) : FnG P w K mg base 2 M.a_is_number M.d_is_number ["value"] (sp0 (TT K M.C_Ratio) 1 G_is_number) :=
  ok0' (g := g_is_number) M.F_is_number sc_is_number rfl rfl (fun cdv A outer s H E hq hr =>
    (sts_one (st_ret (pd_or (pd_call (ok_is_integer M) hq (hr.mono (by decide)) M.m_is_integer M.F_is_integer.kp (bnd_of 1 M.b_is_integer .nil lits_nil rfl) (pds_cons (pd_v 0) pds_nil) pks_nil) (pd_one (pd_isi (pd_v 0) (pe_glob (v := .ref M.C_Ratio) rfl M.m_Ratio rfl) (ClsV.own M.C_Ratio) M.ca M.i_Ratio M.n_isinstance))))))

theorem sc_are_numbers : FnScope ["value", "many", "number"] ["value", "many"] (defScope s_are_numbers) := ⟨rfl, rfl, rfl, by decide +kernel, rfl, by decide +kernel, by decide +kernel⟩
def g_are_numbers : FS := (sRet (fAndV (fCall G_is_list (gPos []) (fCons (fV 0) fNil) fNil) (fAndV (fBin gEqF (fLenN 0) (fV 1)) (fFun funAll (fCons (fFr (fLc (fSq (fV 0)) (gN 2) fYes (fCall G_is_number (gPos []) (fCons (fV 2) fNil) fNil) [2])) fNil)))))
def G_are_numbers : List D → Option D := outD 3 g_are_numbers
theorem ok_are_numbers (M : Facts K mg) : FnG P w K mg base 3 M.a_are_numbers M.d_are_numbers ["value", "many"] (sp0 (TT K M.C_Ratio) 2 G_are_numbers) :=
  ok0' (g := g_are_numbers) M.F_are_numbers sc_are_numbers rfl rfl (fun cdv A outer s H E hq hr =>
    (sts_one (st_ret (pd_and (pd_call (ok_is_list M) hq (hr.mono (by decide)) M.m_is_list M.F_is_list.kp (bnd_of 1 M.b_is_list .nil lits_nil rfl) (pds_cons (pd_v 0) pds_nil) pks_nil) (pd_and (pd_cmp op_eq opv_eqF (pd_lenN (i := 0) M.n_len) (pd_v 1) rfl) (pd_one (pd_blt (cr_all rfl) callv_all M.n_all (by decide +kernel) (pds_cons (pd_fr (pf_lc rfl sc_are_numbers.nd (blkOk_by (own := [("number", 2)]) (by show blkC ["value", "many", "number"] (defScope s_are_numbers) _ _ = true; decide +kernel)) (pid_sq (pd_v 0)) (fun _ _ _ _ _ => (tg_n 2 sc_are_numbers.nd)) (fun _ _ _ _ _ => pts_yes) (fun _ _ _ _ _ => (pd_call (ok_is_number M) hq (hr.mono (by decide)) M.m_is_number M.F_is_number.kp (bnd_of 1 M.b_is_number .nil lits_nil rfl) (pds_cons (pd_v 2) pds_nil) pks_nil)))) pds_nil))))))))

theorem sc_law_number : FnScope ["_law_pot_here", "_law_top"] ["_law_pot_here"] (defScope s_law_number) := ⟨rfl, rfl, rfl, by decide +kernel, rfl, by decide +kernel, by decide +kernel⟩
def g_law_number : FS := (sSeq (sSet 1 (fBin (gI0 fun i j => .int (i - j)) (fCallP 0 G_law_draw (fCons (fC (.int 7)) fNil)) (fC (.int 3))))
    (sRet (fIf (fB (fBin gEqF (fCallP 0 G_law_draw (fCons (fC (.int 4)) fNil)) (fC (.int 0)))) (fTup (fCons (fV 1) (fCons (fBin gAdd0 (fC (.int 2)) (fCallP 0 G_law_draw (fCons (fC (.int 2)) fNil))) fNil))) (fTup (fCons (fV 1) (fCons (fC (.int 1)) fNil))))))
def G_law_number : List D → List D → Option (D × List D) := outP 2 g_law_number
theorem ok_law_number (M : Facts K mg) : FnG P w K mg base 2 M.a_law_number M.d_law_number ["_law_pot_here"] (sp1 (TT K M.C_Ratio) 0 G_law_number) :=
  ok1' (g := g_law_number) M.F_law_number sc_law_number rfl rfl (fun cdv A outer s H E hq hr =>
    (sts_cons (st_set 1 sc_law_number.nd (pd_op op_sub opv_sub (pd_callP (i := 0) (ok_law_draw M) hq (hr.mono (by decide)) M.m_law_draw M.F_law_draw.kp M.b_law_draw rfl (pds_cons pd_int pds_nil)) pd_int))
    (sts_one (st_ret (pd_if (pt_cmp' op_eq opv_eqF (pd_callP (i := 0) (ok_law_draw M) hq (hr.mono (by decide)) M.m_law_draw M.F_law_draw.kp M.b_law_draw rfl (pds_cons pd_int pds_nil)) pd_int rfl) (pd_tup (pds_cons (pd_v 1) (pds_cons (pd_op op_add0 opv_add0 pd_int (pd_callP (i := 0) (ok_law_draw M) hq (hr.mono (by decide)) M.m_law_draw M.F_law_draw.kp M.b_law_draw rfl (pds_cons pd_int pds_nil))) pds_nil))) (pd_tup (pds_cons (pd_v 1) (pds_cons pd_int pds_nil))))))))

theorem sc_law_told : FnScope ["_law_number_here"] ["_law_number_here"] (defScope s_law_told) := ⟨rfl, rfl, rfl, by decide +kernel, rfl, by decide +kernel, by decide +kernel⟩
def g_law_told : FS := (sRet (fIf (fB (fBin gNeF (fIxN 0 (fC (.int 1))) (fC (.int 1)))) (fMake 0 G_Ratio_init (gPos []) (fCons (fIxN 0 (fC (.int 0))) (fCons (fIxN 0 (fC (.int 1))) fNil)) fNil) (fIxN 0 (fC (.int 0)))))
def G_law_told : List D → Option D := outD 1 g_law_told
theorem ok_law_told (M : Facts K mg) : FnG P w K mg base 4 M.a_law_told M.d_law_told ["_law_number_here"] (sp0 (TT K M.C_Ratio) 1 G_law_told) :=
  ok0' (g := g_law_told) M.F_law_told sc_law_told rfl rfl (fun cdv A outer s H E hq hr =>
    (sts_one (st_ret (pd_if (pt_cmp' op_ne opv_neF (pd_ixN (i := 0) pd_int) pd_int rfl) (pd_make (c := 0) rfl M.mk_Ratio (ok_Ratio_init M) hq (hr.mono (by decide)) M.m_Ratio M.bi_Ratio_init_2 (pds_cons (pd_ixN (i := 0) pd_int) (pds_cons (pd_ixN (i := 0) pd_int) pds_nil)) pks_nil) (pd_ixN (i := 0) pd_int)))))

theorem sc_law_row : FnScope ["_law_pot_here", "_law_wide", "_law_found", "_law_place"] ["_law_pot_here", "_law_wide"] (defScope s_law_row) := ⟨rfl, rfl, rfl, by decide +kernel, rfl, by decide +kernel, by decide +kernel⟩
def g_law_row : FS := (sSeq (sOwn 2 (fLst fNil))
    (sSeq (sFor (fRg1 (fCons (fV 1) fNil)) (gN 3) (sApp 2 (fCallP 0 G_law_number fNil)))
    (sRet (fV 2))))
def G_law_row : List D → List D → Option (D × List D) := outP 4 g_law_row
theorem ok_law_row (M : Facts K mg) : FnG P w K mg base 3 M.a_law_row M.d_law_row ["_law_pot_here", "_law_wide"] (sp1 (TT K M.C_Ratio) 1 G_law_row) :=
  ok1' (g := g_law_row) M.F_law_row sc_law_row rfl rfl (fun cdv A outer s H E hq hr =>
    (sts_cons (st_own 2 sc_law_row.nd (pf_lst pds_nil))
    (sts_cons (st_for (ws := [3]) PassesOwn.never rfl (pid_rg1 M.n_range (pds_cons (pd_v 1) pds_nil)) (tg_n 3 sc_law_row.nd) (sts_one (st_app (i := 2) (pd_callP (i := 0) (ok_law_number M) hq (hr.mono (by decide)) M.m_law_number M.F_law_number.kp M.b_law_number rfl pds_nil) (h := fun ho => pe_bm PySem.F.plainAttrs_list PySem.F.slot_list_append PySem.F.type_list_append mt_append ho (pa_cons (pd_callP (i := 0) (ok_law_number M) hq (hr.mono (by decide)) M.m_law_number M.F_law_number.kp M.b_law_number rfl pds_nil) pa_nil)))))
    (sts_one (st_ret (pd_v 2))))))

theorem sc_law_rows : FnScope ["_law_pot_here", "_law_many", "_law_wide", "_law_found", "_law_turn", "_law_row_here", "_law_near", "_law_far", "_law_times", "_law_one", "_law_other"] ["_law_pot_here", "_law_many", "_law_wide"] (defScope s_law_rows) := ⟨rfl, rfl, rfl, by decide +kernel, rfl, by decide +kernel, by decide +kernel⟩
def g_law_rows : FS := (sSeq (sOwn 3 (fLst fNil))
    (sSeq (sFor (fRg1 (fCons (fV 1) fNil)) (gN 4) (sSeq (sSet 5 (fCallP 0 G_law_row (fCons (fV 2) fNil)))
    (sSeq (sIf (fAnd (fB (fBin (gI0 fun i j => .bl (decide (j < i))) (fV 4) (fC (.int 0)))) (fB (fBin gEqF (fCallP 0 G_law_draw (fCons (fC (.int 3)) fNil)) (fC (.int 0))))) (sSeq (sAsg (fTup (fCons (fCallP2 0 3 G_law_pick) (fCons (fCallP2 0 3 G_law_pick) (fCons (fCallP 0 G_law_number fNil) fNil)))) (gT 3 (gsCons (gN 6) (gsCons (gN 7) (gsCons (gN 8) gsNil)))))
    (sOwn 5 (fLc (fZip (fCons (fV 6) (fCons (fV 7) fNil))) (gT 2 (gsCons (gN 9) (gsCons (gN 10) gsNil))) fYes (fCall G_law_sum (gPos []) (fCons (fV 9) (fCons (fCall G_law_product (gPos []) (fCons (fV 8) (fCons (fV 10) fNil)) fNil) fNil)) fNil) [9, 10]))) sNil)
    (sApp 3 (fV 5)))))
    (sRet (fV 3))))
def G_law_rows : List D → List D → Option (D × List D) := outP 11 g_law_rows
theorem ok_law_rows (M : Facts K mg) : FnG P w K mg base 4 M.a_law_rows M.d_law_rows ["_law_pot_here", "_law_many", "_law_wide"] (sp1 (TT K M.C_Ratio) 2 G_law_rows) :=
  ok1' (g := g_law_rows) M.F_law_rows sc_law_rows rfl rfl (fun cdv A outer s H E hq hr =>
    (sts_cons (st_own 3 sc_law_rows.nd (pf_lst pds_nil))
    (sts_cons (st_for (ws := [4]) PassesOwn.never rfl (pid_rg1 M.n_range (pds_cons (pd_v 1) pds_nil)) (tg_n 4 sc_law_rows.nd) (sts_cons (st_set 5 sc_law_rows.nd (pd_callP (i := 0) (ok_law_row M) hq (hr.mono (by decide)) M.m_law_row M.F_law_row.kp M.b_law_row rfl (pds_cons (pd_v 2) pds_nil)))
    (sts_cons (st_if (PW.pt (w_and (pt_cmp' op_gt opv_gt (pd_v 4) pd_int rfl) (w_and1 (pt_cmp' op_eq opv_eqF (pd_callP (i := 0) (ok_law_draw M) hq (hr.mono (by decide)) M.m_law_draw M.F_law_draw.kp M.b_law_draw rfl (pds_cons pd_int pds_nil)) pd_int rfl)))) (sts_cons (st_asg (ws := [6, 7, 8]) (pd_tup (pds_cons (pd_callP2 (i := 0) (j := 3) (ok_law_pick M) hq (hr.mono (by decide)) M.m_law_pick M.F_law_pick.kp M.b_law_pick rfl) (pds_cons (pd_callP2 (i := 0) (j := 3) (ok_law_pick M) hq (hr.mono (by decide)) M.m_law_pick M.F_law_pick.kp M.b_law_pick rfl) (pds_cons (pd_callP (i := 0) (ok_law_number M) hq (hr.mono (by decide)) M.m_law_number M.F_law_number.kp M.b_law_number rfl pds_nil) pds_nil)))) (tg_t rfl (tgs_cons (tg_n 6 sc_law_rows.nd) (tgs_cons (tg_n 7 sc_law_rows.nd) (tgs_cons (tg_n 8 sc_law_rows.nd) tgs_nil)))))
    (sts_one (st_lc 5 rfl sc_law_rows.nd (blkOk_by (own := [("_law_one", 9), ("_law_other", 10)]) (by show blkC ["_law_pot_here", "_law_many", "_law_wide", "_law_found", "_law_turn", "_law_row_here", "_law_near", "_law_far", "_law_times", "_law_one", "_law_other"] (defScope s_law_rows) _ _ = true; decide +kernel)) (pid_zip M.n_zip (pds_cons (pd_v 6) (pds_cons (pd_v 7) pds_nil))) (fun _ _ _ _ _ => (tg_t rfl (tgs_cons (tg_n 9 sc_law_rows.nd) (tgs_cons (tg_n 10 sc_law_rows.nd) tgs_nil)))) (fun _ _ _ _ _ => pts_yes) (fun _ _ _ _ _ => (pd_call (ok_law_sum M) hq (hr.mono (by decide)) M.m_law_sum M.F_law_sum.kp (bnd_of 2 M.b_law_sum .nil lits_nil rfl) (pds_cons (pd_v 9) (pds_cons (pd_call (ok_law_product M) hq (hr.mono (by decide)) M.m_law_product M.F_law_product.kp (bnd_of 2 M.b_law_product .nil lits_nil rfl) (pds_cons (pd_v 8) (pds_cons (pd_v 10) pds_nil)) pks_nil) pds_nil)) pks_nil))))) sts_nil)
    (sts_one (st_app (i := 3) (pd_v 5) (h := fun ho => pe_bm PySem.F.plainAttrs_list PySem.F.slot_list_append PySem.F.type_list_append mt_append ho (pa_cons (pd_v 5) pa_nil)))))))
    (sts_one (st_ret (pd_v 3))))))

theorem sc_Ratio_top : FnScope ["self"] ["self"] (defScope s_Ratio_top) := ⟨rfl, rfl, rfl, by decide +kernel, rfl, by decide +kernel, by decide +kernel⟩
def g_Ratio_top : FS := (sRet (fFld 0 0 (fV 0)))
def G_Ratio_top : List D → Option D := outD 1 g_Ratio_top
theorem ok_Ratio_top (M : Facts K mg) : FnG P w K mg base 1 M.a_Ratio_top M.d_Ratio_top ["self"] (sp0 (TT K M.C_Ratio) 1 G_Ratio_top) :=
  ok0' (g := g_Ratio_top) M.F_Ratio_top sc_Ratio_top rfl rfl (fun cdv A outer s H E hq hr =>
    (sts_one (st_ret (pd_fld (c := 0) (j := 0) (pd_v 0) rfl M.hc_Ratio M.na_Ratio_top))))

theorem sc_Ratio_bottom : FnScope ["self"] ["self"] (defScope s_Ratio_bottom) := ⟨rfl, rfl, rfl, by decide +kernel, rfl, by decide +kernel, by decide +kernel⟩
def g_Ratio_bottom : FS := (sRet (fFld 0 1 (fV 0)))
def G_Ratio_bottom : List D → Option D := outD 1 g_Ratio_bottom
theorem ok_Ratio_bottom (M : Facts K mg) : FnG P w K mg base 1 M.a_Ratio_bottom M.d_Ratio_bottom ["self"] (sp0 (TT K M.C_Ratio) 1 G_Ratio_bottom) :=
  ok0' (g := g_Ratio_bottom) M.F_Ratio_bottom sc_Ratio_bottom rfl rfl (fun cdv A outer s H E hq hr =>
    (sts_one (st_ret (pd_fld (c := 0) (j := 1) (pd_v 0) rfl M.hc_Ratio M.na_Ratio_bottom))))

theorem sc_common_bottom : FnScope ["row", "found", "number"] ["row"] (defScope s_common_bottom) := ⟨rfl, rfl, rfl, by decide +kernel, rfl, by decide +kernel, by decide +kernel⟩
def g_common_bottom : FS := (sSeq (sSet 1 (fC (.int 1)))
    (sSeq (sFor (fSq (fV 0)) (gN 2) (sSet 1 (fFun funLcmB (fCons (fV 1) (fCons (fProp 0 G_Ratio_bottom (fV 2)) fNil)))))
    (sRet (fV 1))))
def G_common_bottom : List D → Option D := outD 3 g_common_bottom
theorem ok_common_bottom (M : Facts K mg) : FnG P w K mg base 3 M.a_common_bottom M.d_common_bottom ["row"] (sp0 (TT K M.C_Ratio) 1 G_common_bottom) :=
  ok0' (g := g_common_bottom) M.F_common_bottom sc_common_bottom rfl rfl (fun cdv A outer s H E hq hr =>
    (sts_cons (st_set 1 sc_common_bottom.nd pd_int)
    (sts_cons (st_for (ws := [2]) PassesOwn.never rfl (pid_sq (pd_v 0)) (tg_n 2 sc_common_bottom.nd) (sts_one (st_set 1 sc_common_bottom.nd (pd_bfun cr_lcmB callv_lcmB M.m_lcm (pds_cons (pd_v 1) (pds_cons (pd_prop (c := 0) (pd_v 2) rfl M.hc_Ratio M.pr_Ratio_bottom (ok_Ratio_bottom M) hq (hr.mono (by decide)) M.b_Ratio_bottom) pds_nil))))))
    (sts_one (st_ret (pd_v 1))))))

theorem sc_times_whole : FnScope ["row", "times", "number"] ["row", "times"] (defScope s_times_whole) := ⟨rfl, rfl, rfl, by decide +kernel, rfl, by decide +kernel, by decide +kernel⟩
def g_times_whole : FS := (sRet (fFr (fLc (fSq (fV 0)) (gN 2) fYes (fBin (gOr (gI okMulB fun i j => .int (i * j)) gRep) (fProp 0 G_Ratio_top (fV 2)) (fBin (gI okDivB fun i j => .int (i.fdiv j)) (fV 1) (fProp 0 G_Ratio_bottom (fV 2)))) [2])))
def G_times_whole : List D → Option D := outD 3 g_times_whole
theorem ok_times_whole (M : Facts K mg) : FnG P w K mg base 3 M.a_times_whole M.d_times_whole ["row", "times"] (sp0 (TT K M.C_Ratio) 2 G_times_whole) :=
  ok0' (g := g_times_whole) M.F_times_whole sc_times_whole rfl rfl (fun cdv A outer s H E hq hr =>
    (sts_one (st_ret (pd_fr (pf_lc rfl sc_times_whole.nd (blkOk_by (own := [("number", 2)]) (by show blkC ["row", "times", "number"] (defScope s_times_whole) _ _ = true; decide +kernel)) (pid_sq (pd_v 0)) (fun _ _ _ _ _ => (tg_n 2 sc_times_whole.nd)) (fun _ _ _ _ _ => pts_yes) (fun _ _ _ _ _ => (pd_op (Dl.OpR.or op_mulW op_rep) (Dl.OpV.or opv_mulB opv_rep) (pd_prop (c := 0) (pd_v 2) rfl M.hc_Ratio M.pr_Ratio_top (ok_Ratio_top M) hq (hr.mono (by decide)) M.b_Ratio_top) (pd_op op_fdivNW opv_fdivB (pd_v 1) (pd_prop (c := 0) (pd_v 2) rfl M.hc_Ratio M.pr_Ratio_bottom (ok_Ratio_bottom M) hq (hr.mono (by decide)) M.b_Ratio_bottom)))))))))

theorem sc_short_row : FnScope ["row", "common", "number"] ["row"] (defScope s_short_row) := ⟨rfl, rfl, rfl, by decide +kernel, rfl, by decide +kernel, by decide +kernel⟩
def g_short_row : FS := (sSeq (sSet 1 (fCall G_greatest_divisor (gPos []) (fCons (fV 0) fNil) fNil))
    (sRet (fIf (fB (fBin gEqF (fV 1) (fC (.int 0)))) (fV 0) (fFr (fLc (fSq (fV 0)) (gN 2) fYes (fBin (gI okDivB fun i j => .int (i.fdiv j)) (fV 2) (fV 1)) [2])))))
def G_short_row : List D → Option D := outD 3 g_short_row
theorem ok_short_row (M : Facts K mg) : FnG P w K mg base 2 M.a_short_row M.d_short_row ["row"] (sp0 (TT K M.C_Ratio) 1 G_short_row) :=
  ok0' (g := g_short_row) M.F_short_row sc_short_row rfl rfl (fun cdv A outer s H E hq hr =>
    (sts_cons (st_set 1 sc_short_row.nd (pd_call (ok_greatest_divisor M) hq (hr.mono (by decide)) M.m_greatest_divisor M.F_greatest_divisor.kp (bnd_of 1 M.b_greatest_divisor .nil lits_nil rfl) (pds_cons (pd_v 0) pds_nil) pks_nil))
    (sts_one (st_ret (pd_if (pt_cmp' op_eq opv_eqF (pd_v 1) pd_int rfl) (pd_v 0) (pd_fr (pf_lc rfl sc_short_row.nd (blkOk_by (own := [("number", 2)]) (by show blkC ["row", "common", "number"] (defScope s_short_row) _ _ = true; decide +kernel)) (pid_sq (pd_v 0)) (fun _ _ _ _ _ => (tg_n 2 sc_short_row.nd)) (fun _ _ _ _ _ => pts_yes) (fun _ _ _ _ _ => (pd_op op_fdivNW opv_fdivB (pd_v 2) (pd_v 1))))))))))

theorem sc_whole_row : FnScope ["row"] ["row"] (defScope s_whole_row) := ⟨rfl, rfl, rfl, by decide +kernel, rfl, by decide +kernel, by decide +kernel⟩
def g_whole_row : FS := (sRet (fCall G_short_row (gPos []) (fCons (fCall G_times_whole (gPos []) (fCons (fV 0) (fCons (fCall G_common_bottom (gPos []) (fCons (fV 0) fNil) fNil) fNil)) fNil) fNil) fNil))
def G_whole_row : List D → Option D := outD 1 g_whole_row
theorem ok_whole_row (M : Facts K mg) : FnG P w K mg base 4 M.a_whole_row M.d_whole_row ["row"] (sp0 (TT K M.C_Ratio) 1 G_whole_row) :=
  ok0' (g := g_whole_row) M.F_whole_row sc_whole_row rfl rfl (fun cdv A outer s H E hq hr =>
    (sts_one (st_ret (pd_call (ok_short_row M) hq (hr.mono (by decide)) M.m_short_row M.F_short_row.kp (bnd_of 1 M.b_short_row .nil lits_nil rfl) (pds_cons (pd_call (ok_times_whole M) hq (hr.mono (by decide)) M.m_times_whole M.F_times_whole.kp (bnd_of 2 M.b_times_whole .nil lits_nil rfl) (pds_cons (pd_v 0) (pds_cons (pd_call (ok_common_bottom M) hq (hr.mono (by decide)) M.m_common_bottom M.F_common_bottom.kp (bnd_of 1 M.b_common_bottom .nil lits_nil rfl) (pds_cons (pd_v 0) pds_nil) pks_nil) pds_nil)) pks_nil) pds_nil) pks_nil))))

theorem sc_first_with : FnScope ["rows", "low", "place", "at"] ["rows", "low", "place"] (defScope s_first_with) := ⟨rfl, rfl, rfl, by decide +kernel, rfl, by decide +kernel, by decide +kernel⟩
def g_first_with : FS := (sSeq (sFor (fRg2 (fCons (fV 1) (fCons (fLenN 0) fNil))) (gN 3) (sIf (fB (fBin gNeF (fBin gIx (fIxN 0 (fV 3)) (fV 2)) (fC (.int 0)))) (sRet (fV 3)) sNil))
    (sRet (fC .non)))
def G_first_with : List D → List D → Option (D × List D) := outP 4 g_first_with
theorem ok_first_with (M : Facts K mg) : FnG P w K mg base 1 M.a_first_with M.d_first_with ["rows", "low", "place"] (sp1 (TT K M.C_Ratio) 2 G_first_with) :=
  ok1' (g := g_first_with) M.F_first_with sc_first_with rfl rfl (fun cdv A outer s H E hq hr =>
    (sts_cons (st_for (ws := [3]) PassesOwn.never rfl (pid_rg2 M.n_range (pds_cons (pd_v 1) (pds_cons (pd_lenN (i := 0) M.n_len) pds_nil))) (tg_n 3 sc_first_with.nd) (sts_one (st_if (pt_cmp' op_ne opv_neF (pd_ix (pd_ixN (i := 0) (pd_v 3)) (pd_v 2)) pd_int rfl) (sts_one (st_ret (pd_v 3))) sts_nil)))
    (sts_one (st_ret pd_non))))

theorem sc_less : FnScope ["row", "head", "place", "pivot", "by", "many", "one", "two"] ["row", "head", "place", "pivot"] (defScope s_less) := ⟨rfl, rfl, rfl, by decide +kernel, rfl, by decide +kernel, by decide +kernel⟩
def g_less : FS := (sSeq (sAsg (fTup (fCons (fIxN 1 (fV 2)) (fCons (fIxN 0 (fV 2)) fNil))) (gT 2 (gsCons (gN 4) (gsCons (gN 5) gsNil))))
    (sRet (fFr (fLc (fZip (fCons (fV 0) (fCons (fV 1) fNil))) (gT 2 (gsCons (gN 6) (gsCons (gN 7) gsNil))) fYes (fBin (gI okDivB fun i j => .int (i.fdiv j)) (fBin (gI0 fun i j => .int (i - j)) (fBin (gOr (gI okMulB fun i j => .int (i * j)) gRep) (fV 4) (fV 6)) (fBin (gOr (gI okMulB fun i j => .int (i * j)) gRep) (fV 5) (fV 7))) (fV 3)) [6, 7]))))
def G_less : List D → Option D := outD 8 g_less
theorem ok_less (M : Facts K mg) : FnG P w K mg base 1 M.a_less M.d_less ["row", "head", "place", "pivot"] (sp0 (TT K M.C_Ratio) 4 G_less) :=
  ok0' (g := g_less) M.F_less sc_less rfl rfl (fun cdv A outer s H E hq hr =>
    (sts_cons (st_asg (ws := [4, 5]) (pd_tup (pds_cons (pd_ixN (i := 1) (pd_v 2)) (pds_cons (pd_ixN (i := 0) (pd_v 2)) pds_nil))) (tg_t rfl (tgs_cons (tg_n 4 sc_less.nd) (tgs_cons (tg_n 5 sc_less.nd) tgs_nil))))
    (sts_one (st_ret (pd_fr (pf_lc rfl sc_less.nd (blkOk_by (own := [("one", 6), ("two", 7)]) (by show blkC ["row", "head", "place", "pivot", "by", "many", "one", "two"] (defScope s_less) _ _ = true; decide +kernel)) (pid_zip M.n_zip (pds_cons (pd_v 0) (pds_cons (pd_v 1) pds_nil))) (fun _ _ _ _ _ => (tg_t rfl (tgs_cons (tg_n 6 sc_less.nd) (tgs_cons (tg_n 7 sc_less.nd) tgs_nil)))) (fun _ _ _ _ _ => pts_yes) (fun _ _ _ _ _ => (pd_op op_fdivNW opv_fdivB (pd_op op_sub opv_sub (pd_op (Dl.OpR.or op_mulW op_rep) (Dl.OpV.or opv_mulB opv_rep) (pd_v 4) (pd_v 6)) (pd_op (Dl.OpR.or op_mulW op_rep) (Dl.OpV.or opv_mulB opv_rep) (pd_v 5) (pd_v 7))) (pd_v 3)))))))))

theorem sc_cleared : FnScope ["rows", "at", "place", "pivot", "k", "row"] ["rows", "at", "place", "pivot"] (defScope s_cleared) := ⟨rfl, rfl, rfl, by decide +kernel, rfl, by decide +kernel, by decide +kernel⟩
def g_cleared : FA := (fLc (fEnum (fCons (fV 0) fNil)) (gT 2 (gsCons (gN 4) (gsCons (gN 5) gsNil))) fYes (fIf (fB (fBin gEqF (fV 4) (fV 1))) (fV 5) (fCall G_less (gPos []) (fCons (fV 5) (fCons (fIxN 0 (fV 1)) (fCons (fV 2) (fCons (fV 3) fNil)))) fNil)) [4, 5])
def G_cleared : List D → Option (List D) := outF 6 g_cleared
theorem ok_cleared (M : Facts K mg) : FnG P w K mg base 2 M.a_cleared M.d_cleared ["rows", "at", "place", "pivot"] (spF (TT K M.C_Ratio) 4 G_cleared) :=
  okF (g := g_cleared) M.F_cleared sc_cleared rfl rfl (fun cdv A outer s H E hq hr =>
    (sts_retF (pf_lc rfl sc_cleared.nd (blkOk_by (own := [("k", 4), ("row", 5)]) (by show blkC ["rows", "at", "place", "pivot", "k", "row"] (defScope s_cleared) _ _ = true; decide +kernel)) (pid_enum M.n_enumerate (pds_cons (pd_v 0) pds_nil)) (fun _ _ _ _ _ => (tg_t rfl (tgs_cons (tg_n 4 sc_cleared.nd) (tgs_cons (tg_n 5 sc_cleared.nd) tgs_nil)))) (fun _ _ _ _ _ => pts_yes) (fun _ _ _ _ _ => (pd_if (pt_cmp' op_eq opv_eqF (pd_v 4) (pd_v 1) rfl) (pd_v 5) (pd_call (ok_less M) hq (hr.mono (by decide)) M.m_less M.F_less.kp (bnd_of 4 M.b_less .nil lits_nil rfl) (pds_cons (pd_v 5) (pds_cons (pd_ixN (i := 0) (pd_v 1)) (pds_cons (pd_v 2) (pds_cons (pd_v 3) pds_nil)))) pks_nil))))))

theorem sc_reduced : FnScope ["rows", "wide", "left", "heads", "pivot", "place", "done", "at"] ["rows", "wide"] (defScope s_reduced) := ⟨rfl, rfl, rfl, by decide +kernel, rfl, by decide +kernel, by decide +kernel⟩
def g_reduced : FS := (sSeq (sOwn 2 (fLof (fCons (fV 0) fNil)))
    (sSeq (sOwn 3 (fLst fNil))
    (sSeq (sSet 4 (fC (.int 1)))
    (sSeq (sFor (fRg1 (fCons (fV 1) fNil)) (gN 5) (sSeq (sSet 6 (fLenN 3))
    (sSeq (sSet 7 (fCallP 2 G_first_with (fCons (fV 6) (fCons (fV 5) fNil))))
    (sIf (fB (fBin gNotN (fV 7) (fC .non))) (sSeq (sAsg (fTup (fCons (fIxN 2 (fV 7)) (fCons (fIxN 2 (fV 6)) fNil))) (gT 2 (gsCons (gI1 2 (fV 6)) (gsCons (gI1 2 (fV 7)) gsNil))))
    (sSeq (sOwn 2 (fCallF G_cleared (fCons (fV 2) (fCons (fV 6) (fCons (fV 5) (fCons (fV 4) fNil))))))
    (sSeq (sSet 4 (fBin gIx (fIxN 2 (fV 6)) (fV 5)))
    (sApp 3 (fV 5))))) sNil))))
    (sRet (fTup (fCons (fFr (fSlice (fV 2) fNoPart (fPart (fLenN 3)))) (fCons (fV 3) (fCons (fV 4) fNil)))))))))
def G_reduced : List D → Option D := outD 8 g_reduced
theorem ok_reduced (M : Facts K mg) : FnG P w K mg base 3 M.a_reduced M.d_reduced ["rows", "wide"] (sp0 (TT K M.C_Ratio) 2 G_reduced) :=
  ok0' (g := g_reduced) M.F_reduced sc_reduced rfl rfl (fun cdv A outer s H E hq hr =>
    (sts_cons (st_own 2 sc_reduced.nd (pf_lof M.n_list (pds_cons (pd_v 0) pds_nil)))
    (sts_cons (st_own 3 sc_reduced.nd (pf_lst pds_nil))
    (sts_cons (st_set 4 sc_reduced.nd pd_int)
    (sts_cons (st_for (ws := [5]) PassesOwn.never rfl (pid_rg1 M.n_range (pds_cons (pd_v 1) pds_nil)) (tg_n 5 sc_reduced.nd) (sts_cons (st_set 6 sc_reduced.nd (pd_lenN (i := 3) M.n_len))
    (sts_cons (st_set 7 sc_reduced.nd (pd_callP (i := 2) (ok_first_with M) hq (hr.mono (by decide)) M.m_first_with M.F_first_with.kp M.b_first_with rfl (pds_cons (pd_v 6) (pds_cons (pd_v 5) pds_nil))))
    (sts_one (st_if (pt_cmp' op_notN opv_notN (pd_v 7) pd_non rfl) (sts_cons (st_asg (ws := [2, 6, 2, 7]) (pd_tup (pds_cons (pd_ixN (i := 2) (pd_v 7)) (pds_cons (pd_ixN (i := 2) (pd_v 6)) pds_nil))) (tg_t rfl (tgs_cons (tg_i (i := 2) (pd_v 6)) (tgs_cons (tg_i (i := 2) (pd_v 7)) tgs_nil))))
    (sts_cons (st_own 2 sc_reduced.nd (pf_call (ok_cleared M) hq (hr.mono (by decide)) M.m_cleared M.F_cleared.kp M.b_cleared rfl (pds_cons (pd_v 2) (pds_cons (pd_v 6) (pds_cons (pd_v 5) (pds_cons (pd_v 4) pds_nil))))))
    (sts_cons (st_set 4 sc_reduced.nd (pd_ix (pd_ixN (i := 2) (pd_v 6)) (pd_v 5)))
    (sts_one (st_app (i := 3) (pd_v 5) (h := fun ho => pe_bm PySem.F.plainAttrs_list PySem.F.slot_list_append PySem.F.type_list_append mt_append ho (pa_cons (pd_v 5) pa_nil))))))) sts_nil)))))
    (sts_one (st_ret (pd_tup (pds_cons (pd_fr (pf_slice (pd_v 2) pdo_none (pdo_some (pd_lenN (i := 3) M.n_len)))) (pds_cons (pd_v 3) (pds_cons (pd_v 4) pds_nil)))))))))))

theorem sc_kernel_row : FnScope ["found", "heads", "pivot", "free", "wide", "made", "row", "head"] ["found", "heads", "pivot", "free", "wide"] (defScope s_kernel_row) := ⟨rfl, rfl, rfl, by decide +kernel, rfl, by decide +kernel, by decide +kernel⟩
def g_kernel_row : FS := (sSeq (sOwn 5 (fBinF gRepF (fFr (fLst (fCons (fMake 0 G_Ratio_init (gPos [.int 1]) (fCons (fC (.int 0)) fNil) fNil) fNil))) (fV 4)))
    (sSeq (sAsg (fMake 0 G_Ratio_init (gPos [.int 1]) (fCons (fC (.int 1)) fNil) fNil) (gI1 5 (fV 3)))
    (sSeq (sFor (fZip (fCons (fV 0) (fCons (fV 1) fNil))) (gT 2 (gsCons (gN 6) (gsCons (gN 7) gsNil))) (sAsg (fMake 0 G_Ratio_init (gPos []) (fCons (fUn gNeg (fIxN 6 (fV 3))) (fCons (fV 2) fNil)) fNil) (gI1 5 (fV 7))))
    (sRet (fV 5)))))
def G_kernel_row : List D → Option D := outD 8 g_kernel_row
theorem ok_kernel_row (M : Facts K mg) : FnG P w K mg base 4 M.a_kernel_row M.d_kernel_row ["found", "heads", "pivot", "free", "wide"] (sp0 (TT K M.C_Ratio) 5 G_kernel_row) :=
  ok0' (g := g_kernel_row) M.F_kernel_row sc_kernel_row rfl rfl (fun cdv A outer s H E hq hr =>
    (sts_cons (st_own 5 sc_kernel_row.nd (pf_op op_rep opf_rep (pd_fr (pf_lst (pds_cons (pd_make (c := 0) rfl M.mk_Ratio (ok_Ratio_init M) hq (hr.mono (by decide)) M.m_Ratio M.bi_Ratio_init_1 (pds_cons pd_int pds_nil) pks_nil) pds_nil))) (pd_v 4)))
    (sts_cons (st_asg (ws := [5, 3]) (pd_make (c := 0) rfl M.mk_Ratio (ok_Ratio_init M) hq (hr.mono (by decide)) M.m_Ratio M.bi_Ratio_init_1 (pds_cons pd_int pds_nil) pks_nil) (tg_i (i := 5) (pd_v 3)))
    (sts_cons (st_for (ws := [6, 7]) PassesOwn.never rfl (pid_zip M.n_zip (pds_cons (pd_v 0) (pds_cons (pd_v 1) pds_nil))) (tg_t rfl (tgs_cons (tg_n 6 sc_kernel_row.nd) (tgs_cons (tg_n 7 sc_kernel_row.nd) tgs_nil))) (sts_one (st_asg (ws := [5, 7]) (pd_make (c := 0) rfl M.mk_Ratio (ok_Ratio_init M) hq (hr.mono (by decide)) M.m_Ratio M.bi_Ratio_init_2 (pds_cons (pd_un un_neg unv_neg (pd_ixN (i := 6) (pd_v 3))) (pds_cons (pd_v 2) pds_nil)) pks_nil) (tg_i (i := 5) (pd_v 7)))))
    (sts_one (st_ret (pd_v 5)))))))

theorem sc_kernel_rows : FnScope ["rows", "wide", "mirrored", "places", "pivot", "found", "heads", "row", "place", "free"] ["rows", "wide"] (defScope s_kernel_rows) := ⟨rfl, rfl, rfl, by decide +kernel, rfl, by decide +kernel, by decide +kernel⟩
def g_kernel_rows : FS := (sSeq (sAsg (fCall G_reduced (gPos []) (fCons (fFr (fLc (fSq (fV 0)) (gN 7) fYes (fFr (fRev (fV 7))) [7])) (fCons (fV 1) fNil)) fNil) (gT 3 (gsCons (gN 2) (gsCons (gN 3) (gsCons (gN 4) gsNil)))))
    (sSeq (sSet 5 (fFr (fLc (fSq (fV 2)) (gN 7) fYes (fFr (fRev (fV 7))) [7])))
    (sSeq (sSet 6 (fFr (fLc (fSq (fV 3)) (gN 8) fYes (fBin (gI0 fun i j => .int (i - j)) (fBin (gI0 fun i j => .int (i - j)) (fV 1) (fC (.int 1))) (fV 8)) [8])))
    (sRet (fFr (fLc (fRg1 (fCons (fV 1) fNil)) (gN 9) (fB (fBin gNotIn (fV 9) (fV 6))) (fCall G_kernel_row (gPos []) (fCons (fV 5) (fCons (fV 6) (fCons (fV 4) (fCons (fV 9) (fCons (fV 1) fNil))))) fNil) [9]))))))
def G_kernel_rows : List D → Option D := outD 10 g_kernel_rows
theorem ok_kernel_rows (M : Facts K mg) : FnG P w K mg base 5 M.a_kernel_rows M.d_kernel_rows ["rows", "wide"] (sp0 (TT K M.C_Ratio) 2 G_kernel_rows) :=
  ok0' (g := g_kernel_rows) M.F_kernel_rows sc_kernel_rows rfl rfl (fun cdv A outer s H E hq hr =>
    (sts_cons (st_asg (ws := [2, 3, 4]) (pd_call (ok_reduced M) hq (hr.mono (by decide)) M.m_reduced M.F_reduced.kp (bnd_of 2 M.b_reduced .nil lits_nil rfl) (pds_cons (pd_fr (pf_lc rfl sc_kernel_rows.nd (blkOk_by (own := [("row", 7)]) (by show blkC ["rows", "wide", "mirrored", "places", "pivot", "found", "heads", "row", "place", "free"] (defScope s_kernel_rows) _ _ = true; decide +kernel)) (pid_sq (pd_v 0)) (fun _ _ _ _ _ => (tg_n 7 sc_kernel_rows.nd)) (fun _ _ _ _ _ => pts_yes) (fun _ _ _ _ _ => (pd_fr (pf_rev (pd_v 7)))))) (pds_cons (pd_v 1) pds_nil)) pks_nil) (tg_t rfl (tgs_cons (tg_n 2 sc_kernel_rows.nd) (tgs_cons (tg_n 3 sc_kernel_rows.nd) (tgs_cons (tg_n 4 sc_kernel_rows.nd) tgs_nil)))))
    (sts_cons (st_set 5 sc_kernel_rows.nd (pd_fr (pf_lc rfl sc_kernel_rows.nd (blkOk_by (own := [("row", 7)]) (by show blkC ["rows", "wide", "mirrored", "places", "pivot", "found", "heads", "row", "place", "free"] (defScope s_kernel_rows) _ _ = true; decide +kernel)) (pid_sq (pd_v 2)) (fun _ _ _ _ _ => (tg_n 7 sc_kernel_rows.nd)) (fun _ _ _ _ _ => pts_yes) (fun _ _ _ _ _ => (pd_fr (pf_rev (pd_v 7)))))))
    (sts_cons (st_set 6 sc_kernel_rows.nd (pd_fr (pf_lc rfl sc_kernel_rows.nd (blkOk_by (own := [("place", 8)]) (by show blkC ["rows", "wide", "mirrored", "places", "pivot", "found", "heads", "row", "place", "free"] (defScope s_kernel_rows) _ _ = true; decide +kernel)) (pid_sq (pd_v 3)) (fun _ _ _ _ _ => (tg_n 8 sc_kernel_rows.nd)) (fun _ _ _ _ _ => pts_yes) (fun _ _ _ _ _ => (pd_op op_sub opv_sub (pd_op op_sub opv_sub (pd_v 1) pd_int) (pd_v 8))))))
    (sts_one (st_ret (pd_fr (pf_lc rfl sc_kernel_rows.nd (blkOk_by (own := [("free", 9)]) (by show blkC ["rows", "wide", "mirrored", "places", "pivot", "found", "heads", "row", "place", "free"] (defScope s_kernel_rows) _ _ = true; decide +kernel)) (pid_rg1 M.n_range (pds_cons (pd_v 1) pds_nil)) (fun _ _ _ _ _ => (tg_n 9 sc_kernel_rows.nd)) (fun _ _ _ _ _ => (pts_one (pt_cmp' op_notIn_seq opv_notIn (pd_v 9) (pd_v 6) rfl))) (fun _ _ _ _ _ => (pd_call (ok_kernel_row M) hq (hr.mono (by decide)) M.m_kernel_row M.F_kernel_row.kp (bnd_of 5 M.b_kernel_row .nil lits_nil rfl) (pds_cons (pd_v 5) (pds_cons (pd_v 6) (pds_cons (pd_v 4) (pds_cons (pd_v 9) (pds_cons (pd_v 1) pds_nil))))) pks_nil))))))))))

theorem sc_ratio_rows : FnScope ["rows", "row", "number"] ["rows"] (defScope s_ratio_rows) := ⟨rfl, rfl, rfl, by decide +kernel, rfl, by decide +kernel, by decide +kernel⟩
def g_ratio_rows : FS := (sRet (fFr (fLc (fSq (fV 0)) (gN 1) fYes (fFr (fLc (fSq (fV 1)) (gN 2) fYes (fCall G_as_ratio (gPos []) (fCons (fV 2) fNil) fNil) [2])) [1])))
def G_ratio_rows : List D → Option D := outD 3 g_ratio_rows
theorem ok_ratio_rows (M : Facts K mg) : FnG P w K mg base 5 M.a_ratio_rows M.d_ratio_rows ["rows"] (sp0 (TT K M.C_Ratio) 1 G_ratio_rows) :=
  ok0' (g := g_ratio_rows) M.F_ratio_rows sc_ratio_rows rfl rfl (fun cdv A outer s H E hq hr =>
    (sts_one (st_ret (pd_fr (pf_lc rfl sc_ratio_rows.nd (blkOk_by (own := [("row", 1)]) (by show blkC ["rows", "row", "number"] (defScope s_ratio_rows) _ _ = true; decide +kernel)) (pid_sq (pd_v 0)) (fun _ _ _ _ _ => (tg_n 1 sc_ratio_rows.nd)) (fun _ _ _ _ _ => pts_yes) (fun _ _ _ _ _ => (pd_fr (pf_lc rfl sc_ratio_rows.nd (blkOk_by (own := [("number", 2)]) (by kernel_rfl)) (pid_sq (pd_v 1)) (fun _ _ _ _ _ => (tg_n 2 sc_ratio_rows.nd)) (fun _ _ _ _ _ => pts_yes) (fun _ _ _ _ _ => (pd_call (ok_as_ratio M) hq (hr.mono (by decide)) M.m_as_ratio M.F_as_ratio.kp (bnd_of 1 M.b_as_ratio .nil lits_nil rfl) (pds_cons (pd_v 2) pds_nil) pks_nil))))))))))

theorem sc_whole_rows : FnScope ["rows", "row"] ["rows"] (defScope s_whole_rows) := ⟨rfl, rfl, rfl, by decide +kernel, rfl, by decide +kernel, by decide +kernel⟩
def g_whole_rows : FS := (sRet (fFr (fLc (fSq (fCall G_ratio_rows (gPos []) (fCons (fV 0) fNil) fNil)) (gN 1) fYes (fCall G_whole_row (gPos []) (fCons (fV 1) fNil) fNil) [1])))
def G_whole_rows : List D → Option D := outD 2 g_whole_rows
theorem ok_whole_rows (M : Facts K mg) : FnG P w K mg base 6 M.a_whole_rows M.d_whole_rows ["rows"] (sp0 (TT K M.C_Ratio) 1 G_whole_rows) :=
  ok0' (g := g_whole_rows) M.F_whole_rows sc_whole_rows rfl rfl (fun cdv A outer s H E hq hr =>
    (sts_one (st_ret (pd_fr (pf_lc rfl sc_whole_rows.nd (blkOk_by (own := [("row", 1)]) (by show blkC ["rows", "row"] (defScope s_whole_rows) _ _ = true; decide +kernel)) (pid_sq (pd_call (ok_ratio_rows M) hq (hr.mono (by decide)) M.m_ratio_rows M.F_ratio_rows.kp (bnd_of 1 M.b_ratio_rows .nil lits_nil rfl) (pds_cons (pd_v 0) pds_nil) pks_nil)) (fun _ _ _ _ _ => (tg_n 1 sc_whole_rows.nd)) (fun _ _ _ _ _ => pts_yes) (fun _ _ _ _ _ => (pd_call (ok_whole_row M) hq (hr.mono (by decide)) M.m_whole_row M.F_whole_row.kp (bnd_of 1 M.b_whole_row .nil lits_nil rfl) (pds_cons (pd_v 1) pds_nil) pks_nil)))))))

theorem sc_is_width : FnScope ["value"] ["value"] (defScope s_is_width) := ⟨rfl, rfl, rfl, by decide +kernel, rfl, by decide +kernel, by decide +kernel⟩
def g_is_width : FS := (sRet (fAndV (fCall G_is_count (gPos []) (fCons (fV 0) fNil) fNil) (fChain (gI0 fun i j => .bl (decide (i ≤ j))) (gI0 fun i j => .bl (decide (i ≤ j))) (fC (.int 1)) (fV 0) (fC (.int 60)))))
def G_is_width : List D → Option D := outD 1 g_is_width
theorem ok_is_width (M : Facts K mg) : FnG P w K mg base 3 M.a_is_width M.d_is_width ["value"] (sp0 (TT K M.C_Ratio) 1 G_is_width) :=
  ok0' (g := g_is_width) M.F_is_width sc_is_width rfl rfl (fun cdv A outer s H E hq hr =>
    (sts_one (st_ret (pd_and (pd_call (ok_is_count M) hq (hr.mono (by decide)) M.m_is_count M.F_is_count.kp (bnd_of 1 M.b_is_count .nil lits_nil rfl) (pds_cons (pd_v 0) pds_nil) pks_nil) (pd_one (pd_chain op_le op_le opv_le opv_le pd_int (pd_v 0) (pd_gintE M.mi_MOST_WIDE)))))))

theorem sc_check_rows : FnScope ["rows", "row"] ["rows"] (defScope s_check_rows) := ⟨rfl, rfl, rfl, by decide +kernel, rfl, by decide +kernel, by decide +kernel⟩
def g_check_rows : FS := (sSeq (sIf (fOr (fNot (fB (fCall G_is_list (gPos []) (fCons (fV 0) fNil) fNil))) (fOr (fB (fBin (gI0 fun i j => .bl (decide (j < i))) (fLenN 0) (fC (.int 60)))) (fNot (fB (fFun funAll (fCons (fFr (fLc (fSq (fV 0)) (gN 1) fYes (fCall G_is_list (gPos []) (fCons (fV 1) fNil) fNil) [1])) fNil)))))) sNo sNil)
    (sSeq (sIf (fAnd (fB (fBin (gI0 fun i j => .bl (decide (j < i))) (fLenN 0) (fC (.int 0)))) (fNot (fB (fCall G_is_width (gPos []) (fCons (fFun funLen (fCons (fIxN 0 (fC (.int 0))) fNil)) fNil) fNil)))) sNo sNil)
    (sIf (fNot (fB (fFun funAll (fCons (fFr (fLc (fSq (fV 0)) (gN 1) fYes (fCall G_are_numbers (gPos []) (fCons (fV 1) (fCons (fFun funLen (fCons (fIxN 0 (fC (.int 0))) fNil)) fNil)) fNil) [1])) fNil)))) sNo sNil)))
def G_check_rows : List D → Option D := outD 2 g_check_rows
theorem ok_check_rows (M : Facts K mg) : FnG P w K mg base 4 M.a_check_rows M.d_check_rows ["rows"] (sp0 (TT K M.C_Ratio) 1 G_check_rows) :=
  ok0' (g := g_check_rows) M.F_check_rows sc_check_rows rfl rfl (fun cdv A outer s H E hq hr =>
    (sts_cons (st_if (PW.pt (w_or (pt_n (pt_d (pd_call (ok_is_list M) hq (hr.mono (by decide)) M.m_is_list M.F_is_list.kp (bnd_of 1 M.b_is_list .nil lits_nil rfl) (pds_cons (pd_v 0) pds_nil) pks_nil))) (w_or (pt_cmp' op_gt opv_gt (pd_lenN (i := 0) M.n_len) (pd_gintE M.mi_MOST_ROWS) rfl) (w_or1 (pt_n (pt_d (pd_blt (cr_all rfl) callv_all M.n_all (by decide +kernel) (pds_cons (pd_fr (pf_lc rfl sc_check_rows.nd (blkOk_by (own := [("row", 1)]) (by show blkC ["rows", "row"] (defScope s_check_rows) _ _ = true; decide +kernel)) (pid_sq (pd_v 0)) (fun _ _ _ _ _ => (tg_n 1 sc_check_rows.nd)) (fun _ _ _ _ _ => pts_yes) (fun _ _ _ _ _ => (pd_call (ok_is_list M) hq (hr.mono (by decide)) M.m_is_list M.F_is_list.kp (bnd_of 1 M.b_is_list .nil lits_nil rfl) (pds_cons (pd_v 1) pds_nil) pks_nil)))) pds_nil)))))))) (sts_one st_no) sts_nil)
    (sts_cons (st_if (PW.pt (w_and (pt_cmp' op_gt opv_gt (pd_lenN (i := 0) M.n_len) pd_int rfl) (w_and1 (pt_n (pt_d (pd_call (ok_is_width M) hq (hr.mono (by decide)) M.m_is_width M.F_is_width.kp (bnd_of 1 M.b_is_width .nil lits_nil rfl) (pds_cons (pd_blt call_len_seq callv_len M.n_len (by decide +kernel) (pds_cons (pd_ixN (i := 0) pd_int) pds_nil)) pds_nil) pks_nil)))))) (sts_one st_no) sts_nil)
    (sts_one (st_if (pt_n (pt_d (pd_blt (cr_all rfl) callv_all M.n_all (by decide +kernel) (pds_cons (pd_fr (pf_lc rfl sc_check_rows.nd (blkOk_by (own := [("row", 1)]) (by show blkC ["rows", "row"] (defScope s_check_rows) _ _ = true; decide +kernel)) (pid_sq (pd_v 0)) (fun _ _ _ _ _ => (tg_n 1 sc_check_rows.nd)) (fun _ _ _ _ _ => pts_yes) (fun _ _ _ _ _ => (pd_call (ok_are_numbers M) hq (hr.mono (by decide)) M.m_are_numbers M.F_are_numbers.kp (bnd_of 2 M.b_are_numbers .nil lits_nil rfl) (pds_cons (pd_v 1) (pds_cons (pd_blt call_len_seq callv_len M.n_len (by decide +kernel) (pds_cons (pd_ixN (i := 0) pd_int) pds_nil)) pds_nil)) pks_nil)))) pds_nil)))) (sts_one st_no) sts_nil)))))

theorem sc_steps : FnScope ["rows", "found", "_", "pivot", "row", "number"] ["rows"] (defScope s_steps) := ⟨rfl, rfl, rfl, by decide +kernel, rfl, by decide +kernel, by decide +kernel⟩
def g_steps : FS := (sSeq (sExpr (fCall G_check_rows (gPos []) (fCons (fV 0) fNil) fNil))
    (sSeq (sIf (fB (fBin gEqF (fLenN 0) (fC (.int 0)))) (sRet (fFr (fLst fNil))) sNil)
    (sSeq (sAsg (fCall G_reduced (gPos []) (fCons (fCall G_whole_rows (gPos []) (fCons (fV 0) fNil) fNil) (fCons (fFun funLen (fCons (fIxN 0 (fC (.int 0))) fNil)) fNil)) fNil) (gT 3 (gsCons (gN 1) (gsCons (gN 2) (gsCons (gN 3) gsNil)))))
    (sRet (fFr (fLc (fSq (fV 1)) (gN 4) fYes (fFr (fLc (fSq (fV 4)) (gN 5) fYes (fMake 0 G_Ratio_init (gPos []) (fCons (fV 5) (fCons (fV 3) fNil)) fNil) [5])) [4]))))))
def G_steps : List D → Option D := outD 6 g_steps
theorem ok_steps (M : Facts K mg) : FnG P w K mg base 7 M.a_steps M.d_steps ["rows"] (sp0 (TT K M.C_Ratio) 1 G_steps) :=
  ok0' (g := g_steps) M.F_steps sc_steps rfl rfl (fun cdv A outer s H E hq hr =>
    (sts_cons (st_expr (pd_call (ok_check_rows M) hq (hr.mono (by decide)) M.m_check_rows M.F_check_rows.kp (bnd_of 1 M.b_check_rows .nil lits_nil rfl) (pds_cons (pd_v 0) pds_nil) pks_nil))
    (sts_cons (st_if (pt_cmp' op_eq opv_eqF (pd_lenN (i := 0) M.n_len) pd_int rfl) (sts_one (st_ret (pd_fr (pf_lst pds_nil)))) sts_nil)
    (sts_cons (st_asg (ws := [1, 2, 3]) (pd_call (ok_reduced M) hq (hr.mono (by decide)) M.m_reduced M.F_reduced.kp (bnd_of 2 M.b_reduced .nil lits_nil rfl) (pds_cons (pd_call (ok_whole_rows M) hq (hr.mono (by decide)) M.m_whole_rows M.F_whole_rows.kp (bnd_of 1 M.b_whole_rows .nil lits_nil rfl) (pds_cons (pd_v 0) pds_nil) pks_nil) (pds_cons (pd_blt call_len_seq callv_len M.n_len (by decide +kernel) (pds_cons (pd_ixN (i := 0) pd_int) pds_nil)) pds_nil)) pks_nil) (tg_t rfl (tgs_cons (tg_n 1 sc_steps.nd) (tgs_cons (tg_n 2 sc_steps.nd) (tgs_cons (tg_n 3 sc_steps.nd) tgs_nil)))))
    (sts_one (st_ret (pd_fr (pf_lc rfl sc_steps.nd (blkOk_by (own := [("row", 4)]) (by show blkC ["rows", "found", "_", "pivot", "row", "number"] (defScope s_steps) _ _ = true; decide +kernel)) (pid_sq (pd_v 1)) (fun _ _ _ _ _ => (tg_n 4 sc_steps.nd)) (fun _ _ _ _ _ => pts_yes) (fun _ _ _ _ _ => (pd_fr (pf_lc rfl sc_steps.nd (blkOk_by (own := [("number", 5)]) (by kernel_rfl)) (pid_sq (pd_v 4)) (fun _ _ _ _ _ => (tg_n 5 sc_steps.nd)) (fun _ _ _ _ _ => pts_yes) (fun _ _ _ _ _ => (pd_make (c := 0) rfl M.mk_Ratio (ok_Ratio_init M) hq (hr.mono (by decide)) M.m_Ratio M.bi_Ratio_init_2 (pds_cons (pd_v 5) (pds_cons (pd_v 3) pds_nil)) pks_nil)))))))))))))

theorem sc_kernel : FnScope ["rows", "wide"] ["rows", "wide"] (defScope s_kernel) := ⟨rfl, rfl, rfl, by decide +kernel, rfl, by decide +kernel, by decide +kernel⟩
def g_kernel : FS := (sSeq (sExpr (fCall G_check_rows (gPos []) (fCons (fV 0) fNil) fNil))
    (sSeq (sIf (fNot (fB (fCall G_is_width (gPos []) (fCons (fV 1) fNil) fNil))) sNo sNil)
    (sSeq (sIf (fAnd (fB (fBin (gI0 fun i j => .bl (decide (j < i))) (fLenN 0) (fC (.int 0)))) (fB (fBin gNeF (fFun funLen (fCons (fIxN 0 (fC (.int 0))) fNil)) (fV 1)))) sNo sNil)
    (sRet (fCall G_kernel_rows (gPos []) (fCons (fCall G_whole_rows (gPos []) (fCons (fV 0) fNil) fNil) (fCons (fV 1) fNil)) fNil)))))
def G_kernel : List D → Option D := outD 2 g_kernel
theorem ok_kernel (M : Facts K mg) : FnG P w K mg base 7 M.a_kernel M.d_kernel ["rows", "wide"] (sp0 (TT K M.C_Ratio) 2 G_kernel) :=
  ok0' (g := g_kernel) M.F_kernel sc_kernel rfl rfl (fun cdv A outer s H E hq hr =>
    (sts_cons (st_expr (pd_call (ok_check_rows M) hq (hr.mono (by decide)) M.m_check_rows M.F_check_rows.kp (bnd_of 1 M.b_check_rows .nil lits_nil rfl) (pds_cons (pd_v 0) pds_nil) pks_nil))
    (sts_cons (st_if (pt_n (pt_d (pd_call (ok_is_width M) hq (hr.mono (by decide)) M.m_is_width M.F_is_width.kp (bnd_of 1 M.b_is_width .nil lits_nil rfl) (pds_cons (pd_v 1) pds_nil) pks_nil))) (sts_one st_no) sts_nil)
    (sts_cons (st_if (PW.pt (w_and (pt_cmp' op_gt opv_gt (pd_lenN (i := 0) M.n_len) pd_int rfl) (w_and1 (pt_cmp' op_ne opv_neF (pd_blt call_len_seq callv_len M.n_len (by decide +kernel) (pds_cons (pd_ixN (i := 0) pd_int) pds_nil)) (pd_v 1) rfl)))) (sts_one st_no) sts_nil)
    (sts_one (st_ret (pd_call (ok_kernel_rows M) hq (hr.mono (by decide)) M.m_kernel_rows M.F_kernel_rows.kp (bnd_of 2 M.b_kernel_rows .nil lits_nil rfl) (pds_cons (pd_call (ok_whole_rows M) hq (hr.mono (by decide)) M.m_whole_rows M.F_whole_rows.kp (bnd_of 1 M.b_whole_rows .nil lits_nil rfl) (pds_cons (pd_v 0) pds_nil) pks_nil) (pds_cons (pd_v 1) pds_nil)) pks_nil)))))))

theorem sc_law_all_told : FnScope ["_law_rows_here", "_law_row_here", "_law_number_here"] ["_law_rows_here"] (defScope s_law_all_told) := ⟨rfl, rfl, rfl, by decide +kernel, rfl, by decide +kernel, by decide +kernel⟩
def g_law_all_told : FS := (sRet (fFr (fLc (fSq (fV 0)) (gN 1) fYes (fFr (fLc (fSq (fV 1)) (gN 2) fYes (fCall G_law_told (gPos []) (fCons (fV 2) fNil) fNil) [2])) [1])))
def G_law_all_told : List D → Option D := outD 3 g_law_all_told
theorem ok_law_all_told (M : Facts K mg) : FnG P w K mg base 5 M.a_law_all_told M.d_law_all_told ["_law_rows_here"] (sp0 (TT K M.C_Ratio) 1 G_law_all_told) :=
  ok0' (g := g_law_all_told) M.F_law_all_told sc_law_all_told rfl rfl (fun cdv A outer s H E hq hr =>
    (sts_one (st_ret (pd_fr (pf_lc rfl sc_law_all_told.nd (blkOk_by (own := [("_law_row_here", 1)]) (by show blkC ["_law_rows_here", "_law_row_here", "_law_number_here"] (defScope s_law_all_told) _ _ = true; decide +kernel)) (pid_sq (pd_v 0)) (fun _ _ _ _ _ => (tg_n 1 sc_law_all_told.nd)) (fun _ _ _ _ _ => pts_yes) (fun _ _ _ _ _ => (pd_fr (pf_lc rfl sc_law_all_told.nd (blkOk_by (own := [("_law_number_here", 2)]) (by kernel_rfl)) (pid_sq (pd_v 1)) (fun _ _ _ _ _ => (tg_n 2 sc_law_all_told.nd)) (fun _ _ _ _ _ => pts_yes) (fun _ _ _ _ _ => (pd_call (ok_law_told M) hq (hr.mono (by decide)) M.m_law_told M.F_law_told.kp (bnd_of 1 M.b_law_told .nil lits_nil rfl) (pds_cons (pd_v 2) pds_nil) pks_nil))))))))))

theorem sc_law_led : FnScope ["_law_row_here", "_law_other", "_law_found", "_law_one", "_law_two"] ["_law_row_here", "_law_other"] (defScope s_law_led) := ⟨rfl, rfl, rfl, by decide +kernel, rfl, by decide +kernel, by decide +kernel⟩
def g_law_led : FS := (sSeq (sSet 2 (fTup (fCons (fC (.int 0)) (fCons (fC (.int 1)) fNil))))
    (sSeq (sFor (fZip (fCons (fV 0) (fCons (fV 1) fNil))) (gT 2 (gsCons (gN 3) (gsCons (gN 4) gsNil))) (sSet 2 (fCall G_law_sum (gPos []) (fCons (fV 2) (fCons (fCall G_law_product (gPos []) (fCons (fV 3) (fCons (fV 4) fNil)) fNil) fNil)) fNil)))
    (sRet (fV 2))))
def G_law_led : List D → Option D := outD 5 g_law_led
theorem ok_law_led (M : Facts K mg) : FnG P w K mg base 2 M.a_law_led M.d_law_led ["_law_row_here", "_law_other"] (sp0 (TT K M.C_Ratio) 2 G_law_led) :=
  ok0' (g := g_law_led) M.F_law_led sc_law_led rfl rfl (fun cdv A outer s H E hq hr =>
    (sts_cons (st_set 2 sc_law_led.nd (pd_tup (pds_cons pd_int (pds_cons pd_int pds_nil))))
    (sts_cons (st_for (ws := [3, 4]) PassesOwn.never rfl (pid_zip M.n_zip (pds_cons (pd_v 0) (pds_cons (pd_v 1) pds_nil))) (tg_t rfl (tgs_cons (tg_n 3 sc_law_led.nd) (tgs_cons (tg_n 4 sc_law_led.nd) tgs_nil))) (sts_one (st_set 2 sc_law_led.nd (pd_call (ok_law_sum M) hq (hr.mono (by decide)) M.m_law_sum M.F_law_sum.kp (bnd_of 2 M.b_law_sum .nil lits_nil rfl) (pds_cons (pd_v 2) (pds_cons (pd_call (ok_law_product M) hq (hr.mono (by decide)) M.m_law_product M.F_law_product.kp (bnd_of 2 M.b_law_product .nil lits_nil rfl) (pds_cons (pd_v 3) (pds_cons (pd_v 4) pds_nil)) pks_nil) pds_nil)) pks_nil))))
    (sts_one (st_ret (pd_v 2))))))

theorem sc_law_own : FnScope ["_law_numbers", "_law_number_here"] ["_law_numbers"] (defScope s_law_own) := ⟨rfl, rfl, rfl, by decide +kernel, rfl, by decide +kernel, by decide +kernel⟩
def g_law_own : FS := (sRet (fFr (fLc (fSq (fV 0)) (gN 1) fYes (fIf (fB (fIsi (pObj 0) (fV 1))) (fTup (fCons (fProp 0 G_Ratio_top (fV 1)) (fCons (fProp 0 G_Ratio_bottom (fV 1)) fNil))) (fTup (fCons (fV 1) (fCons (fC (.int 1)) fNil)))) [1])))
def G_law_own : List D → Option D := outD 2 g_law_own
theorem ok_law_own (M : Facts K mg) : FnG P w K mg base 3 M.a_law_own M.d_law_own ["_law_numbers"] (sp0 (TT K M.C_Ratio) 1 G_law_own) :=
  ok0' (g := g_law_own) M.F_law_own sc_law_own rfl rfl (fun cdv A outer s H E hq hr =>
    (sts_one (st_ret (pd_fr (pf_lc rfl sc_law_own.nd (blkOk_by (own := [("_law_number_here", 1)]) (by show blkC ["_law_numbers", "_law_number_here"] (defScope s_law_own) _ _ = true; decide +kernel)) (pid_sq (pd_v 0)) (fun _ _ _ _ _ => (tg_n 1 sc_law_own.nd)) (fun _ _ _ _ _ => pts_yes) (fun _ _ _ _ _ => (pd_if (pt_d (pd_isi (pd_v 1) (pe_glob (v := .ref M.C_Ratio) rfl M.m_Ratio rfl) (ClsV.own M.C_Ratio) M.ca M.i_Ratio M.n_isinstance)) (pd_tup (pds_cons (pd_prop (c := 0) (pd_v 1) rfl M.hc_Ratio M.pr_Ratio_top (ok_Ratio_top M) hq (hr.mono (by decide)) M.b_Ratio_top) (pds_cons (pd_prop (c := 0) (pd_v 1) rfl M.hc_Ratio M.pr_Ratio_bottom (ok_Ratio_bottom M) hq (hr.mono (by decide)) M.b_Ratio_bottom) pds_nil))) (pd_tup (pds_cons (pd_v 1) (pds_cons pd_int pds_nil))))))))))

theorem sc_law_head : FnScope ["_law_row_here", "_law_place", "_law_number_here"] ["_law_row_here"] (defScope s_law_head) := ⟨rfl, rfl, rfl, by decide +kernel, rfl, by decide +kernel, by decide +kernel⟩
def g_law_head : FS := (sRet (fBin gIx (fBin gAdd0 (fFr (fLc (fEnum (fCons (fV 0) fNil)) (gT 2 (gsCons (gN 1) (gsCons (gN 2) gsNil))) (fB (fBin gNeF (fIxN 2 (fC (.int 0))) (fC (.int 0)))) (fV 1) [1, 2])) (fFr (fLst (fCons (fLenN 0) fNil)))) (fC (.int 0))))
def G_law_head : List D → Option D := outD 3 g_law_head
theorem ok_law_head (M : Facts K mg) : FnG P w K mg base 1 M.a_law_head M.d_law_head ["_law_row_here"] (sp0 (TT K M.C_Ratio) 1 G_law_head) :=
  ok0' (g := g_law_head) M.F_law_head sc_law_head rfl rfl (fun cdv A outer s H E hq hr =>
    (sts_one (st_ret (pd_ix (pd_op op_add0 opv_add0 (pd_fr (pf_lc rfl sc_law_head.nd (blkOk_by (own := [("_law_place", 1), ("_law_number_here", 2)]) (by show blkC ["_law_row_here", "_law_place", "_law_number_here"] (defScope s_law_head) _ _ = true; decide +kernel)) (pid_enum M.n_enumerate (pds_cons (pd_v 0) pds_nil)) (fun _ _ _ _ _ => (tg_t rfl (tgs_cons (tg_n 1 sc_law_head.nd) (tgs_cons (tg_n 2 sc_law_head.nd) tgs_nil)))) (fun _ _ _ _ _ => (pts_one (pt_cmp' op_ne opv_neF (pd_ixN (i := 2) pd_int) pd_int rfl))) (fun _ _ _ _ _ => (pd_v 1)))) (pd_fr (pf_lst (pds_cons (pd_lenN (i := 0) M.n_len) pds_nil)))) pd_int))))

theorem sc_law_taken_off : FnScope ["_law_row_here", "_law_others", "_law_found", "_law_other", "_law_head_here", "_law_times", "_law_one", "_law_two"] ["_law_row_here", "_law_others"] (defScope s_law_taken_off) := ⟨rfl, rfl, rfl, by decide +kernel, rfl, by decide +kernel, by decide +kernel⟩
def g_law_taken_off : FS := (sSeq (sSet 2 (fFun funList (fCons (fV 0) fNil)))
    (sSeq (sFor (fSq (fV 1)) (gN 3) (sSeq (sSet 4 (fCall G_law_head (gPos []) (fCons (fV 3) fNil) fNil))
    (sSeq (sSet 5 (fCall G_law_product (gPos []) (fCons (fIxN 2 (fV 4)) (fCons (fTup (fCons (fBin gIx (fIxN 3 (fV 4)) (fC (.int 1))) (fCons (fBin gIx (fIxN 3 (fV 4)) (fC (.int 0))) fNil))) fNil)) fNil))
    (sOwn 2 (fLc (fZip (fCons (fV 2) (fCons (fV 3) fNil))) (gT 2 (gsCons (gN 6) (gsCons (gN 7) gsNil))) fYes (fCall G_law_sum (gPos []) (fCons (fV 6) (fCons (fCall G_law_product (gPos []) (fCons (fTup (fCons (fBin (gI0 fun i j => .int (i - j)) (fC (.int 0)) (fIxN 5 (fC (.int 0)))) (fCons (fIxN 5 (fC (.int 1))) fNil))) (fCons (fV 7) fNil)) fNil) fNil)) fNil) [6, 7])))))
    (sRet (fV 2))))
def G_law_taken_off : List D → Option D := outD 8 g_law_taken_off
theorem ok_law_taken_off (M : Facts K mg) : FnG P w K mg base 2 M.a_law_taken_off M.d_law_taken_off ["_law_row_here", "_law_others"] (sp0 (TT K M.C_Ratio) 2 G_law_taken_off) :=
  ok0' (g := g_law_taken_off) M.F_law_taken_off sc_law_taken_off rfl rfl (fun cdv A outer s H E hq hr =>
    (sts_cons (st_set 2 sc_law_taken_off.nd (pd_bty call_list_of callv_list M.n_list (by decide +kernel) (pds_cons (pd_v 0) pds_nil)))
    (sts_cons (st_for (ws := [3]) PassesOwn.never rfl (pid_sq (pd_v 1)) (tg_n 3 sc_law_taken_off.nd) (sts_cons (st_set 4 sc_law_taken_off.nd (pd_call (ok_law_head M) hq (hr.mono (by decide)) M.m_law_head M.F_law_head.kp (bnd_of 1 M.b_law_head .nil lits_nil rfl) (pds_cons (pd_v 3) pds_nil) pks_nil))
    (sts_cons (st_set 5 sc_law_taken_off.nd (pd_call (ok_law_product M) hq (hr.mono (by decide)) M.m_law_product M.F_law_product.kp (bnd_of 2 M.b_law_product .nil lits_nil rfl) (pds_cons (pd_ixN (i := 2) (pd_v 4)) (pds_cons (pd_tup (pds_cons (pd_ix (pd_ixN (i := 3) (pd_v 4)) pd_int) (pds_cons (pd_ix (pd_ixN (i := 3) (pd_v 4)) pd_int) pds_nil))) pds_nil)) pks_nil))
    (sts_one (st_lc 2 rfl sc_law_taken_off.nd (blkOk_by (own := [("_law_one", 6), ("_law_two", 7)]) (by show blkC ["_law_row_here", "_law_others", "_law_found", "_law_other", "_law_head_here", "_law_times", "_law_one", "_law_two"] (defScope s_law_taken_off) _ _ = true; decide +kernel)) (pid_zip M.n_zip (pds_cons (pd_v 2) (pds_cons (pd_v 3) pds_nil))) (fun _ _ _ _ _ => (tg_t rfl (tgs_cons (tg_n 6 sc_law_taken_off.nd) (tgs_cons (tg_n 7 sc_law_taken_off.nd) tgs_nil)))) (fun _ _ _ _ _ => pts_yes) (fun _ _ _ _ _ => (pd_call (ok_law_sum M) hq (hr.mono (by decide)) M.m_law_sum M.F_law_sum.kp (bnd_of 2 M.b_law_sum .nil lits_nil rfl) (pds_cons (pd_v 6) (pds_cons (pd_call (ok_law_product M) hq (hr.mono (by decide)) M.m_law_product M.F_law_product.kp (bnd_of 2 M.b_law_product .nil lits_nil rfl) (pds_cons (pd_tup (pds_cons (pd_op op_sub opv_sub pd_int (pd_ixN (i := 5) pd_int)) (pds_cons (pd_ixN (i := 5) pd_int) pds_nil))) (pds_cons (pd_v 7) pds_nil)) pks_nil) pds_nil)) pks_nil)))))))
    (sts_one (st_ret (pd_v 2))))))

theorem sc_Ratio_eq : FnScope ["self", "other"] ["self", "other"] (defScope s_Ratio_eq) := ⟨rfl, rfl, rfl, by decide +kernel, rfl, by decide +kernel, by decide +kernel⟩
def g_Ratio_eq : FS := (sRet (fAndV (fIsi (pObj 0) (fV 1)) (fAndV (fBin gEqF (fFld 0 0 (fV 0)) (fFld 0 0 (fV 1))) (fBin gEqF (fFld 0 1 (fV 0)) (fFld 0 1 (fV 1))))))
def G_Ratio_eq : List D → Option D := outD 2 g_Ratio_eq
theorem ok_Ratio_eq (M : Facts K mg) : FnG P w K mg base 1 M.a_Ratio_eq M.d_Ratio_eq ["self", "other"] (sp0 (TT K M.C_Ratio) 2 G_Ratio_eq) :=
  ok0' (g := g_Ratio_eq) M.F_Ratio_eq sc_Ratio_eq rfl rfl (fun cdv A outer s H E hq hr =>
    (sts_one (st_ret (pd_and (pd_isi (pd_v 1) (pe_glob (v := .ref M.C_Ratio) rfl M.m_Ratio rfl) (ClsV.own M.C_Ratio) M.ca M.i_Ratio M.n_isinstance) (pd_and (pd_cmp op_eq opv_eqF (pd_fld (c := 0) (j := 0) (pd_v 0) rfl M.hc_Ratio M.na_Ratio_top) (pd_fld (c := 0) (j := 0) (pd_v 1) rfl M.hc_Ratio M.na_Ratio_top) rfl) (pd_one (pd_cmp op_eq opv_eqF (pd_fld (c := 0) (j := 1) (pd_v 0) rfl M.hc_Ratio M.na_Ratio_bottom) (pd_fld (c := 0) (j := 1) (pd_v 1) rfl M.hc_Ratio M.na_Ratio_bottom) rfl)))))))

theorem rf_ratio {T : CT} : Rf T (eqOb 0 G_Ratio_eq) := fun H S x y v b rx ry e => by
  unfold eqOb at e
  split at e
  case h_2 => cases e
  rename_i ds _ es
  obtain ⟨⟨rfl, rfl⟩, e⟩ := ite_o e
  split at e
  case h_2 => cases e
  rename_i r hr
  cases e
  obtain ⟨vs, r1, r2⟩ := ob_self rx ry
  simp only [G_Ratio_eq, outD, g_Ratio_eq, sRet, fAndV, fIsi, isC, pObj, fB, fBin, fFld, fV, ini, endD, List.length_cons, List.length_nil, List.map_cons, List.map_nil, List.cons_append, List.getElem?_cons_zero, List.getElem?_cons_succ, Option.bind_some, if_true] at hr
  cases h0 : ds[0]? with
  | none => simp [h0] at hr
  | some d0 =>
    cases k0 : es[0]? with
    | none => simp [h0, k0] at hr
    | some e0 =>
      cases g0 : gEqF d0 e0 with
      | none => simp [h0, k0, g0] at hr
      | some x0 =>
        have := gEqF_self r1 r2 h0 k0 g0
        subst this
        cases h1 : ds[1]? with
        | none => simp [h0, k0, g0, h1] at hr
        | some d1 =>
          cases k1 : es[1]? with
          | none => simp [h0, k0, g0, h1, k1] at hr
          | some e1 =>
            cases g1 : gEqF d1 e1 with
            | none => simp [h0, k0, g0, h1, k1, g1] at hr
            | some x1 =>
              have := gEqF_self r1 r2 h1 k1 g1
              subst this
              simp [h0, k0, g0, h1, k1, g1, endD] at hr
              exact hr
def eq0 := bOr eqFl (eqOb 0 G_Ratio_eq)
def eq1 := bOr eq0 (eqLs eq0)
def eq2 := bOr eq1 (eqLs eq1)
def eq3 := bOr eq2 (eqLs eq2)
theorem rf0 {T : CT} : Rf T eq0 := rf_flat.or rf_ratio
theorem rf1 {T : CT} : Rf T eq1 := rf0.or (rf_ls rf0)
theorem rf2 {T : CT} : Rf T eq2 := rf1.or (rf_ls rf1)
theorem eqB0 {X : Cx} {K : PySem.W.Frag} {mg : Str → Option Value} (M : Facts K mg) (eK : X.K = K) (em : X.mg = mg) : EqB X (TT K M.C_Ratio) 1 eq0 := by subst eK em; exact (eqB_flat.mono (by decide)).or (EqB.ob rf_ratio rfl M.tp_Ratio M.e_Ratio_eq M.ef_Ratio_eq (ok_Ratio_eq M) M.b_Ratio_eq rfl)
theorem eqB1 {X : Cx} {K : PySem.W.Frag} {mg : Str → Option Value} (M : Facts K mg) (eK : X.K = K) (em : X.mg = mg) : EqB X (TT K M.C_Ratio) 2 eq1 := ((eqB0 M eK em).mono (by decide)).or ((eqB0 M eK em).ls rf0)
theorem eqB2 {X : Cx} {K : PySem.W.Frag} {mg : Str → Option Value} (M : Facts K mg) (eK : X.K = K) (em : X.mg = mg) : EqB X (TT K M.C_Ratio) 3 eq2 := ((eqB1 M eK em).mono (by decide)).or ((eqB1 M eK em).ls rf1)
theorem eqB3 {X : Cx} {K : PySem.W.Frag} {mg : Str → Option Value} (M : Facts K mg) (eK : X.K = K) (em : X.mg = mg) : EqB X (TT K M.C_Ratio) 4 eq3 := ((eqB2 M eK em).mono (by decide)).or ((eqB2 M eK em).ls rf2)

theorem sc_law_is_nought : FnScope ["_law_row_here", "_law_number_here"] ["_law_row_here"] (defScope s_law_is_nought) := ⟨rfl, rfl, rfl, by decide +kernel, rfl, by decide +kernel, by decide +kernel⟩
def g_law_is_nought : FS := (sRet (fBin (gOr (gOr gEqF (gOwnE 0 G_Ratio_eq)) (gB false (eqLs eq3))) (fFr (fLc (fSq (fV 0)) (gN 1) (fB (fBin (gOr (gOr gNeF (gOwnNe 0 G_Ratio_eq)) (gB true (eqLs eq3))) (fIxN 1 (fC (.int 0))) (fC (.int 0)))) (fC (.int 1)) [1])) (fFr (fLst fNil))))
def G_law_is_nought : List D → Option D := outD 2 g_law_is_nought
theorem ok_law_is_nought (M : Facts K mg) : FnG P w K mg base 6 M.a_law_is_nought M.d_law_is_nought ["_law_row_here"] (sp0 (TT K M.C_Ratio) 1 G_law_is_nought) :=
  ok0' (g := g_law_is_nought) M.F_law_is_nought sc_law_is_nought rfl rfl (fun cdv A outer s H E hq hr =>
    (sts_one (st_ret (pd_cmp (Dl.OpR.or (Dl.OpR.or op_eq (op_ownE (T := TT K M.C_Ratio) (E := E0) M.e_Ratio_eq M.ef_Ratio_eq (ok_Ratio_eq M) hq (hr.mono (by decide)) M.b_Ratio_eq rfl)) (op_eqB (n := 5) (T := TT K M.C_Ratio) (rcB_ls false (eqB3 M rfl rfl)) hq (hr.mono (by decide)))) (Dl.OpV.or (Dl.OpV.or opv_eqF (opv_ownE (c := 0) rfl M.tp_Ratio)) (opv_eqB false)) (pd_fr (pf_lc rfl sc_law_is_nought.nd (blkOk_by (own := [("_law_number_here", 1)]) (by show blkC ["_law_row_here", "_law_number_here"] (defScope s_law_is_nought) _ _ = true; decide +kernel)) (pid_sq (pd_v 0)) (fun _ _ _ _ _ => (tg_n 1 sc_law_is_nought.nd)) (fun _ _ _ _ _ => (pts_one (pt_cmp' (Dl.OpR.or (Dl.OpR.or op_ne (op_ownNe (T := TT K M.C_Ratio) (E := E0) M.e_Ratio_eq M.ef_Ratio_eq M.ne_Ratio_eq M.ob_Ratio (ok_Ratio_eq M) hq (hr.mono (by decide)) M.b_Ratio_eq rfl)) (op_neB (n := 5) (T := TT K M.C_Ratio) (rcB_ls true (eqB3 M rfl rfl)) hq (hr.mono (by decide)))) (Dl.OpV.or (Dl.OpV.or opv_neF (opv_ownNe (c := 0) rfl M.tp_Ratio)) (opv_eqB true)) (pd_ixN (i := 1) pd_int) pd_int rfl))) (fun _ _ _ _ _ => pd_int))) (pd_fr (pf_lst pds_nil)) rfl))))

theorem sc_law_is_in_steps : FnScope ["_law_rows_here", "_law_heads", "_law_row_here", "_law_head_here", "_law_due", "_law_one", "_law_other"] ["_law_rows_here"] (defScope s_law_is_in_steps) := ⟨rfl, rfl, rfl, by decide +kernel, rfl, by decide +kernel, by decide +kernel⟩
def g_law_is_in_steps : FS := (sSeq (sOwn 1 (fLc (fSq (fV 0)) (gN 2) fYes (fCall G_law_head (gPos []) (fCons (fV 2) fNil) fNil) [2]))
    (sSeq (sIf (fOr (fB (fBin (gOr (gOr gNeF (gOwnNe 0 G_Ratio_eq)) (gB true (eqLs eq3))) (fFr (fLc (fZip (fCons (fV 1) (fCons (fFr (fSlice (fV 1) (fPart (fC (.int 1))) fNoPart)) fNil))) (gT 2 (gsCons (gN 5) (gsCons (gN 6) gsNil))) (fB (fBin (gI0 fun i j => .bl (decide (j ≤ i))) (fV 5) (fV 6))) (fC (.int 1)) [5, 6])) (fFr (fLst fNil)))) (fB (fBin (gOr (gOr gNeF (gOwnNe 0 G_Ratio_eq)) (gB true (eqLs eq3))) (fFr (fLc (fSq (fV 0)) (gN 2) (fB (fCall G_law_is_nought (gPos []) (fCons (fV 2) fNil) fNil)) (fC (.int 1)) [2])) (fFr (fLst fNil))))) (sRet (fC (.bl false))) sNil)
    (sSeq (sFor (fSq (fV 0)) (gN 2) (sFor (fSq (fV 1)) (gN 3) (sSeq (sSet 4 (fFun funInt (fCons (fBin (gOr (gOr gEqF (gOwnE 0 G_Ratio_eq)) (gB false (eqLs eq3))) (fV 3) (fCall G_law_head (gPos []) (fCons (fV 2) fNil) fNil)) fNil)))
    (sIf (fB (fBin (gOr (gOr gNeF (gOwnNe 0 G_Ratio_eq)) (gB true (eqLs eq3))) (fBin gIx (fIxN 2 (fV 3)) (fC (.int 0))) (fBin (gOr (gI okMulB fun i j => .int (i * j)) gRep) (fV 4) (fBin gIx (fIxN 2 (fV 3)) (fC (.int 1)))))) (sRet (fC (.bl false))) sNil))))
    (sRet (fC (.bl true))))))
def G_law_is_in_steps : List D → Option D := outD 7 g_law_is_in_steps
theorem ok_law_is_in_steps (M : Facts K mg) : FnG P w K mg base 7 M.a_law_is_in_steps M.d_law_is_in_steps ["_law_rows_here"] (sp0 (TT K M.C_Ratio) 1 G_law_is_in_steps) :=
  ok0' (g := g_law_is_in_steps) M.F_law_is_in_steps sc_law_is_in_steps rfl rfl (fun cdv A outer s H E hq hr =>
    (sts_cons (st_lc 1 rfl sc_law_is_in_steps.nd (blkOk_by (own := [("_law_row_here", 2)]) (by show blkC ["_law_rows_here", "_law_heads", "_law_row_here", "_law_head_here", "_law_due", "_law_one", "_law_other"] (defScope s_law_is_in_steps) _ _ = true; decide +kernel)) (pid_sq (pd_v 0)) (fun _ _ _ _ _ => (tg_n 2 sc_law_is_in_steps.nd)) (fun _ _ _ _ _ => pts_yes) (fun _ _ _ _ _ => (pd_call (ok_law_head M) hq (hr.mono (by decide)) M.m_law_head M.F_law_head.kp (bnd_of 1 M.b_law_head .nil lits_nil rfl) (pds_cons (pd_v 2) pds_nil) pks_nil)))
    (sts_cons (st_if (PW.pt (w_or (pt_cmp' (Dl.OpR.or (Dl.OpR.or op_ne (op_ownNe (T := TT K M.C_Ratio) (E := E0) M.e_Ratio_eq M.ef_Ratio_eq M.ne_Ratio_eq M.ob_Ratio (ok_Ratio_eq M) hq (hr.mono (by decide)) M.b_Ratio_eq rfl)) (op_neB (n := 5) (T := TT K M.C_Ratio) (rcB_ls true (eqB3 M rfl rfl)) hq (hr.mono (by decide)))) (Dl.OpV.or (Dl.OpV.or opv_neF (opv_ownNe (c := 0) rfl M.tp_Ratio)) (opv_eqB true)) (pd_fr (pf_lc rfl sc_law_is_in_steps.nd (blkOk_by (own := [("_law_one", 5), ("_law_other", 6)]) (by show blkC ["_law_rows_here", "_law_heads", "_law_row_here", "_law_head_here", "_law_due", "_law_one", "_law_other"] (defScope s_law_is_in_steps) _ _ = true; decide +kernel)) (pid_zip M.n_zip (pds_cons (pd_v 1) (pds_cons (pd_fr (pf_slice (pd_v 1) (pdo_some pd_int) pdo_none)) pds_nil))) (fun _ _ _ _ _ => (tg_t rfl (tgs_cons (tg_n 5 sc_law_is_in_steps.nd) (tgs_cons (tg_n 6 sc_law_is_in_steps.nd) tgs_nil)))) (fun _ _ _ _ _ => (pts_one (pt_cmp' op_ge opv_ge (pd_v 5) (pd_v 6) rfl))) (fun _ _ _ _ _ => pd_int))) (pd_fr (pf_lst pds_nil)) rfl) (w_or1 (pt_cmp' (Dl.OpR.or (Dl.OpR.or op_ne (op_ownNe (T := TT K M.C_Ratio) (E := E0) M.e_Ratio_eq M.ef_Ratio_eq M.ne_Ratio_eq M.ob_Ratio (ok_Ratio_eq M) hq (hr.mono (by decide)) M.b_Ratio_eq rfl)) (op_neB (n := 5) (T := TT K M.C_Ratio) (rcB_ls true (eqB3 M rfl rfl)) hq (hr.mono (by decide)))) (Dl.OpV.or (Dl.OpV.or opv_neF (opv_ownNe (c := 0) rfl M.tp_Ratio)) (opv_eqB true)) (pd_fr (pf_lc rfl sc_law_is_in_steps.nd (blkOk_by (own := [("_law_row_here", 2)]) (by show blkC ["_law_rows_here", "_law_heads", "_law_row_here", "_law_head_here", "_law_due", "_law_one", "_law_other"] (defScope s_law_is_in_steps) _ _ = true; decide +kernel)) (pid_sq (pd_v 0)) (fun _ _ _ _ _ => (tg_n 2 sc_law_is_in_steps.nd)) (fun _ _ _ _ _ => (pts_one (pt_d (pd_call (ok_law_is_nought M) hq (hr.mono (by decide)) M.m_law_is_nought M.F_law_is_nought.kp (bnd_of 1 M.b_law_is_nought .nil lits_nil rfl) (pds_cons (pd_v 2) pds_nil) pks_nil)))) (fun _ _ _ _ _ => pd_int))) (pd_fr (pf_lst pds_nil)) rfl)))) (sts_one (st_ret pd_bl)) sts_nil)
    (sts_cons (st_for (ws := [2]) PassesOwn.never rfl (pid_sq (pd_v 0)) (tg_n 2 sc_law_is_in_steps.nd) (sts_one (st_for (ws := [3]) PassesOwn.never rfl (pid_sq (pd_v 1)) (tg_n 3 sc_law_is_in_steps.nd) (sts_cons (st_set 4 sc_law_is_in_steps.nd (pd_bty call_int1 callv_int M.n_int (by decide +kernel) (pds_cons (pd_cmp (Dl.OpR.or (Dl.OpR.or op_eq (op_ownE (T := TT K M.C_Ratio) (E := E0) M.e_Ratio_eq M.ef_Ratio_eq (ok_Ratio_eq M) hq (hr.mono (by decide)) M.b_Ratio_eq rfl)) (op_eqB (n := 5) (T := TT K M.C_Ratio) (rcB_ls false (eqB3 M rfl rfl)) hq (hr.mono (by decide)))) (Dl.OpV.or (Dl.OpV.or opv_eqF (opv_ownE (c := 0) rfl M.tp_Ratio)) (opv_eqB false)) (pd_v 3) (pd_call (ok_law_head M) hq (hr.mono (by decide)) M.m_law_head M.F_law_head.kp (bnd_of 1 M.b_law_head .nil lits_nil rfl) (pds_cons (pd_v 2) pds_nil) pks_nil) rfl) pds_nil)))
    (sts_one (st_if (pt_cmp' (Dl.OpR.or (Dl.OpR.or op_ne (op_ownNe (T := TT K M.C_Ratio) (E := E0) M.e_Ratio_eq M.ef_Ratio_eq M.ne_Ratio_eq M.ob_Ratio (ok_Ratio_eq M) hq (hr.mono (by decide)) M.b_Ratio_eq rfl)) (op_neB (n := 5) (T := TT K M.C_Ratio) (rcB_ls true (eqB3 M rfl rfl)) hq (hr.mono (by decide)))) (Dl.OpV.or (Dl.OpV.or opv_neF (opv_ownNe (c := 0) rfl M.tp_Ratio)) (opv_eqB true)) (pd_ix (pd_ixN (i := 2) (pd_v 3)) pd_int) (pd_op (Dl.OpR.or op_mulW op_rep) (Dl.OpV.or opv_mulB opv_rep) (pd_v 4) (pd_ix (pd_ixN (i := 2) (pd_v 3)) pd_int)) rfl) (sts_one (st_ret pd_bl)) sts_nil))))))
    (sts_one (st_ret pd_bl))))))

theorem sc_law_free : FnScope ["_law_rows_here", "_law_found", "_law_row_here", "_law_left", "_law_other"] ["_law_rows_here"] (defScope s_law_free) := ⟨rfl, rfl, rfl, by decide +kernel, rfl, by decide +kernel, by decide +kernel⟩
def g_law_free : FS := (sSeq (sOwn 1 (fLst fNil))
    (sSeq (sFor (fSq (fV 0)) (gN 2) (sSeq (sSet 3 (fV 2))
    (sSeq (sForO 1 (gN 4) (sSet 3 (fCall G_law_taken_off (gPos []) (fCons (fV 3) (fCons (fFr (fLst (fCons (fV 4) fNil))) fNil)) fNil)))
    (sIf (fNot (fB (fCall G_law_is_nought (gPos []) (fCons (fV 3) fNil) fNil))) (sApp 1 (fV 3)) sNil))))
    (sRet (fLenN 1))))
def G_law_free : List D → Option D := outD 5 g_law_free
theorem ok_law_free (M : Facts K mg) : FnG P w K mg base 7 M.a_law_free M.d_law_free ["_law_rows_here"] (sp0 (TT K M.C_Ratio) 1 G_law_free) :=
  ok0' (g := g_law_free) M.F_law_free sc_law_free rfl rfl (fun cdv A outer s H E hq hr =>
    (sts_cons (st_own 1 sc_law_free.nd (pf_lst pds_nil))
    (sts_cons (st_for (ws := [2]) PassesOwn.never rfl (pid_sq (pd_v 0)) (tg_n 2 sc_law_free.nd) (sts_cons (st_set 3 sc_law_free.nd (pd_v 2))
    (sts_cons (st_forO (i := 1) (ws := [4]) PassesOwn.never rfl (tg_n 4 sc_law_free.nd) (sts_one (st_set 3 sc_law_free.nd (pd_call (ok_law_taken_off M) hq (hr.mono (by decide)) M.m_law_taken_off M.F_law_taken_off.kp (bnd_of 2 M.b_law_taken_off .nil lits_nil rfl) (pds_cons (pd_v 3) (pds_cons (pd_fr (pf_lst (pds_cons (pd_v 4) pds_nil))) pds_nil)) pks_nil))))
    (sts_one (st_if (pt_n (pt_d (pd_call (ok_law_is_nought M) hq (hr.mono (by decide)) M.m_law_is_nought M.F_law_is_nought.kp (bnd_of 1 M.b_law_is_nought .nil lits_nil rfl) (pds_cons (pd_v 3) pds_nil) pks_nil))) (sts_one (st_app (i := 1) (pd_v 3) (h := fun ho => pe_bm PySem.F.plainAttrs_list PySem.F.slot_list_append PySem.F.type_list_append mt_append ho (pa_cons (pd_v 3) pa_nil)))) sts_nil)))))
    (sts_one (st_ret (pd_lenN (i := 1) M.n_len))))))

theorem sc_law_are_ratios : FnScope ["_law_row_here", "_law_number_here"] ["_law_row_here"] (defScope s_law_are_ratios) := ⟨rfl, rfl, rfl, by decide +kernel, rfl, by decide +kernel, by decide +kernel⟩
def g_law_are_ratios : FS := (sRet (fBin (gOr (gOr gEqF (gOwnE 0 G_Ratio_eq)) (gB false (eqLs eq3))) (fFr (fLc (fSq (fV 0)) (gN 1) (fNot (fB (fIsi (pObj 0) (fV 1)))) (fV 1) [1])) (fFr (fLst fNil))))
def G_law_are_ratios : List D → Option D := outD 2 g_law_are_ratios
theorem ok_law_are_ratios (M : Facts K mg) : FnG P w K mg base 6 M.a_law_are_ratios M.d_law_are_ratios ["_law_row_here"] (sp0 (TT K M.C_Ratio) 1 G_law_are_ratios) :=
  ok0' (g := g_law_are_ratios) M.F_law_are_ratios sc_law_are_ratios rfl rfl (fun cdv A outer s H E hq hr =>
    (sts_one (st_ret (pd_cmp (Dl.OpR.or (Dl.OpR.or op_eq (op_ownE (T := TT K M.C_Ratio) (E := E0) M.e_Ratio_eq M.ef_Ratio_eq (ok_Ratio_eq M) hq (hr.mono (by decide)) M.b_Ratio_eq rfl)) (op_eqB (n := 5) (T := TT K M.C_Ratio) (rcB_ls false (eqB3 M rfl rfl)) hq (hr.mono (by decide)))) (Dl.OpV.or (Dl.OpV.or opv_eqF (opv_ownE (c := 0) rfl M.tp_Ratio)) (opv_eqB false)) (pd_fr (pf_lc rfl sc_law_are_ratios.nd (blkOk_by (own := [("_law_number_here", 1)]) (by show blkC ["_law_row_here", "_law_number_here"] (defScope s_law_are_ratios) _ _ = true; decide +kernel)) (pid_sq (pd_v 0)) (fun _ _ _ _ _ => (tg_n 1 sc_law_are_ratios.nd)) (fun _ _ _ _ _ => (pts_one (pt_n (pt_d (pd_isi (pd_v 1) (pe_glob (v := .ref M.C_Ratio) rfl M.m_Ratio rfl) (ClsV.own M.C_Ratio) M.ca M.i_Ratio M.n_isinstance))))) (fun _ _ _ _ _ => (pd_v 1)))) (pd_fr (pf_lst pds_nil)) rfl))))

theorem sc_law_bare : FnScope ["_law_rows_here", "_law_row_here"] ["_law_rows_here"] (defScope s_law_bare) := ⟨rfl, rfl, rfl, by decide +kernel, rfl, by decide +kernel, by decide +kernel⟩
def g_law_bare : FS := (sRet (fFr (fLc (fSq (fV 0)) (gN 1) fYes (fCall G_law_own (gPos []) (fCons (fV 1) fNil) fNil) [1])))
def G_law_bare : List D → Option D := outD 2 g_law_bare
theorem ok_law_bare (M : Facts K mg) : FnG P w K mg base 4 M.a_law_bare M.d_law_bare ["_law_rows_here"] (sp0 (TT K M.C_Ratio) 1 G_law_bare) :=
  ok0' (g := g_law_bare) M.F_law_bare sc_law_bare rfl rfl (fun cdv A outer s H E hq hr =>
    (sts_one (st_ret (pd_fr (pf_lc rfl sc_law_bare.nd (blkOk_by (own := [("_law_row_here", 1)]) (by show blkC ["_law_rows_here", "_law_row_here"] (defScope s_law_bare) _ _ = true; decide +kernel)) (pid_sq (pd_v 0)) (fun _ _ _ _ _ => (tg_n 1 sc_law_bare.nd)) (fun _ _ _ _ _ => pts_yes) (fun _ _ _ _ _ => (pd_call (ok_law_own M) hq (hr.mono (by decide)) M.m_law_own M.F_law_own.kp (bnd_of 1 M.b_law_own .nil lits_nil rfl) (pds_cons (pd_v 1) pds_nil) pks_nil)))))))

theorem sc_Ratio_repr : FnScope ["self"] ["self"] (defScope s_Ratio_repr) := ⟨rfl, rfl, rfl, by decide +kernel, rfl, by decide +kernel, by decide +kernel⟩
def g_Ratio_repr : FS := (sRet (fJoin [fC (.str "Ratio("), fFmt (fFld 0 0 (fV 0)), fC (.str ", "), fFmt (fFld 0 1 (fV 0)), fC (.str ")")] Str.empty))
def G_Ratio_repr : List D → Option D := outD 1 g_Ratio_repr
theorem ok_Ratio_repr (M : Facts K mg) : FnOk P w K mg base CX0 1 M.a_Ratio_repr M.d_Ratio_repr ["self"] (sp0 (TT K M.C_Ratio) 1 G_Ratio_repr) :=
  ok0A (g := g_Ratio_repr) M.F_Ratio_repr sc_Ratio_repr rfl rfl (fun cdv A outer s H E hr =>
    (sts_one (st_ret (pd_joined (.cons pd_str (.cons (pd_fmt (pd_fld (c := 0) (j := 0) (pd_v 0) rfl M.hc_Ratio M.na_Ratio_top)) (.cons pd_str (.cons (pd_fmt (pd_fld (c := 0) (j := 1) (pd_v 0) rfl M.hc_Ratio M.na_Ratio_bottom)) (.cons pd_str .nil)))))))))

def rp0 := rOrr rpFl (rpOb 0 G_Ratio_repr)
def rp1 := rOrr rp0 (rpLs rp0)
def rp2 := rOrr rp1 (rpLs rp1)
theorem rpB0 {X : Cx} {K : PySem.W.Frag} {mg : Str → Option Value} (M : Facts K mg) (eK : X.K = K) (em : X.mg = mg) : RpB X (TT K M.C_Ratio) 1 rp0 := by subst eK em; exact (rpB_flat.mono (by decide)).or (RpB.ob rfl M.s_Ratio_repr M.sf_Ratio_repr (ok_Ratio_repr M) M.b_Ratio_repr rfl)
theorem rpB1 {X : Cx} {K : PySem.W.Frag} {mg : Str → Option Value} (M : Facts K mg) (eK : X.K = K) (em : X.mg = mg) : RpB X (TT K M.C_Ratio) 2 rp1 := ((rpB0 M eK em).mono (by decide)).or (rpB0 M eK em).ls
theorem rpB2 {X : Cx} {K : PySem.W.Frag} {mg : Str → Option Value} (M : Facts K mg) (eK : X.K = K) (em : X.mg = mg) : RpB X (TT K M.C_Ratio) 3 rp2 := ((rpB1 M eK em).mono (by decide)).or (rpB1 M eK em).ls

theorem sc_law_right : FnScope ["_law_pot_here", "_law_wide", "_law_many", "_law_rows_here", "_law_handed", "_law_before", "_law_told_here", "_law_own_here", "_law_others", "_law_none", "_law_inner", "_law_row_here", "_law_number_here", "_law_one", "_law_two"] ["_law_pot_here"] (defScope s_law_right) := ⟨rfl, rfl, rfl, by decide +kernel, rfl, by decide +kernel, by decide +kernel⟩
def g_law_right : FS := (sSeq (sPar 1 2 (fCons (fBin gAdd0 (fC (.int 1)) (fCallP 0 G_law_draw (fCons (fC (.int 5)) fNil))) (fCons (fCallP 0 G_law_draw (fCons (fC (.int 6)) fNil)) fNil)))
    (sSeq (sSet 3 (fCallP 0 G_law_rows (fCons (fV 2) (fCons (fV 1) fNil))))
    (sSeq (sSet 4 (fCall G_law_all_told (gPos []) (fCons (fV 3) fNil) fNil))
    (sSeq (sSet 5 (fFun (funRp rp2) (fCons (fV 4) fNil)))
    (sSeq (sSet 6 (fCall G_steps (gPos []) (fCons (fV 4) fNil) fNil))
    (sSeq (sSet 7 (fCall G_law_bare (gPos []) (fCons (fV 6) fNil) fNil))
    (sSeq (sIf (fOr (fNot (fB (fFun funAll (fCons (fFr (fLc (fSq (fV 6)) (gN 11) fYes (fCall G_law_are_ratios (gPos []) (fCons (fV 11) fNil) fNil) [11])) fNil)))) (fNot (fB (fCall G_law_is_in_steps (gPos []) (fCons (fV 7) fNil) fNil)))) (sRet (fC (.bl false))) sNil)
    (sSeq (sIf (fOr (fB (fBin (gOr (gOr gNeF (gOwnNe 0 G_Ratio_eq)) (gB true (eqLs eq3))) (fFr (fLc (fSq (fV 3)) (gN 11) (fNot (fB (fCall G_law_is_nought (gPos []) (fCons (fCall G_law_taken_off (gPos []) (fCons (fV 11) (fCons (fV 7) fNil)) fNil) fNil) fNil))) (fV 11) [11])) (fFr (fLst fNil)))) (fB (fBin (gOr (gOr gNeF (gOwnNe 0 G_Ratio_eq)) (gB true (eqLs eq3))) (fLenN 7) (fCall G_law_free (gPos []) (fCons (fV 3) fNil) fNil)))) (sRet (fC (.bl false))) sNil)
    (sSeq (sIf (fB (fBin (gI0 fun i j => .bl (decide (j < i))) (fV 2) (fC (.int 0)))) (sSeq (sOwn 8 (fBinF gCatF (fFr (fSlice (fV 3) (fPart (fC (.int 1))) fNoPart)) (fFr (fLst (fCons (fFr (fLc (fSq (fIxN 3 (fC (.int 0)))) (gN 12) fYes (fCall G_law_product (gPos []) (fCons (fTup (fCons (fBin (gI0 fun i j => .int (i - j)) (fC (.int 0)) (fC (.int 2))) (fCons (fC (.int 3)) fNil))) (fCons (fV 12) fNil)) fNil) [12])) fNil)))))
    (sSeq (sApp 8 (fFr (fLc (fZip (fCons (fIxN 3 (fC (.int 0))) (fCons (fIxN 3 (fUn gNeg (fC (.int 1)))) fNil))) (gT 2 (gsCons (gN 13) (gsCons (gN 14) gsNil))) fYes (fCall G_law_sum (gPos []) (fCons (fV 13) (fCons (fV 14) fNil)) fNil) [13, 14])))
    (sIf (fB (fBin (gOr (gOr gNeF (gOwnNe 0 G_Ratio_eq)) (gB true (eqLs eq3))) (fCall G_steps (gPos []) fNil (fCons (fFun funTup (fCons (fFr (fLc (fSq (fCall G_law_all_told (gPos []) (fCons (fV 8) fNil) fNil)) (gN 11) fYes (fFun funTup (fCons (fV 11) fNil)) [11])) fNil)) fNil)) (fV 6))) (sRet (fC (.bl false))) sNil))) sNil)
    (sSeq (sSet 9 (fCall G_kernel (gPos []) (fCons (fV 4) (fCons (fV 1) fNil)) fNil))
    (sSeq (sSet 10 (fCall G_law_bare (gPos []) (fCons (fV 9) fNil) fNil))
    (sSeq (sIf (fOr (fNot (fB (fCall G_law_is_in_steps (gPos []) (fCons (fV 10) fNil) fNil))) (fB (fBin (gOr (gOr gNeF (gOwnNe 0 G_Ratio_eq)) (gB true (eqLs eq3))) (fBin gAdd0 (fLenN 10) (fLenN 7)) (fV 1)))) (sRet (fC (.bl false))) sNil)
    (sSeq (sFor (fSq (fV 3)) (gN 11) (sIf (fB (fBin (gOr (gOr gNeF (gOwnNe 0 G_Ratio_eq)) (gB true (eqLs eq3))) (fFr (fLc (fSq (fV 10)) (gN 13) (fB (fBin (gOr (gOr gNeF (gOwnNe 0 G_Ratio_eq)) (gB true (eqLs eq3))) (fBin gIx (fCall G_law_led (gPos []) (fCons (fV 11) (fCons (fV 13) fNil)) fNil) (fC (.int 0))) (fC (.int 0)))) (fC (.int 1)) [13])) (fFr (fLst fNil)))) (sRet (fC (.bl false))) sNil))
    (sRet (fAndV (fBin (gOr (gOr gEqF (gOwnE 0 G_Ratio_eq)) (gB false (eqLs eq3))) (fCall G_kernel (gPos []) fNil (fCons (fV 9) (fCons (fV 1) fNil))) (fV 6)) (fAndV (fBin (gOr (gOr gEqF (gOwnE 0 G_Ratio_eq)) (gB false (eqLs eq3))) (fCall G_steps (gPos []) (fCons (fV 6) fNil) fNil) (fV 6)) (fBin (gOr (gOr gEqF (gOwnE 0 G_Ratio_eq)) (gB false (eqLs eq3))) (fFun (funRp rp2) (fCons (fV 4) fNil)) (fV 5))))))))))))))))))
def G_law_right : List D → List D → Option (D × List D) := outP 15 g_law_right
theorem ok_law_right (M : Facts K mg) : FnG P w K mg base 8 M.a_law_right M.d_law_right ["_law_pot_here"] (sp1 (TT K M.C_Ratio) 0 G_law_right) :=
  ok1' (g := g_law_right) M.F_law_right sc_law_right rfl rfl (fun cdv A outer s H E hq hr =>
    (sts_cons (st_par 1 2 rfl sc_law_right.nd (pds_cons (pd_op op_add0 opv_add0 pd_int (pd_callP (i := 0) (ok_law_draw M) hq (hr.mono (by decide)) M.m_law_draw M.F_law_draw.kp M.b_law_draw rfl (pds_cons pd_int pds_nil))) (pds_cons (pd_callP (i := 0) (ok_law_draw M) hq (hr.mono (by decide)) M.m_law_draw M.F_law_draw.kp M.b_law_draw rfl (pds_cons pd_int pds_nil)) pds_nil)))
    (sts_cons (st_set 3 sc_law_right.nd (pd_callP (i := 0) (ok_law_rows M) hq (hr.mono (by decide)) M.m_law_rows M.F_law_rows.kp M.b_law_rows rfl (pds_cons (pd_v 2) (pds_cons (pd_v 1) pds_nil))))
    (sts_cons (st_set 4 sc_law_right.nd (pd_call (ok_law_all_told M) hq (hr.mono (by decide)) M.m_law_all_told M.F_law_all_told.kp (bnd_of 1 M.b_law_all_told .nil lits_nil rfl) (pds_cons (pd_v 3) pds_nil) pks_nil))
    (sts_cons (st_set 5 sc_law_right.nd (pd_blt (call_rp (rpB2 M rfl rfl) hq (hr.mono (by decide))) callv_rp M.n_repr (by decide +kernel) (pds_cons (pd_v 4) pds_nil)))
    (sts_cons (st_set 6 sc_law_right.nd (pd_call (ok_steps M) hq (hr.mono (by decide)) M.m_steps M.F_steps.kp (bnd_of 1 M.b_steps .nil lits_nil rfl) (pds_cons (pd_v 4) pds_nil) pks_nil))
    (sts_cons (st_set 7 sc_law_right.nd (pd_call (ok_law_bare M) hq (hr.mono (by decide)) M.m_law_bare M.F_law_bare.kp (bnd_of 1 M.b_law_bare .nil lits_nil rfl) (pds_cons (pd_v 6) pds_nil) pks_nil))
    (sts_cons (st_if (PW.pt (w_or (pt_n (pt_d (pd_blt (cr_all rfl) callv_all M.n_all (by decide +kernel) (pds_cons (pd_fr (pf_lc rfl sc_law_right.nd (blkOk_by (own := [("_law_row_here", 11)]) (by show blkC ["_law_pot_here", "_law_wide", "_law_many", "_law_rows_here", "_law_handed", "_law_before", "_law_told_here", "_law_own_here", "_law_others", "_law_none", "_law_inner", "_law_row_here", "_law_number_here", "_law_one", "_law_two"] (defScope s_law_right) _ _ = true; decide +kernel)) (pid_sq (pd_v 6)) (fun _ _ _ _ _ => (tg_n 11 sc_law_right.nd)) (fun _ _ _ _ _ => pts_yes) (fun _ _ _ _ _ => (pd_call (ok_law_are_ratios M) hq (hr.mono (by decide)) M.m_law_are_ratios M.F_law_are_ratios.kp (bnd_of 1 M.b_law_are_ratios .nil lits_nil rfl) (pds_cons (pd_v 11) pds_nil) pks_nil)))) pds_nil)))) (w_or1 (pt_n (pt_d (pd_call (ok_law_is_in_steps M) hq (hr.mono (by decide)) M.m_law_is_in_steps M.F_law_is_in_steps.kp (bnd_of 1 M.b_law_is_in_steps .nil lits_nil rfl) (pds_cons (pd_v 7) pds_nil) pks_nil)))))) (sts_one (st_ret pd_bl)) sts_nil)
    (sts_cons (st_if (PW.pt (w_or (pt_cmp' (Dl.OpR.or (Dl.OpR.or op_ne (op_ownNe (T := TT K M.C_Ratio) (E := E0) M.e_Ratio_eq M.ef_Ratio_eq M.ne_Ratio_eq M.ob_Ratio (ok_Ratio_eq M) hq (hr.mono (by decide)) M.b_Ratio_eq rfl)) (op_neB (n := 5) (T := TT K M.C_Ratio) (rcB_ls true (eqB3 M rfl rfl)) hq (hr.mono (by decide)))) (Dl.OpV.or (Dl.OpV.or opv_neF (opv_ownNe (c := 0) rfl M.tp_Ratio)) (opv_eqB true)) (pd_fr (pf_lc rfl sc_law_right.nd (blkOk_by (own := [("_law_row_here", 11)]) (by show blkC ["_law_pot_here", "_law_wide", "_law_many", "_law_rows_here", "_law_handed", "_law_before", "_law_told_here", "_law_own_here", "_law_others", "_law_none", "_law_inner", "_law_row_here", "_law_number_here", "_law_one", "_law_two"] (defScope s_law_right) _ _ = true; decide +kernel)) (pid_sq (pd_v 3)) (fun _ _ _ _ _ => (tg_n 11 sc_law_right.nd)) (fun _ _ _ _ _ => (pts_one (pt_n (pt_d (pd_call (ok_law_is_nought M) hq (hr.mono (by decide)) M.m_law_is_nought M.F_law_is_nought.kp (bnd_of 1 M.b_law_is_nought .nil lits_nil rfl) (pds_cons (pd_call (ok_law_taken_off M) hq (hr.mono (by decide)) M.m_law_taken_off M.F_law_taken_off.kp (bnd_of 2 M.b_law_taken_off .nil lits_nil rfl) (pds_cons (pd_v 11) (pds_cons (pd_v 7) pds_nil)) pks_nil) pds_nil) pks_nil))))) (fun _ _ _ _ _ => (pd_v 11)))) (pd_fr (pf_lst pds_nil)) rfl) (w_or1 (pt_cmp' (Dl.OpR.or (Dl.OpR.or op_ne (op_ownNe (T := TT K M.C_Ratio) (E := E0) M.e_Ratio_eq M.ef_Ratio_eq M.ne_Ratio_eq M.ob_Ratio (ok_Ratio_eq M) hq (hr.mono (by decide)) M.b_Ratio_eq rfl)) (op_neB (n := 5) (T := TT K M.C_Ratio) (rcB_ls true (eqB3 M rfl rfl)) hq (hr.mono (by decide)))) (Dl.OpV.or (Dl.OpV.or opv_neF (opv_ownNe (c := 0) rfl M.tp_Ratio)) (opv_eqB true)) (pd_lenN (i := 7) M.n_len) (pd_call (ok_law_free M) hq (hr.mono (by decide)) M.m_law_free M.F_law_free.kp (bnd_of 1 M.b_law_free .nil lits_nil rfl) (pds_cons (pd_v 3) pds_nil) pks_nil) rfl)))) (sts_one (st_ret pd_bl)) sts_nil)
    (sts_cons (st_if (pt_cmp' op_gt opv_gt (pd_v 2) pd_int rfl) (sts_cons (st_own 8 sc_law_right.nd (pf_op op_cat opf_cat (pd_fr (pf_slice (pd_v 3) (pdo_some pd_int) pdo_none)) (pd_fr (pf_lst (pds_cons (pd_fr (pf_lc rfl sc_law_right.nd (blkOk_by (own := [("_law_number_here", 12)]) (by show blkC ["_law_pot_here", "_law_wide", "_law_many", "_law_rows_here", "_law_handed", "_law_before", "_law_told_here", "_law_own_here", "_law_others", "_law_none", "_law_inner", "_law_row_here", "_law_number_here", "_law_one", "_law_two"] (defScope s_law_right) _ _ = true; decide +kernel)) (pid_sq (pd_ixN (i := 3) pd_int)) (fun _ _ _ _ _ => (tg_n 12 sc_law_right.nd)) (fun _ _ _ _ _ => pts_yes) (fun _ _ _ _ _ => (pd_call (ok_law_product M) hq (hr.mono (by decide)) M.m_law_product M.F_law_product.kp (bnd_of 2 M.b_law_product .nil lits_nil rfl) (pds_cons (pd_tup (pds_cons (pd_op op_sub opv_sub pd_int pd_int) (pds_cons pd_int pds_nil))) (pds_cons (pd_v 12) pds_nil)) pks_nil)))) pds_nil)))))
    (sts_cons (st_app (i := 8) (pd_fr (pf_lc rfl sc_law_right.nd (blkOk_by (own := [("_law_one", 13), ("_law_two", 14)]) (by show blkC ["_law_pot_here", "_law_wide", "_law_many", "_law_rows_here", "_law_handed", "_law_before", "_law_told_here", "_law_own_here", "_law_others", "_law_none", "_law_inner", "_law_row_here", "_law_number_here", "_law_one", "_law_two"] (defScope s_law_right) _ _ = true; decide +kernel)) (pid_zip M.n_zip (pds_cons (pd_ixN (i := 3) pd_int) (pds_cons (pd_ixN (i := 3) (pd_un un_neg unv_neg pd_int)) pds_nil))) (fun _ _ _ _ _ => (tg_t rfl (tgs_cons (tg_n 13 sc_law_right.nd) (tgs_cons (tg_n 14 sc_law_right.nd) tgs_nil)))) (fun _ _ _ _ _ => pts_yes) (fun _ _ _ _ _ => (pd_call (ok_law_sum M) hq (hr.mono (by decide)) M.m_law_sum M.F_law_sum.kp (bnd_of 2 M.b_law_sum .nil lits_nil rfl) (pds_cons (pd_v 13) (pds_cons (pd_v 14) pds_nil)) pks_nil)))) (h := fun ho => pe_bm PySem.F.plainAttrs_list PySem.F.slot_list_append PySem.F.type_list_append mt_append ho (pa_cons (pd_fr (pf_lc rfl sc_law_right.nd (blkOk_by (own := [("_law_one", 13), ("_law_two", 14)]) (by show blkC ["_law_pot_here", "_law_wide", "_law_many", "_law_rows_here", "_law_handed", "_law_before", "_law_told_here", "_law_own_here", "_law_others", "_law_none", "_law_inner", "_law_row_here", "_law_number_here", "_law_one", "_law_two"] (defScope s_law_right) _ _ = true; decide +kernel)) (pid_zip M.n_zip (pds_cons (pd_ixN (i := 3) pd_int) (pds_cons (pd_ixN (i := 3) (pd_un un_neg unv_neg pd_int)) pds_nil))) (fun _ _ _ _ _ => (tg_t rfl (tgs_cons (tg_n 13 sc_law_right.nd) (tgs_cons (tg_n 14 sc_law_right.nd) tgs_nil)))) (fun _ _ _ _ _ => pts_yes) (fun _ _ _ _ _ => (pd_call (ok_law_sum M) hq (hr.mono (by decide)) M.m_law_sum M.F_law_sum.kp (bnd_of 2 M.b_law_sum .nil lits_nil rfl) (pds_cons (pd_v 13) (pds_cons (pd_v 14) pds_nil)) pks_nil)))) pa_nil)))
    (sts_one (st_if (pt_cmp' (Dl.OpR.or (Dl.OpR.or op_ne (op_ownNe (T := TT K M.C_Ratio) (E := E0) M.e_Ratio_eq M.ef_Ratio_eq M.ne_Ratio_eq M.ob_Ratio (ok_Ratio_eq M) hq (hr.mono (by decide)) M.b_Ratio_eq rfl)) (op_neB (n := 5) (T := TT K M.C_Ratio) (rcB_ls true (eqB3 M rfl rfl)) hq (hr.mono (by decide)))) (Dl.OpV.or (Dl.OpV.or opv_neF (opv_ownNe (c := 0) rfl M.tp_Ratio)) (opv_eqB true)) (pd_call0 (ok_steps M) hq (hr.mono (by decide)) M.m_steps M.F_steps.kp (bnd_kw 0 ["rows"] M.F_steps (fun _ _ _ _ _ _ us ws h1 h2 => match us, ws, h1, h2 with | [], [_], _, _ => rfl)) (pks_cons (pd_bty call_tuple_of callv_tup M.n_tuple (by decide +kernel) (pds_cons (pd_fr (pf_lc rfl sc_law_right.nd (blkOk_by (own := [("_law_row_here", 11)]) (by show blkC ["_law_pot_here", "_law_wide", "_law_many", "_law_rows_here", "_law_handed", "_law_before", "_law_told_here", "_law_own_here", "_law_others", "_law_none", "_law_inner", "_law_row_here", "_law_number_here", "_law_one", "_law_two"] (defScope s_law_right) _ _ = true; decide +kernel)) (pid_sq (pd_call (ok_law_all_told M) hq (hr.mono (by decide)) M.m_law_all_told M.F_law_all_told.kp (bnd_of 1 M.b_law_all_told .nil lits_nil rfl) (pds_cons (pd_v 8) pds_nil) pks_nil)) (fun _ _ _ _ _ => (tg_n 11 sc_law_right.nd)) (fun _ _ _ _ _ => pts_yes) (fun _ _ _ _ _ => (pd_bty call_tuple_of callv_tup M.n_tuple (by decide +kernel) (pds_cons (pd_v 11) pds_nil))))) pds_nil)) pks_nil)) (pd_v 6) rfl) (sts_one (st_ret pd_bl)) sts_nil)))) sts_nil)
    (sts_cons (st_set 9 sc_law_right.nd (pd_call (ok_kernel M) hq (hr.mono (by decide)) M.m_kernel M.F_kernel.kp (bnd_of 2 M.b_kernel .nil lits_nil rfl) (pds_cons (pd_v 4) (pds_cons (pd_v 1) pds_nil)) pks_nil))
    (sts_cons (st_set 10 sc_law_right.nd (pd_call (ok_law_bare M) hq (hr.mono (by decide)) M.m_law_bare M.F_law_bare.kp (bnd_of 1 M.b_law_bare .nil lits_nil rfl) (pds_cons (pd_v 9) pds_nil) pks_nil))
    (sts_cons (st_if (PW.pt (w_or (pt_n (pt_d (pd_call (ok_law_is_in_steps M) hq (hr.mono (by decide)) M.m_law_is_in_steps M.F_law_is_in_steps.kp (bnd_of 1 M.b_law_is_in_steps .nil lits_nil rfl) (pds_cons (pd_v 10) pds_nil) pks_nil))) (w_or1 (pt_cmp' (Dl.OpR.or (Dl.OpR.or op_ne (op_ownNe (T := TT K M.C_Ratio) (E := E0) M.e_Ratio_eq M.ef_Ratio_eq M.ne_Ratio_eq M.ob_Ratio (ok_Ratio_eq M) hq (hr.mono (by decide)) M.b_Ratio_eq rfl)) (op_neB (n := 5) (T := TT K M.C_Ratio) (rcB_ls true (eqB3 M rfl rfl)) hq (hr.mono (by decide)))) (Dl.OpV.or (Dl.OpV.or opv_neF (opv_ownNe (c := 0) rfl M.tp_Ratio)) (opv_eqB true)) (pd_op op_add0 opv_add0 (pd_lenN (i := 10) M.n_len) (pd_lenN (i := 7) M.n_len)) (pd_v 1) rfl)))) (sts_one (st_ret pd_bl)) sts_nil)
    (sts_cons (st_for (ws := [11]) PassesOwn.never rfl (pid_sq (pd_v 3)) (tg_n 11 sc_law_right.nd) (sts_one (st_if (pt_cmp' (Dl.OpR.or (Dl.OpR.or op_ne (op_ownNe (T := TT K M.C_Ratio) (E := E0) M.e_Ratio_eq M.ef_Ratio_eq M.ne_Ratio_eq M.ob_Ratio (ok_Ratio_eq M) hq (hr.mono (by decide)) M.b_Ratio_eq rfl)) (op_neB (n := 5) (T := TT K M.C_Ratio) (rcB_ls true (eqB3 M rfl rfl)) hq (hr.mono (by decide)))) (Dl.OpV.or (Dl.OpV.or opv_neF (opv_ownNe (c := 0) rfl M.tp_Ratio)) (opv_eqB true)) (pd_fr (pf_lc rfl sc_law_right.nd (blkOk_by (own := [("_law_one", 13)]) (by show blkC ["_law_pot_here", "_law_wide", "_law_many", "_law_rows_here", "_law_handed", "_law_before", "_law_told_here", "_law_own_here", "_law_others", "_law_none", "_law_inner", "_law_row_here", "_law_number_here", "_law_one", "_law_two"] (defScope s_law_right) _ _ = true; decide +kernel)) (pid_sq (pd_v 10)) (fun _ _ _ _ _ => (tg_n 13 sc_law_right.nd)) (fun _ _ _ _ _ => (pts_one (pt_cmp' (Dl.OpR.or (Dl.OpR.or op_ne (op_ownNe (T := TT K M.C_Ratio) (E := E0) M.e_Ratio_eq M.ef_Ratio_eq M.ne_Ratio_eq M.ob_Ratio (ok_Ratio_eq M) hq (hr.mono (by decide)) M.b_Ratio_eq rfl)) (op_neB (n := 5) (T := TT K M.C_Ratio) (rcB_ls true (eqB3 M rfl rfl)) hq (hr.mono (by decide)))) (Dl.OpV.or (Dl.OpV.or opv_neF (opv_ownNe (c := 0) rfl M.tp_Ratio)) (opv_eqB true)) (pd_ix (pd_call (ok_law_led M) hq (hr.mono (by decide)) M.m_law_led M.F_law_led.kp (bnd_of 2 M.b_law_led .nil lits_nil rfl) (pds_cons (pd_v 11) (pds_cons (pd_v 13) pds_nil)) pks_nil) pd_int) pd_int rfl))) (fun _ _ _ _ _ => pd_int))) (pd_fr (pf_lst pds_nil)) rfl) (sts_one (st_ret pd_bl)) sts_nil)))
    (sts_one (st_ret (pd_and (pd_cmp (Dl.OpR.or (Dl.OpR.or op_eq (op_ownE (T := TT K M.C_Ratio) (E := E0) M.e_Ratio_eq M.ef_Ratio_eq (ok_Ratio_eq M) hq (hr.mono (by decide)) M.b_Ratio_eq rfl)) (op_eqB (n := 5) (T := TT K M.C_Ratio) (rcB_ls false (eqB3 M rfl rfl)) hq (hr.mono (by decide)))) (Dl.OpV.or (Dl.OpV.or opv_eqF (opv_ownE (c := 0) rfl M.tp_Ratio)) (opv_eqB false)) (pd_call0 (ok_kernel M) hq (hr.mono (by decide)) M.m_kernel M.F_kernel.kp (bnd_kw 0 ["rows", "wide"] M.F_kernel (fun _ _ _ _ _ _ us ws h1 h2 => match us, ws, h1, h2 with | [], [_, _], _, _ => rfl)) (pks_cons (pd_v 9) (pks_cons (pd_v 1) pks_nil))) (pd_v 6) rfl) (pd_and (pd_cmp (Dl.OpR.or (Dl.OpR.or op_eq (op_ownE (T := TT K M.C_Ratio) (E := E0) M.e_Ratio_eq M.ef_Ratio_eq (ok_Ratio_eq M) hq (hr.mono (by decide)) M.b_Ratio_eq rfl)) (op_eqB (n := 5) (T := TT K M.C_Ratio) (rcB_ls false (eqB3 M rfl rfl)) hq (hr.mono (by decide)))) (Dl.OpV.or (Dl.OpV.or opv_eqF (opv_ownE (c := 0) rfl M.tp_Ratio)) (opv_eqB false)) (pd_call (ok_steps M) hq (hr.mono (by decide)) M.m_steps M.F_steps.kp (bnd_of 1 M.b_steps .nil lits_nil rfl) (pds_cons (pd_v 6) pds_nil) pks_nil) (pd_v 6) rfl) (pd_one (pd_cmp (Dl.OpR.or (Dl.OpR.or op_eq (op_ownE (T := TT K M.C_Ratio) (E := E0) M.e_Ratio_eq M.ef_Ratio_eq (ok_Ratio_eq M) hq (hr.mono (by decide)) M.b_Ratio_eq rfl)) (op_eqB (n := 5) (T := TT K M.C_Ratio) (rcB_ls false (eqB3 M rfl rfl)) hq (hr.mono (by decide)))) (Dl.OpV.or (Dl.OpV.or opv_eqF (opv_ownE (c := 0) rfl M.tp_Ratio)) (opv_eqB false)) (pd_blt (call_rp (rpB2 M rfl rfl) hq (hr.mono (by decide))) callv_rp M.n_repr (by decide +kernel) (pds_cons (pd_v 4) pds_nil)) (pd_v 5) rfl))))))))))))))))))))

theorem sc_law : FnScope ["_law_script"] ["_law_script"] (defScope s_law) := ⟨rfl, rfl, rfl, by decide +kernel, rfl, by decide +kernel, by decide +kernel⟩
def g_law : FS := (sRet (fCallPF G_law_right (fCallF G_law_pot (fCons (fV 0) (fCons (fC (.int 0)) fNil)))))
def G_law : List D → Option D := outD 1 g_law
theorem ok_law (M : Facts K mg) : FnG P w K mg base 9 M.a_law M.d_law ["_law_script"] (sp0 (TT K M.C_Ratio) 1 G_law) :=
  ok0' (g := g_law) M.F_law sc_law rfl rfl (fun cdv A outer s H E hq hr =>
    (sts_one (st_ret (pd_callPF (ok_law_right M) hq (hr.mono (by decide)) M.m_law_right M.F_law_right.kp M.b_law_right rfl (pf_call (ok_law_pot M) hq (hr.mono (by decide)) M.m_law_pot M.F_law_pot.kp M.b_law_pot rfl (pds_cons (pd_v 0) (pds_cons pd_int pds_nil)))))))
end
end My
namespace My
open PySem PySem.Spec PyProof.Rows L2 ClX Dl PyProof
abbrev R (p q : Int) : D := .obj 0 [.int p, .int q]
abbrev mkR (t b : Int) : D := R (nrm t b).1 (nrm t b).2
def Bd (x : Int) (n : Nat) : Prop := x.natAbs < 2 ^ n
theorem Bd.mono {x : Int} {n m : Nat} (h : Bd x n) (k : n ≤ m) : Bd x m := Nat.lt_of_lt_of_le h (Nat.pow_le_pow_right (by decide) k)
theorem Bd.mul {x y : Int} {n m : Nat} (h : Bd x n) (k : Bd y m) : Bd (x * y) (n + m) := by
  unfold Bd at *
  rw [Int.natAbs_mul, Nat.pow_add]
  exact Nat.mul_lt_mul'' h k
theorem Bd.add {x y : Int} {n : Nat} (h : Bd x n) (k : Bd y n) : Bd (x + y) (n + 1) := by
  unfold Bd at *
  rw [Nat.pow_succ]
  omega
theorem Bd.sub {x y : Int} {n : Nat} (h : Bd x n) (k : Bd y n) : Bd (x - y) (n + 1) := by
  unfold Bd at *
  rw [Nat.pow_succ]
  omega
theorem Bd.neg {x : Int} {n : Nat} (h : Bd x n) : Bd (-x) n := by unfold Bd at *; omega
theorem Bd.le {x y : Int} {n : Nat} (h : Bd x n) (k : y.natAbs ≤ x.natAbs) : Bd y n := Nat.lt_of_le_of_lt k h
theorem num_ok {x : Int} (h : Bd x 1900) : okNum x = true := by
  unfold okNum
  rw [decide_eq_true_eq]
  exact Nat.lt_of_lt_of_le (PySem.Flt.log2_lt_of (by decide) h) (by decide)
theorem bdOne {n : Nat} (h : n ≠ 0) : Bd 1 n := Nat.one_lt_two_pow h
theorem p_is_integer (i : Int) : G_is_integer [.int i] = some (.bl true) := rfl
theorem p_is_list (ds : List D) : G_is_list [.lst ds] = some (.bl true) := rfl
theorem p_is_listT (ds : List D) : G_is_list [.tup ds] = some (.bl true) := rfl
theorem p_as_ratio (p q : Int) : G_as_ratio [R p q] = some (R p q) := rfl
theorem lenT {x : Int} (h : Bd x 1900) : (Str.ofString x.repr).length ≤ 1921 := by
  rw [PySem.ofString_length]
  exact int_text_length_le (by decide) (of_decide_eq_true (num_ok h))
theorem nrm_neg {t b : Int} (h : b ≠ 0) : (nrm t b).1 < 0 ↔ t * b < 0 := by
  have k := nrm_is (t := t) h
  have e := k.eq
  have hb : 0 < b * b := by
    rcases Int.lt_or_gt_of_ne h with h | h
    · exact Int.mul_pos_of_neg_of_neg h h
    · exact Int.mul_pos h h
  have e2 : (nrm t b).1 * (b * b) = t * b * (nrm t b).2 := by rw [← Int.mul_assoc, e, Int.mul_assoc, Int.mul_comm (nrm t b).2, ← Int.mul_assoc]
  constructor
  · intro hp
    have : (nrm t b).1 * (b * b) < 0 := Int.mul_neg_of_neg_of_pos hp hb
    rw [e2] at this
    rcases Int.lt_trichotomy (t * b) 0 with z | z | z
    · exact z
    · rw [z] at this; simp at this
    · have := Int.mul_pos z k.pos; omega
  · intro hp
    have : t * b * (nrm t b).2 < 0 := Int.mul_neg_of_neg_of_pos hp k.pos
    rw [← e2] at this
    rcases Int.lt_trichotomy (nrm t b).1 0 with z | z | z
    · exact z
    · rw [z] at this; simp at this
    · have := Int.mul_pos z hb; omega
theorem nrm_zero {t b : Int} (h : b ≠ 0) : (nrm t b).1 = 0 ↔ t = 0 := by
  have k := nrm_is (t := t) h
  have e := k.eq
  constructor
  · intro z
    rw [z, Int.zero_mul] at e
    rcases Int.mul_eq_zero.mp e.symm with z | z
    · exact z
    · have := k.pos; omega
  · intro z
    have e' : (nrm t b).1 * b = 0 := by rw [e, z, Int.zero_mul]
    rcases Int.mul_eq_zero.mp e' with z | z
    · exact z
    · exact absurd z h
def Pot (l : List D) : Prop := ∃ x y : Int, l = [.int x, .int y] ∧ 0 ≤ y ∧ Bd y 40
theorem okPos_of {i j : Int} (h : 0 < j) : okPos i j = true := decide_eq_true h
theorem bd_of {x : Int} {n : Nat} (m : Nat) (h0 : 0 ≤ x) (h : x < (m : Int)) (k : m ≤ 2 ^ n) : Bd x n := by unfold Bd; omega
theorem atI_in {ds : List D} {i : Int} (h0 : 0 ≤ i) (h1 : i < ds.length) : ∃ x, atI ds i = some x ∧ x ∈ ds := by
  have hj : i.toNat < ds.length := by omega
  refine ⟨ds[i.toNat], ?_, List.getElem_mem hj⟩
  unfold atI ixN
  simp [h0, h1, hj]
abbrev mk (q t : Int) : D := mkR t q
theorem mk_inj {q t u : Int} (hq : q ≠ 0) : ((nrm t q).1 = (nrm u q).1 ∧ (nrm t q).2 = (nrm u q).2) ↔ t = u := by
  constructor
  · intro ⟨h1, h2⟩
    have k := nrm_is (t := t) hq
    have k' := nrm_is (t := u) hq
    have e := k.eq
    have e' := k'.eq
    rw [← h1, ← h2] at e'
    have p := k.pos
    have : t * (nrm t q).2 = u * (nrm t q).2 := by rw [← e, ← e']
    exact Int.eq_of_mul_eq_mul_right (Int.ne_of_gt p) this
  · rintro rfl; exact ⟨rfl, rfl⟩
theorem eq0_int (t u : Int) : eq0 (.int t) (.int u) = some (decide (t = u)) := by
  simp [eq0, bOr, eqFl, litV, eqV]
  rfl
theorem bOr_some {g g' : D → D → Option Bool} {x y : D} {b : Bool} (h : g x y = some b) : bOr g g' x y = some b := by simp [bOr, h]
theorem eqZ_code {α : Type} [DecidableEq α] {g : D → D → Option Bool} {f : α → D} (h : ∀ a b, g (f a) (f b) = some (decide (a = b))) : ∀ (as bs : List α), as.length = bs.length → eqZ g (as.map f) (bs.map f) = some (decide (as = bs))
  | [], [], _ => by simp [eqZ]
  | a :: as, b :: bs, e => by
    simp only [List.length_cons, Nat.add_right_cancel_iff] at e
    simp only [List.map_cons, eqZ, h, Option.bind_some, eqZ_code h as bs e, Option.map_some]
    simp only [List.cons.injEq, Bool.decide_and]
  | [], b :: bs, e => by simp at e
  | a :: as, [], e => by simp at e
theorem eqLs_code {α : Type} [DecidableEq α] {g : D → D → Option Bool} {f : α → D} (h : ∀ a b, g (f a) (f b) = some (decide (a = b))) (as bs : List α) : eqLs g (.lst (as.map f)) (.lst (bs.map f)) = some (decide (as = bs)) := by
  simp only [eqLs, List.length_map]
  by_cases e : as.length = bs.length
  · rw [if_pos e, eqZ_code h as bs e]
  · rw [if_neg e]
    have : as ≠ bs := fun z => e (by rw [z])
    simp [this]
abbrev rowR (q : Int) (ts : List Int) : D := .lst (ts.map (mk q))
abbrev rowI (ts : List Int) : D := .lst (ts.map D.int)
theorem all_true : ∀ n : Nat, funAll [.lst (List.replicate n (.bl true))] = some (.bl true) := by
  intro n
  have : blsOf (List.replicate n (.bl true)) = some (List.replicate n true) := by
    induction n with
    | zero => rfl
    | succ n ih => simp [List.replicate_succ, blsOf, ih]
  simp [funAll, this]
def Sq (d : D) (ds : List D) : Prop := d = .lst ds ∨ d = .tup ds
theorem Sq.items {d : D} {ds : List D} (h : Sq d ds) : itemsD d = some ds := by rcases h with rfl | rfl <;> rfl
theorem fSq_val {d : D} {ds : List D} {i : Nat} {δ : Es} (h : Sq d ds) (hi : δ[i]? = some (.val d)) : fSq (fV i) δ = some (ds, δ) := by
  rcases h with rfl | rfl <;> simp [fSq, fV, hi]
theorem p_is_listS {d : D} {ds : List D} (h : Sq d ds) : G_is_list [d] = some (.bl true) := by rcases h with rfl | rfl <;> rfl
theorem fLenN_val {d : D} {ds : List D} {i : Nat} {δ : Es} (h : Sq d ds) (hi : δ[i]? = some (.val d)) : fLenN i δ = some (.int ds.length, δ) := by
  rcases h with rfl | rfl <;> simp [fLenN, isOwn, hi, fFun, funLen, fCons, fNil, fV]
theorem lc_mapG {ft : FG} {fe : FE} {vs : List Nat} {h : D → Option D} {δ : Es} : ∀ (ds acc : List D), (∀ d, d ∈ ds → ∃ δd, ft d δ = some δd ∧ fe δd = (h d).map (fun y => (y, δd)) ∧ wipeE δd vs = δ) → acc.length + ds.length ≤ big → lcF ft fYes fe vs ds acc δ = (mapO h ds).map fun ys => (acc ++ ys, δ)
  | [], acc, _, _ => by simp [lcF, mapO]
  | d :: ds, acc, hf, hl => by
    simp only [List.length_cons] at hl
    have hb : acc.length ≤ big := by omega
    obtain ⟨δd, h1, h2, h3⟩ := hf d (List.mem_cons_self ..)
    have rest := fun y => lc_mapG ds (acc ++ [y]) (fun x hx => hf x (List.mem_cons_of_mem _ hx)) (by simp; omega)
    simp only [lcF, h1, fYes, Option.bind_some, if_true, h2, mapO]
    cases hy : h d with
    | none => simp
    | some y =>
      simp only [Option.map_some, Option.bind_some, hb, if_true, h3, rest]
      cases mapO h ds <;> simp
theorem atI_nat {α : Type} (ds : List α) (i : Nat) (h : i < ds.length) : atI ds (i : Int) = ds[i]? := by
  unfold atI ixN
  simp [h]
theorem cut_take (ds : List D) (k : Nat) (h : k ≤ ds.length) : Dl.cutD ds none (some (k : Int)) = ds.take k := by
  unfold Dl.cutD
  rw [HT.sIx_none, HT.sIx_nat, Nat.min_eq_left h]
  simp
theorem if62 {α : Type} (i j : Int) (hi : -4611686018427387904 ≤ i) (hi2 : i < 4611686018427387904) (hj : -4611686018427387904 ≤ j) (hj2 : j < 4611686018427387904) (x y : α) : (if -(2 ^ 62) ≤ i ∧ i < 2 ^ 62 ∧ -(2 ^ 62) ≤ j ∧ j < 2 ^ 62 then x else y) = x := if_pos ⟨by omega, by omega, by omega, by omega⟩
theorem rg2_int (i j : Int) (hi : -4611686018427387904 ≤ i) (hi2 : i < 4611686018427387904) (hj : -4611686018427387904 ≤ j) (hj2 : j < 4611686018427387904) {fa : FA} {δ δ1 : List Sl} (e : fa δ = some ([.int i, .int j], δ1)) : fRg2 fa δ = some (intsD i (j - i).toNat, δ1) := by
  unfold fRg2
  rw [e]
  exact if62 i j hi hi2 hj hj2 _ _
theorem seq_nx {g h : FS} {a b : List Sl} (e : g a = some (.nx b)) : sSeq g h a = h b := by
  rw [sSeq, e]
  rfl
theorem mapO_const {h : D → Option D} {y : D} : ∀ {ds : List D}, (∀ d, d ∈ ds → h d = some y) → mapO h ds = some (List.replicate ds.length y)
  | [], _ => rfl
  | d :: ds, hh => by simp [mapO, hh d (List.mem_cons_self ..), mapO_const (fun x hx => hh x (List.mem_cons_of_mem _ hx)), List.replicate_succ]
theorem call2 {F : List D → Option D} {fa fb : FE} {δ : Es} {a b r : D} (ha : fa δ = some (a, δ)) (hb : fb δ = some (b, δ)) (hF : F [a, b] = some r) : fCall F (gPos []) (fCons fa (fCons fb fNil)) fNil δ = some (r, δ) := by
  simp only [fCall, fCons, fNil, ha, hb, Option.bind_some, Option.map_some, gPos, List.append_nil, hF]
theorem call1 {F : List D → Option D} {fa : FE} {δ : Es} {a r : D} (ha : fa δ = some (a, δ)) (hF : F [a] = some r) : fCall F (gPos []) (fCons fa fNil) fNil δ = some (r, δ) := by
  simp only [fCall, fCons, fNil, ha, Option.bind_some, Option.map_some, gPos, List.append_nil, hF]
theorem and_t {f g : FE} {δ : Es} {x : D} (hf : f δ = some (.bl true, δ)) (hg : g δ = some (x, δ)) : fAndV f g δ = some (x, δ) := by
  simp only [fAndV, fB, hf, Option.bind_some, Option.map_some, if_true, hg]
theorem intsOf_map (l : List Int) : intsOf (l.map D.int) = some l := by induction l with | nil => rfl | cons a l ih => simp [intsOf, ih]
theorem out1 {m : Nat} {fe : FE} {ds : List D} {d : Option D} {δ : Es} (h : fe (ini m ds) = d.map fun d => (d, δ)) : outD m (sRet fe) ds = d := by
  simp only [outD, sRet, h]
  cases d <;> rfl
theorem and_f {f g : FE} {δ : Es} (hf : f δ = some (.bl false, δ)) : fAndV f g δ = some (.bl false, δ) := by
  simp only [fAndV, fB, hf, Option.bind_some, Option.map_some, Bool.false_eq_true, if_false]
theorem callP_eq {F : List D → List D → Option (D × List D)} {fa : FA} {l l' : List D} {r : Es} {ds : List D} {d : D} (hfa : fa (.own .pot l :: r) = some (ds, .own .pot l :: r)) (hF : F l ds = some (d, l')) : fCallP 0 F fa (.own .pot l :: r) = some (d, .own .pot l' :: r) := by
  simp [fCallP, isOwn, hfa, isL, hF]
theorem rg1_int (j : Int) (hj : -4611686018427387904 ≤ j) (hj2 : j < 4611686018427387904) {fa : FA} {δ δ1 : List Sl} (e : fa δ = some ([.int j], δ1)) : fRg1 fa δ = some (intsD 0 j.toNat, δ1) := by
  unfold fRg1
  rw [e]
  exact if_pos ⟨by omega, by omega⟩
theorem intsD_len (i : Int) (n : Nat) : (intsD i n).length = n := by simp [intsD]
theorem seq_seq (f g h : FS) (δ : Es) : sSeq f (sSeq g h) δ = sSeq (sSeq f g) h δ := by
  unfold sSeq
  cases f δ with
  | none => rfl
  | some r => cases r <;> rfl
theorem bin_eq {g : D → D → Option D} {fa fb : FE} {δ δ1 δ2 : Es} {x y d : D} (ha : fa δ = some (x, δ1)) (hb : fb δ1 = some (y, δ2)) (hg : g x y = some d) : fBin g fa fb δ = some (d, δ2) := by
  simp only [fBin, ha, Option.bind_some, hb, hg, Option.map_some]
theorem fun_eq {F : List D → Option D} {fa : FE} {δ δ1 : Es} {x d : D} (ha : fa δ = some (x, δ1)) (hF : F [x] = some d) : fFun F (fCons fa fNil) δ = some (d, δ1) := by
  simp only [fFun, fCons, fNil, ha, Option.bind_some, hF, Option.map_some]
theorem app_eq {i : Nat} {fe : FE} {δ δ1 : Es} {acc0 acc : List D} {d : D} (h0 : δ[i]? = some (.own .mine acc0)) (he : fe δ = some (d, δ1)) (h1 : δ1[i]? = some (.own .mine acc)) (hb : acc.length ≤ big) : sApp i fe δ = some (.nx (δ1.set i (.own .mine (acc ++ [d])))) := by
  have k : isOwnL δ[i]? = true := by rw [h0]; rfl
  have hb' : True ∧ acc.length ≤ big := ⟨trivial, hb⟩
  rw [sApp, if_pos k, he, Option.bind_some]
  dsimp only
  rw [h1]
  exact if_pos ⟨rfl, hb⟩
theorem lt_eq (i j : Int) : (gI0 fun i j => .bl (decide (j < i))) (.int i) (.int j) = some (.bl (decide (j < i))) := rfl
theorem rep_if {α : Type} (k : Int) (n : Nat) (h0 : -(9223372036854775808 : Int) ≤ k) (h1 : k < 9223372036854775808) (h2 : n ≤ big) (x y : α) : (if -(2 ^ 63) ≤ k ∧ k < 2 ^ 63 ∧ n ≤ big then x else y) = x := if_pos ⟨by omega, by omega, h2⟩
theorem gOr_r {g g' : D → D → Option D} {x y : D} (h : g x y = none) : Dl.gOr g g' x y = g' x y := by simp [Dl.gOr, h]
theorem ixN_val {i : Nat} {fb : FE} {δ : Es} {d b r : D} (hi : δ[i]? = some (.val d)) (hb : fb δ = some (b, δ)) (h : gIx d b = some r) : fIxN i fb δ = some (r, δ) := by
  have : isOwn δ[i]? = false := by rw [hi]; rfl
  have v : fV i δ = some (d, δ) := by simp only [fV, hi]
  rw [fIxN, if_neg (by rw [this]; decide)]
  exact bin_eq v hb h
theorem cons1 {f : FE} {δ δ1 : Es} {d : D} (h : f δ = some (d, δ1)) : fCons f fNil δ = some ([d], δ1) := by
  simp only [fCons, h, Option.bind_some, fNil]
theorem gOr_l {g g' : D → D → Option D} {x y d : D} (h : g x y = some d) : Dl.gOr g g' x y = some d := by simp [Dl.gOr, h]
theorem cons2 {f g : FE} {δ δ1 δ2 : Es} {d e : D} (h1 : f δ = some (d, δ1)) (h2 : g δ1 = some (e, δ2)) : fCons f (fCons g fNil) δ = some ([d, e], δ2) := by
  simp only [fCons, h1, h2, Option.bind_some, fNil]
theorem par_eq {i j : Nat} {fa : FA} {δ δ1 : Es} {a b : D} (h : fa δ = some ([a, b], δ1)) : sPar i j fa δ = some (.nx ((δ1.set i (.val a)).set j (.val b))) := by
  simp only [sPar, h, Option.bind_some]
theorem set_eq {i : Nat} {fe : FE} {δ δ1 : Es} {a : D} (h : fe δ = some (a, δ1)) : sSet i fe δ = some (.nx (δ1.set i (.val a))) := by
  simp only [sSet, h, Option.map_some]
theorem make1 {c : Nat} {F : List D → Option (List D)} {fe : FE} {δ δ1 : Es} {x : D} {fs : List D} (h : fe δ = some (x, δ1)) (hF : F [x] = some fs) : fMake c F (gPos []) (fCons fe fNil) fNil δ = some (.obj c fs, δ1) := by
  simp only [fMake, fCons, fNil, h, Option.bind_some, gPos, List.append_nil, hF, Option.map_some]
theorem prop_eq {c : Nat} {F : List D → Option D} {fo : FE} {δ δ1 : Es} {fs : List D} {d : D} (h : fo δ = some (.obj c fs, δ1)) (hF : F [.obj c fs] = some d) : fProp c F fo δ = some (d, δ1) := by
  simp only [fProp, h, Option.bind_some, hF, Option.map_some, if_true]
theorem or_f {f g : FT} {δ δ1 : Es} (h : f δ = some (false, δ1)) : fOr f g δ = g δ1 := by
  simp only [fOr, h, Option.bind_some, Bool.false_eq_true, if_false]
theorem fB_eq {fe : FE} {δ δ1 : Es} {b : Bool} (h : fe δ = some (.bl b, δ1)) : fB fe δ = some (b, δ1) := by
  simp only [fB, h, Option.bind_some]
theorem sIf_f {c : FT} {a : FS} {δ δ1 : Es} (h : c δ = some (false, δ1)) : sIf c a sNil δ = some (.nx δ1) := by
  simp only [sIf, h, Option.bind_some, Bool.false_eq_true, if_false, sNil]
theorem fr_eq {fa : FA} {δ δ1 : Es} {ds : List D} (h : fa δ = some (ds, δ1)) : fFr fa δ = some (.lst ds, δ1) := by
  simp only [fFr, h, Option.map_some]
theorem sq_eq {fe : FE} {δ δ1 : Es} {ds : List D} (h : fe δ = some (.lst ds, δ1)) : fSq fe δ = some (ds, δ1) := by
  simp only [fSq, h, Option.bind_some]
theorem tup_eq {fa : FA} {δ δ1 : Es} {ds : List D} (h : fa δ = some (ds, δ1)) (hb : ds.length ≤ big) : fTup fa δ = some (.tup ds, δ1) := by
  simp only [fTup, h, Option.bind_some, hb, if_true]
theorem mk_bd {q t : Int} {n : Nat} (bt : Bd t n) : Bd (nrm t q).1 n := bt.le (nrm_le t q).1
theorem mk_bd2 {q t : Int} {n : Nat} (bq : Bd q n) : Bd (nrm t q).2 n := bq.le (nrm_le t q).2
theorem lst1 {f : FE} {δ δ1 : Es} {d : D} (h : f δ = some (d, δ1)) : fFr (fLst (fCons f fNil)) δ = some (.lst [d], δ1) := by
  have b : [d].length ≤ big := by show 1 ≤ big; decide
  exact fr_eq (by rw [fLst]; simp only [fCons, h, Option.bind_some, fNil]; exact if_pos b)
def BdR (ts : List Int) (n : Nat) : Prop := ∀ t, t ∈ ts → Bd t n
theorem bd0 {n : Nat} : Bd 0 n := Nat.two_pow_pos _
theorem call3 {F : List D → Option D} {fa fb fc : FE} {δ : Es} {a b c r : D} (ha : fa δ = some (a, δ)) (hb : fb δ = some (b, δ)) (hc : fc δ = some (c, δ)) (hF : F [a, b, c] = some r) : fCall F (gPos []) (fCons fa (fCons fb (fCons fc fNil))) fNil δ = some (r, δ) := by
  simp only [fCall, fCons, fNil, ha, hb, hc, Option.bind_some, Option.map_some, gPos, List.append_nil, hF]
theorem expr_eq {fe : FE} {δ δ1 : Es} {d : D} (h : fe δ = some (d, δ1)) : sExpr fe δ = some (.nx δ1) := by
  rw [sExpr, h]; rfl
theorem mapO_map {α : Type} {f g : α → D} {h : D → Option D} : ∀ {l : List α}, (∀ a, a ∈ l → h (f a) = some (g a)) → mapO h (l.map f) = some (l.map g)
  | [], _ => rfl
  | a :: l, hh => by simp only [List.map_cons, mapO, hh a (List.mem_cons_self ..), mapO_map (fun b hb => hh b (List.mem_cons_of_mem _ hb)), Option.bind_some, Option.map_some]
theorem lc_none {i : Nat} {fc : FT} {fe : FE} {δ : Es} (hi : δ[i]? = some .un) : ∀ (ds acc : List D), (∀ d, d ∈ ds → fc (δ.set i (.val d)) = some (false, δ.set i (.val d))) → lcF (gN i) fc fe [i] ds acc δ = some (acc, δ)
  | [], acc, _ => by simp [lcF]
  | d :: ds, acc, h => by
    have ih := lc_none (fc := fc) (fe := fe) hi ds acc fun x hx => h x (List.mem_cons_of_mem _ hx)
    simp only [lcF, gN, Option.bind_some, h d (List.mem_cons_self ..), Bool.false_eq_true, if_false, wipe1 hi, ih]
theorem flc_none {i : Nat} {fI : FA} {fc : FT} {fe : FE} {δ0 δ : Es} {ds : List D} (hI : fI δ0 = some (ds, δ)) (hi : δ[i]? = some .un) (h : ∀ d, d ∈ ds → fc (δ.set i (.val d)) = some (false, δ.set i (.val d))) : fLc fI (gN i) fc fe [i] δ0 = some ([], δ) := by
  simp only [fLc, hI, Option.bind_some, wipe0 hi]
  exact lc_none hi ds [] h
theorem and_ff {f g : FT} {δ δ1 : Es} (h : f δ = some (false, δ1)) : fAnd f g δ = some (false, δ1) := by
  simp only [fAnd, h, Option.bind_some, Bool.false_eq_true, if_false]
theorem and_tt {f g : FT} {δ δ1 : Es} (h : f δ = some (true, δ1)) : fAnd f g δ = g δ1 := by
  simp only [fAnd, h, Option.bind_some, if_true]
theorem ixO_val {i : Nat} {fb : FE} {δ : Es} {ds : List D} {j : Int} {r : D} (hi : δ[i]? = some (.own .mine ds)) (hb : fb δ = some (.int j, δ)) (h : atI ds j = some r) : fIxN i fb δ = some (r, δ) := by
  have o : isOwn δ[i]? = true := by rw [hi]; rfl
  rw [fIxN, if_pos o, fIxO, if_pos o, hb, Option.bind_some]
  dsimp only
  rw [hi]
  dsimp only
  show Option.map _ (atI ds j) = _
  rw [h]
  rfl
theorem intsD_cons (lo : Int) (k : Nat) : intsD lo (k + 1) = .int lo :: intsD (lo + 1) k := by
  unfold intsD
  rw [List.range_succ_eq_map, List.map_cons, List.map_map]
  have h1 : D.int (lo + ((0 : Nat) : Int)) = .int lo := by simp
  rw [h1]
  congr 1
  apply List.map_congr_left
  intro a _
  show D.int (lo + ((a + 1 : Nat) : Int)) = D.int (lo + 1 + (a : Int))
  congr 1
  omega
theorem make2 {c : Nat} {F : List D → Option (List D)} {fa fb : FE} {δ δ1 δ2 : Es} {x y : D} {fs : List D} (ha : fa δ = some (x, δ1)) (hb : fb δ1 = some (y, δ2)) (hF : F [x, y] = some fs) : fMake c F (gPos []) (fCons fa (fCons fb fNil)) fNil δ = some (.obj c fs, δ2) := by
  simp only [fMake, fCons, fNil, ha, hb, Option.bind_some, gPos, List.append_nil, hF, Option.map_some]
theorem at_last1 (as : List D) (b : D) : atI (as ++ [b]) (-1) = some b := by
  simp only [atI, ixN, List.length_append, List.length_cons, List.length_nil]
  rw [if_neg (by omega), if_pos (by omega), Option.bind_some]
  have e : (-1 + ((as.length + (0 + 1) : Nat) : Int)).toNat = as.length := by omega
  rw [e]
  simp
theorem own_eq {i : Nat} {fa : FA} {δ δ1 : Es} {ds : List D} (h : fa δ = some (ds, δ1)) : sOwn i fa δ = some (.nx (δ1.set i (.own .mine ds))) := by
  rw [sOwn, h]; rfl
theorem lst1f {f : FE} {δ δ1 : Es} {d : D} (h : f δ = some (d, δ1)) : fLst (fCons f fNil) δ = some ([d], δ1) := by
  have b : [d].length ≤ big := by show 1 ≤ big; decide
  rw [fLst, cons1 h, Option.bind_some]
  exact if_pos b
theorem cut_drop1 (ds : List D) : Dl.cutD ds (some 1) none = ds.drop 1 := by
  unfold Dl.cutD
  have e1 : HT.sIx ds.length 0 (some 1) = min 1 ds.length := HT.sIx_nat ds.length 0 1
  have e2 : HT.sIx ds.length ds.length none = ds.length := rfl
  rw [e1, e2]
  cases ds with
  | nil => rfl
  | cons d ds =>
    have : min 1 (d :: ds).length = 1 := by simp
    rw [this]
    exact List.take_of_length_le (by simp)
theorem not_f {f : FT} {δ δ1 : Es} (h : f δ = some (true, δ1)) : fNot f δ = some (false, δ1) := by
  rw [fNot, h]; rfl
theorem chain_eq {g g' : D → D → Option D} {fa fb fc : FE} {δ δ1 δ2 δ3 : Es} {x y z d : D} (ha : fa δ = some (x, δ1)) (hb : fb δ1 = some (y, δ2)) (hg : g x y = some (.bl true)) (hc : fc δ2 = some (z, δ3)) (hg' : g' y z = some d) : fChain g g' fa fb fc δ = some (d, δ3) := by
  rw [fChain, ha, Option.bind_some]
  dsimp only
  rw [hb, Option.bind_some]
  dsimp only
  rw [hg]
  dsimp only
  rw [hc, Option.bind_some]
  dsimp only
  rw [hg']
  rfl
def txtP (p q : Int) : Str := Str.ofString "Ratio(" ++ Str.ofString (toString p) ++ Str.ofString ", " ++ Str.ofString (toString q) ++ Str.ofString ")"
theorem call2s {F : List D → Option D} {fa fb : FE} {δ δ1 δ2 : Es} {a b r : D} (ha : fa δ = some (a, δ1)) (hb : fb δ1 = some (b, δ2)) (hF : F [a, b] = some r) : fCall F (gPos []) (fCons fa (fCons fb fNil)) fNil δ = some (r, δ2) := by
  simp only [fCall, fCons, fNil, ha, hb, Option.bind_some, Option.map_some, gPos, List.append_nil, hF]
theorem callK2 {F : List D → Option D} {fa fb : FE} {δ : Es} {a b r : D} (ha : fa δ = some (a, δ)) (hb : fb δ = some (b, δ)) (hF : F [b, a] = some r) : fCall F (gSel [1, 0]) fNil (fCons fa (fCons fb fNil)) δ = some (r, δ) := by
  simp only [fCall, fCons, fNil, ha, hb, Option.bind_some]
  show (F [b, a]).map _ = _
  rw [hF]; rfl
theorem cons3 {f g h : FE} {δ δ1 δ2 δ3 : Es} {a b c : D} (h1 : f δ = some (a, δ1)) (h2 : g δ1 = some (b, δ2)) (h3 : h δ2 = some (c, δ3)) : fCons f (fCons g (fCons h fNil)) δ = some ([a, b, c], δ3) := by
  simp only [fCons, h1, h2, h3, Option.bind_some, fNil]
theorem par3_eq {i j k : Nat} {fa : FA} {δ δ1 : Es} {a b c : D} (h : fa δ = some ([a, b, c], δ1)) : sPar3 i j k fa δ = some (.nx (((δ1.set i (.val a)).set j (.val b)).set k (.val c))) := by
  rw [sPar3, h]; rfl
theorem if_eq {c : FT} {f g : FE} {δ δ1 : Es} {b : Bool} (h : c δ = some (b, δ1)) : fIf c f g δ = if b = true then f δ1 else g δ1 := by
  rw [fIf, h]; rfl
theorem mul_okB {x y : Int} (h : Bd x 400000) (k : Bd y 400000) : okMulB x y = true := by
  unfold okMulB
  rw [Bool.and_eq_true]
  exact ⟨decide_eq_true h, decide_eq_true k⟩
theorem div_okB {x : Int} (y : Int) (h : x ≠ 0) (k : Bd x 8900) : okDivB y x = true := by
  unfold okDivB
  rw [Bool.and_eq_true]
  exact ⟨decide_eq_true h, decide_eq_true k⟩
theorem gI_of {C : Int → Int → Bool} {k : Int → Int → D} {i j : Int} (h : C i j = true) : gI C k (.int i) (.int j) = some (k i j) := by
  show (if C i j = true then some (k i j) else none) = _
  rw [if_pos h]
abbrev gMB : D → D → Option D := gOr (gI okMulB fun i j => .int (i * j)) gRep
theorem gMB_int {i j : Int} (hi : Bd i 400000) (hj : Bd j 400000) : gMB (.int i) (.int j) = some (.int (i * j)) := gOr_l (gI_of (mul_okB hi hj))
theorem gDB_int {i j : Int} (hj : j ≠ 0) (kj : Bd j 8900) : (gI okDivB fun i j => .int (i.fdiv j)) (.int i) (.int j) = some (.int (i.fdiv j)) := gI_of (div_okB i hj kj)
theorem p_init {t b : Int} (h : b ≠ 0) (k : Bd b 8900) : G_Ratio_init [.int t, .int b] = some [.int (nrm t b).1, .int (nrm t b).2] := if_pos ⟨h, k⟩
theorem add0_int (i j : Int) : gAdd0 (.int i) (.int j) = some (.int (i + j)) := rfl
end My
namespace My
/-! sums, spans, systems in steps, over the rational numbers -/
def sm : Nat → (Nat → Rat) → Rat
  | 0, _ => 0
  | n + 1, f => sm n f + f n
theorem sm_zero {n : Nat} {f : Nat → Rat} (h : ∀ i, i < n → f i = 0) : sm n f = 0 := by
  induction n with
  | zero => rfl
  | succ n ih =>
    rw [sm, ih (fun i hi => h i (by omega)), h n (by omega)]
    grind
theorem sm_congr {n : Nat} {f g : Nat → Rat} (h : ∀ i, i < n → f i = g i) : sm n f = sm n g := by
  induction n with
  | zero => rfl
  | succ n ih => rw [sm, sm, ih (fun i hi => h i (by omega)), h n (by omega)]
theorem sm_add (n : Nat) (f g : Nat → Rat) : sm n (fun i => f i + g i) = sm n f + sm n g := by
  induction n with
  | zero => simp only [sm]; grind
  | succ n ih => rw [sm, sm, sm, ih]; grind
theorem sm_mul (n : Nat) (c : Rat) (f : Nat → Rat) : sm n (fun i => c * f i) = c * sm n f := by
  induction n with
  | zero => simp [sm]
  | succ n ih => rw [sm, sm, ih]; grind
theorem sm_one {n : Nat} {f : Nat → Rat} {a : Nat} (ha : a < n) (h : ∀ i, i < n → i ≠ a → f i = 0) : sm n f = f a := by
  induction n with
  | zero => omega
  | succ n ih =>
    rw [sm]
    by_cases e : a = n
    · subst e
      rw [sm_zero (fun i hi => h i (by omega) (by omega))]
      grind
    · rw [ih (by omega) (fun i hi ne => h i (by omega) ne), h n (by omega) (by omega)]
      grind
theorem sm_swap (n m : Nat) (f : Nat → Nat → Rat) : sm n (fun i => sm m (f i)) = sm m (fun j => sm n (fun i => f i j)) := by
  induction n with
  | zero => exact (sm_zero (fun _ _ => rfl)).symm
  | succ n ih => simp only [sm]; rw [ih, sm_add]
theorem sm_const (n : Nat) : sm n (fun _ => 1) = (n : Rat) := by
  induction n with
  | zero => rfl
  | succ n ih => rw [sm, ih]; push_cast; rfl
abbrev Vec := Nat → Rat
/-- made of a set of rows -/
inductive Sp (A : Vec → Prop) : Vec → Prop
  | zero : Sp A (fun _ => 0)
  | step {v a : Vec} (c : Rat) (h : A a) (hv : Sp A v) : Sp A (fun j => v j + c * a j)
theorem Sp.of_eq {A : Vec → Prop} {v w : Vec} (h : Sp A v) (e : ∀ j, v j = w j) : Sp A w := by
  have : v = w := funext e
  exact this ▸ h
theorem Sp.mem {A : Vec → Prop} {a : Vec} (h : A a) : Sp A a := (Sp.step 1 h Sp.zero).of_eq fun j => by grind
theorem Sp.add {A : Vec → Prop} {v w : Vec} (hv : Sp A v) (hw : Sp A w) : Sp A (fun j => v j + w j) := by
  induction hw with
  | zero => exact hv.of_eq fun j => by grind
  | step c h _ ih => exact (Sp.step c h ih).of_eq fun j => by grind
theorem Sp.smul {A : Vec → Prop} {v : Vec} (c : Rat) (hv : Sp A v) : Sp A (fun j => c * v j) := by
  induction hv with
  | zero => exact Sp.zero.of_eq fun j => by grind
  | step d h _ ih => exact (Sp.step (c * d) h ih).of_eq fun j => by grind
theorem Sp.sub {A : Vec → Prop} {v w : Vec} (hv : Sp A v) (hw : Sp A w) : Sp A (fun j => v j - w j) := (hv.add (hw.smul (-1))).of_eq fun j => by grind
theorem Sp.mono {A B : Vec → Prop} {v : Vec} (hv : Sp A v) (h : ∀ a, A a → Sp B a) : Sp B v := by
  induction hv with
  | zero => exact .zero
  | step c ha _ ih => exact (ih.add ((h _ ha).smul c)).of_eq fun j => by grind
/-- linear conditions pass on to what is made of rows -/
theorem Sp.lin {A : Vec → Prop} {v : Vec} (hv : Sp A v) (F : Vec → Rat) (h0 : F (fun _ => 0) = 0) (hs : ∀ v a c, F v = 0 → F a = 0 → F (fun j => v j + c * a j) = 0) (h : ∀ a, A a → F a = 0) : F v = 0 := by
  induction hv with
  | zero => exact h0
  | step c ha _ ih => exact hs _ _ c ih (h _ ha)
/-- the rows of a system: heads that belong to one row alone -/
structure Hd (k : Nat) (h : Nat → Nat) (E : Nat → Vec) : Prop where
  one : ∀ i, i < k → E i (h i) = 1
  zer : ∀ i j, i < k → j < k → i ≠ j → E i (h j) = 0
abbrev Ro (k : Nat) (E : Nat → Vec) : Vec → Prop := fun v => ∃ i, i < k ∧ v = E i
theorem Hd.exp {k : Nat} {h : Nat → Nat} {E : Nat → Vec} (H : Hd k h E) {v : Vec} (hv : Sp (Ro k E) v) (c : Nat) : v c = sm k (fun i => v (h i) * E i c) := by
  induction hv with
  | zero => exact (sm_zero (fun i _ => by grind)).symm
  | @step v a d ha _ ih =>
    obtain ⟨b, hb, rfl⟩ := ha
    have e : E b c = sm k (fun i => E b (h i) * E i c) := by
      rw [sm_one hb (fun i hi ne => by rw [H.zer b i hb hi (Ne.symm ne)]; grind), H.one b hb]
      grind
    have e2 : sm k (fun i => (v (h i) + d * E b (h i)) * E i c) = sm k (fun i => v (h i) * E i c) + d * sm k (fun i => E b (h i) * E i c) := by
      rw [← sm_mul, ← sm_add]
      exact sm_congr fun i _ => by grind
    show v c + d * E b c = _
    rw [e2, ← ih, ← e]
theorem sp_sum {A : Vec → Prop} : ∀ (k : Nat) (c : Nat → Rat) (E : Nat → Vec), (∀ i, i < k → Sp A (E i)) → Sp A (fun j => sm k (fun i => c i * E i j))
  | 0, _, _, _ => Sp.zero.of_eq fun j => rfl
  | k + 1, c, E, h => ((sp_sum k c E (fun i hi => h i (by omega))).add ((h k (by omega)).smul (c k))).of_eq fun j => rfl
/-- two systems of the same span have as many rows -/
theorem Hd.count {k k' : Nat} {h h' : Nat → Nat} {E E' : Nat → Vec} (H : Hd k h E) (H' : Hd k' h' E') (a : ∀ i, i < k → Sp (Ro k' E') (E i)) (b : ∀ i, i < k' → Sp (Ro k E) (E' i)) : k = k' := by
  have e1 : (k : Rat) = sm k (fun i => sm k' (fun j => E i (h' j) * E' j (h i))) := by
    rw [← sm_const]
    exact sm_congr fun i hi => by rw [← H.one i hi]; exact H'.exp (a i hi) (h i)
  have e2 : (k' : Rat) = sm k' (fun j => sm k (fun i => E' j (h i) * E i (h' j))) := by
    rw [← sm_const]
    exact sm_congr fun j hj => by rw [← H'.one j hj]; exact H.exp (b j hj) (h' j)
  have e3 : sm k (fun i => sm k' (fun j => E i (h' j) * E' j (h i))) = sm k' (fun j => sm k (fun i => E' j (h i) * E i (h' j))) := by
    rw [sm_swap]
    exact sm_congr fun j _ => sm_congr fun i _ => by grind
  have e : (k : Rat) = (k' : Rat) := by rw [e1, e2, e3]
  exact_mod_cast e
/-- systems in steps -/
structure St (k : Nat) (h : Nat → Nat) (E : Nat → Vec) : Prop where
  hd : Hd k h E
  asc : ∀ i j, i < j → j < k → h i < h j
  lo : ∀ i, i < k → ∀ c, c < h i → E i c = 0
theorem least_ex {k : Nat} {P : Nat → Prop} [DecidablePred P] (h : ∃ i, i < k ∧ P i) : ∃ i, i < k ∧ P i ∧ ∀ j, j < i → ¬ P j := by
  induction k with
  | zero => obtain ⟨i, hi, _⟩ := h; omega
  | succ k ih =>
    by_cases c : ∃ i, i < k ∧ P i
    · obtain ⟨i, a, b, d⟩ := ih c
      exact ⟨i, by omega, b, d⟩
    · obtain ⟨i, hi, p⟩ := h
      have : i = k := by
        by_cases e : i < k
        · exact absurd ⟨i, e, p⟩ c
        · omega
      subst this
      exact ⟨i, hi, p, fun j hj q => c ⟨j, hj, q⟩⟩
theorem St.head {k : Nat} {h : Nat → Nat} {E : Nat → Vec} (H : St k h E) {v : Vec} (hv : Sp (Ro k E) v) {c0 : Nat} (nz : v c0 ≠ 0) : ∃ i, i < k ∧ v (h i) ≠ 0 ∧ ∀ c, c < h i → v c = 0 := by
  have ex : ∃ i, i < k ∧ v (h i) ≠ 0 := Classical.byContradiction fun n => nz (by
    rw [H.hd.exp hv c0]
    exact sm_zero fun i hi => by
      have : v (h i) = 0 := Classical.byContradiction fun z => n ⟨i, hi, z⟩
      rw [this]; grind)
  obtain ⟨i, hi, p, mn⟩ := least_ex (P := fun i => v (h i) ≠ 0) ex
  refine ⟨i, hi, p, fun c hc => ?_⟩
  rw [H.hd.exp hv c]
  exact sm_zero fun j hj => by
    by_cases e : j < i
    · have : v (h j) = 0 := Classical.byContradiction fun z => mn j e z
      rw [this]; grind
    · have : c < h j := by
        by_cases e2 : j = i
        · rw [e2]; exact hc
        · exact Nat.lt_trans hc (H.asc i j (by omega) hj)
      rw [H.lo j hj c this]; grind
theorem head_uniq {v : Vec} {a b : Nat} (ha : v a ≠ 0) (la : ∀ c, c < a → v c = 0) (hb : v b ≠ 0) (lb : ∀ c, c < b → v c = 0) : a = b := by
  rcases Nat.lt_trichotomy a b with h | h | h
  · exact absurd (lb a h) ha
  · exact h
  · exact absurd (la b h) hb
theorem one_ne : (1 : Rat) ≠ 0 := by decide
theorem St.in {k k' : Nat} {h h' : Nat → Nat} {E E' : Nat → Vec} (H : St k h E) (H' : St k' h' E') (a : ∀ i, i < k → Sp (Ro k' E') (E i)) (i : Nat) (hi : i < k) : ∃ j, j < k' ∧ h' j = h i := by
  have nz : E i (h i) ≠ 0 := by rw [H.hd.one i hi]; exact one_ne
  obtain ⟨j, hj, p, lo⟩ := H'.head (a i hi) nz
  exact ⟨j, hj, head_uniq p lo nz (H.lo i hi)⟩
theorem St.heads {k k' : Nat} {h h' : Nat → Nat} {E E' : Nat → Vec} (H : St k h E) (H' : St k' h' E') (a : ∀ i, i < k → Sp (Ro k' E') (E i)) (b : ∀ i, i < k' → Sp (Ro k E) (E' i)) : ∀ n i, i < n → i < k → i < k' ∧ h i = h' i
  | 0, i, hn, _ => by omega
  | n + 1, i, hn, hi => by
    have ih := St.heads H H' a b n
    by_cases c : i < n
    · exact ih i c hi
    · obtain ⟨j, hj, ej⟩ := H.in H' a i hi
      have ge : i ≤ j := by
        by_cases g : i ≤ j
        · exact g
        · have := (ih j (by omega) (by omega)).2
          have := H.asc j i (by omega) hi
          omega
      have hi' : i < k' := by omega
      obtain ⟨l, hl, el⟩ := H'.in H b i hi'
      have ge2 : i ≤ l := by
        by_cases g : i ≤ l
        · exact g
        · have := (ih l (by omega) hl).2
          have := H'.asc l i (by omega) hi'
          omega
      refine ⟨hi', ?_⟩
      have m1 : h i ≤ h l := by
        by_cases e : i = l
        · rw [e]; exact Nat.le_refl _
        · exact Nat.le_of_lt (H.asc i l (by omega) hl)
      have m2 : h' i ≤ h' j := by
        by_cases e : i = j
        · rw [e]; exact Nat.le_refl _
        · exact Nat.le_of_lt (H'.asc i j (by omega) hj)
      omega
/-- two systems in steps of the same span are the same -/
theorem St.uniq {k k' : Nat} {h h' : Nat → Nat} {E E' : Nat → Vec} (H : St k h E) (H' : St k' h' E') (a : ∀ i, i < k → Sp (Ro k' E') (E i)) (b : ∀ i, i < k' → Sp (Ro k E) (E' i)) : k = k' ∧ ∀ i, i < k → ∀ c, E i c = E' i c := by
  have ek := H.hd.count H'.hd a b
  subst ek
  refine ⟨rfl, fun i hi c => ?_⟩
  rw [H.hd.exp (b i hi) c, sm_one hi (fun j hj ne => ?_)]
  · rw [(H.heads H' a b (i + 1) i (by omega) hi).2, H'.hd.one i hi]
    grind
  · rw [(H.heads H' a b (j + 1) j (by omega) hj).2, H'.hd.zer i j hi hj (Ne.symm ne)]
    grind
end My
namespace My
/-! rows that lead to nought -/
abbrev dot (w : Nat) (v u : Vec) : Rat := sm w (fun c => v c * u c)
theorem dot_lin (w : Nat) (u : Vec) {A : Vec → Prop} {v : Vec} (hv : Sp A v) (h : ∀ a, A a → dot w a u = 0) : dot w v u = 0 :=
  hv.lin (fun v => dot w v u) (sm_zero fun i _ => by grind) (fun v a c e1 e2 => by
    have e : dot w (fun j => v j + c * a j) u = dot w v u + c * dot w a u := by
      show sm w _ = sm w _ + c * sm w _
      rw [← sm_mul, ← sm_add]
      exact sm_congr fun i _ => by grind
    rw [e, e1, e2]; grind) h
theorem dot_comm (w : Nat) (v u : Vec) : dot w v u = dot w u v := sm_congr fun i _ => by grind
/-- heads and free columns, of a system mirrored -/
structure Kr (w k : Nat) (g : Nat → Nat) (F : Nat → Vec) (n : Nat) (fr : Nat → Nat) (K : Nat → Vec) : Prop where
  hd : Hd k g F
  gw : ∀ i, i < k → g i < w
  hi : ∀ i, i < k → ∀ c, g i < c → F i c = 0
  frw : ∀ a, a < n → fr a < w
  asc : ∀ a b, a < b → b < n → fr a < fr b
  free : ∀ a, a < n → ∀ i, i < k → g i ≠ fr a
  all : ∀ c, c < w → (∀ i, i < k → g i ≠ c) → ∃ a, a < n ∧ fr a = c
  k1 : ∀ a, a < n → K a (fr a) = 1
  k2 : ∀ a, a < n → ∀ i, i < k → K a (g i) = - F i (fr a)
  k3 : ∀ a, a < n → ∀ c, c ≠ fr a → (∀ i, i < k → g i ≠ c) → K a c = 0
section
variable {w k : Nat} {g : Nat → Nat} {F : Nat → Vec} {n : Nat} {fr : Nat → Nat} {K : Nat → Vec}
theorem Hd.inj {k : Nat} {h : Nat → Nat} {E : Nat → Vec} (H : Hd k h E) {i j : Nat} (hi : i < k) (hj : j < k) (e : h i = h j) : i = j := Classical.byContradiction fun ne => by
  have a := H.zer i j hi hj ne
  rw [← e, H.one i hi] at a
  exact one_ne a
theorem Kr.frinj (R : Kr w k g F n fr K) {a b : Nat} (ha : a < n) (hb : b < n) (e : fr a = fr b) : a = b := by
  rcases Nat.lt_trichotomy a b with h | h | h
  · have := R.asc a b h hb; omega
  · exact h
  · have := R.asc b a h ha; omega
theorem Kr.lt (R : Kr w k g F n fr K) {i c : Nat} (hi : i < k) (hc : w ≤ c) : F i c = 0 := R.hi i hi c (Nat.lt_of_lt_of_le (R.gw i hi) hc)
theorem Kr.split (R : Kr w k g F n fr K) (x : Vec) : sm w x = sm k (fun i => x (g i)) + sm n (fun a => x (fr a)) := by
  have cov : ∀ c, c < w → sm k (fun i => if g i = c then 1 else 0) + sm n (fun a => if fr a = c then 1 else 0) = (1 : Rat) := fun c hc => by
    by_cases h : ∃ i, i < k ∧ g i = c
    · obtain ⟨i, hi, rfl⟩ := h
      rw [sm_one hi (fun j hj ne => if_neg fun e => ne (R.hd.inj hj hi e)), sm_zero (fun a ha => if_neg fun e => R.free a ha i hi e.symm)]
      rw [if_pos rfl]; grind
    · obtain ⟨a, ha, rfl⟩ := R.all c hc fun i hi e => h ⟨i, hi, e⟩
      rw [sm_one ha (fun b hb ne => if_neg fun e => ne (R.frinj hb ha e)), sm_zero (fun i hi => if_neg fun e => h ⟨i, hi, e⟩)]
      rw [if_pos rfl]; grind
  have e1 : sm k (fun i => x (g i)) = sm w (fun c => x c * sm k (fun i => if g i = c then 1 else 0)) := by
    have : sm w (fun c => x c * sm k (fun i => if g i = c then 1 else 0)) = sm w (fun c => sm k (fun i => x c * (if g i = c then 1 else 0))) := sm_congr fun c _ => (sm_mul _ _ _).symm
    rw [this, sm_swap]
    exact sm_congr fun i hi => by
      rw [sm_one (R.gw i hi) (fun c _ ne => by rw [if_neg (Ne.symm ne)]; grind), if_pos rfl]
      grind
  have e2 : sm n (fun a => x (fr a)) = sm w (fun c => x c * sm n (fun a => if fr a = c then 1 else 0)) := by
    have : sm w (fun c => x c * sm n (fun a => if fr a = c then 1 else 0)) = sm w (fun c => sm n (fun a => x c * (if fr a = c then 1 else 0))) := sm_congr fun c _ => (sm_mul _ _ _).symm
    rw [this, sm_swap]
    exact sm_congr fun a ha => by
      rw [sm_one (R.frw a ha) (fun c _ ne => by rw [if_neg (Ne.symm ne)]; grind), if_pos rfl]
      grind
  rw [e1, e2, ← sm_add]
  exact sm_congr fun c hc => by
    have := cov c hc
    grind
theorem Kr.many (R : Kr w k g F n fr K) : k + n = w := by
  have h := R.split (fun _ => 1)
  rw [sm_const, sm_const, sm_const] at h
  have : ((k + n : Nat) : Rat) = (w : Rat) := by push_cast; exact h.symm
  exact_mod_cast this
theorem Kr.st (R : Kr w k g F n fr K) : St n fr K where
  hd := ⟨R.k1, fun a b ha hb ne => R.k3 a ha (fr b) (fun e => ne (R.frinj ha hb e.symm)) (fun i hi => R.free b hb i hi)⟩
  asc := R.asc
  lo := fun a ha c hc => by
    by_cases h : ∃ i, i < k ∧ g i = c
    · obtain ⟨i, hi, rfl⟩ := h
      rw [R.k2 a ha i hi, R.hi i hi _ hc]
      grind
    · exact R.k3 a ha c (by omega) fun i hi e => h ⟨i, hi, e⟩
theorem Kr.dot (R : Kr w k g F n fr K) (v : Vec) {a : Nat} (ha : a < n) : dot w v (K a) = v (fr a) - sm k (fun i => v (g i) * F i (fr a)) := by
  have h := R.split (fun c => v c * K a c)
  have e1 : sm k (fun i => v (g i) * K a (g i)) = -1 * sm k (fun i => v (g i) * F i (fr a)) := by
    rw [← sm_mul]
    exact sm_congr fun i hi => by rw [R.k2 a ha i hi]; grind
  have e2 : sm n (fun b => v (fr b) * K a (fr b)) = v (fr a) := by
    rw [sm_one ha (fun b hb ne => by rw [R.st.hd.zer a b ha hb (Ne.symm ne)]; grind), R.k1 a ha]
    grind
  show sm w _ = _
  rw [h, e1, e2]
  grind
/-- what is made of the rows leads to nought -/
theorem Kr.orth (R : Kr w k g F n fr K) {v : Vec} (hv : Sp (Ro k F) v) {a : Nat} (ha : a < n) : My.dot w v (K a) = 0 := by
  rw [R.dot v ha, R.hd.exp hv (fr a)]
  have : sm k (fun i => v (g i) * F i (fr a)) = sm k (fun i => v (g i) * F i (fr a)) := rfl
  grind
/-- what leads all to nought is made of the rows -/
theorem Kr.back (R : Kr w k g F n fr K) {u : Vec} (hw : ∀ c, w ≤ c → u c = 0) (h : ∀ a, a < n → My.dot w u (K a) = 0) : Sp (Ro k F) u := by
  refine (sp_sum k (fun i => u (g i)) F fun i hi => Sp.mem ⟨i, hi, rfl⟩).of_eq fun c => ?_
  by_cases hc : c < w
  · by_cases hh : ∃ j, j < k ∧ g j = c
    · obtain ⟨j, hj, rfl⟩ := hh
      rw [sm_one hj (fun i hi ne => by rw [R.hd.zer i j hi hj ne]; grind), R.hd.one j hj]
      grind
    · obtain ⟨a, ha, rfl⟩ := R.all c hc fun i hi e => hh ⟨i, hi, e⟩
      have := h a ha
      rw [R.dot u ha] at this
      grind
  · rw [hw c (by omega)]
    exact sm_zero fun i hi => by rw [R.lt hi (by omega)]; grind
/-- what all rows lead to nought is made of the kernel's rows -/
theorem Kr.full (R : Kr w k g F n fr K) (Kw : ∀ a, a < n → ∀ c, w ≤ c → K a c = 0) {u : Vec} (hw : ∀ c, w ≤ c → u c = 0) (h : ∀ i, i < k → My.dot w (F i) u = 0) : Sp (Ro n K) u := by
  refine (sp_sum n (fun a => u (fr a)) K fun a ha => Sp.mem ⟨a, ha, rfl⟩).of_eq fun c => ?_
  by_cases hc : c < w
  · by_cases hh : ∃ j, j < k ∧ g j = c
    · obtain ⟨j, hj, rfl⟩ := hh
      have s := h j hj
      rw [show My.dot w (F j) u = sm w (fun c => F j c * u c) from rfl, R.split] at s
      rw [sm_one hj (fun i hi ne => by rw [R.hd.zer j i hj hi (Ne.symm ne)]; grind), R.hd.one j hj] at s
      have e : sm n (fun a => u (fr a) * K a (g j)) = -1 * sm n (fun a => F j (fr a) * u (fr a)) := by
        rw [← sm_mul]
        exact sm_congr fun a ha => by rw [R.k2 a ha j hj]; grind
      rw [e]
      grind
    · obtain ⟨a, ha, rfl⟩ := R.all c hc fun i hi e => hh ⟨i, hi, e⟩
      rw [sm_one ha (fun b hb ne => by rw [R.st.hd.zer b a hb ha ne]; grind), R.k1 a ha]
      grind
  · rw [hw c (by omega)]
    exact sm_zero fun a ha => by rw [Kw a ha c (by omega)]; grind
end
/-! rows kept one by one -/
theorem Hd.more {r : Nat} {e : Nat → Nat} {G : Nat → Vec} (H : Hd r e G) {v : Vec} {c : Nat} (hc : v c ≠ 0) (hz : ∀ i, i < r → v (e i) = 0) : ∃ G' : Nat → Vec, Hd (r + 1) (fun i => if i < r then e i else c) G' ∧ (∀ i, i < r + 1 → Sp (fun a => Ro r G a ∨ a = v) (G' i)) ∧ (∀ a, (Ro r G a ∨ a = v) → Sp (Ro (r + 1) G') a) := by
  let u : Vec := fun j => (1 / v c) * v j
  have uc : u c = 1 := by show (1 / v c) * v c = 1; grind
  have uz : ∀ i, i < r → u (e i) = 0 := fun i hi => by show (1 / v c) * v (e i) = 0; rw [hz i hi]; grind
  let G' : Nat → Vec := fun i => if i < r then (fun j => G i j - G i c * u j) else u
  have g1 : ∀ i, i < r → G' i = fun j => G i j - G i c * u j := fun i hi => if_pos hi
  have g2 : G' r = u := if_neg (by omega)
  refine ⟨G', ⟨fun i hi => ?_, fun i j hi hj ne => ?_⟩, fun i hi => ?_, fun a ha => ?_⟩
  · by_cases h : i < r
    · rw [g1 i h, if_pos h]
      show G i (e i) - G i c * u (e i) = 1
      rw [H.one i h, uz i h]; grind
    · have : i = r := by omega
      subst this
      rw [g2, if_neg h, uc]
  · by_cases h : i < r
    · rw [g1 i h]
      by_cases h2 : j < r
      · rw [if_pos h2]
        show G i (e j) - G i c * u (e j) = 0
        rw [H.zer i j h h2 ne, uz j h2]; grind
      · rw [if_neg h2]
        show G i c - G i c * u c = 0
        rw [uc]; grind
    · have : i = r := by omega
      subst this
      have h2 : j < i := by omega
      rw [g2, if_pos h2, uz j h2]
  · have hv : Sp (fun a => Ro r G a ∨ a = v) u := (Sp.mem (.inr rfl)).smul (1 / v c)
    by_cases h : i < r
    · rw [g1 i h]
      exact (Sp.mem (.inl ⟨i, h, rfl⟩)).sub (hv.smul (G i c))
    · have : i = r := by omega
      subst this
      rw [g2]; exact hv
  · have hu : Sp (Ro (r + 1) G') u := Sp.mem ⟨r, by omega, g2.symm⟩
    rcases ha with ⟨i, hi, rfl⟩ | rfl
    · have := Sp.mem (A := Ro (r + 1) G') ⟨i, by omega, rfl⟩
      rw [g1 i hi] at this
      exact (this.add (hu.smul (G i c))).of_eq fun j => by grind
    · exact (hu.smul (a c)).of_eq fun j => by
        show a c * ((1 / a c) * a j) = a j
        grind
end My
namespace My
/-! determinants of lists of rows, and that the sweeping divides without rest -/
abbrev ZV := Nat → Int
def ex (c : Nat) (f : List ZV → Int) : List ZV → List ZV → Int
  | _, [] => 0
  | P, x :: xs => x c * f (P ++ xs) - ex c f (P ++ [x]) xs
def det : List Nat → List ZV → Int
  | [], [] => 1
  | [], _ :: _ => 0
  | c :: cs, rows => ex c (det cs) [] rows
abbrev cmb (a b : Int) (x y : ZV) : ZV := fun j => a * x j + b * y j
def Lin (f : List ZV → Int) : Prop := ∀ (A B : List ZV) (a b : Int) (x y : ZV), f (A ++ cmb a b x y :: B) = a * f (A ++ x :: B) + b * f (A ++ y :: B)
def Asy (f : List ZV → Int) : Prop := ∀ (A B : List ZV) (x y : ZV), f (A ++ x :: y :: B) = - f (A ++ y :: x :: B)
theorem ex_pre_lin {c : Nat} {f : List ZV → Int} (h : Lin f) (a b : Int) (x y : ZV) : ∀ (B P1 P2 : List ZV), ex c f (P1 ++ cmb a b x y :: P2) B = a * ex c f (P1 ++ x :: P2) B + b * ex c f (P1 ++ y :: P2) B
  | [], _, _ => by simp [ex]
  | z :: B, P1, P2 => by
    have ih := ex_pre_lin (c := c) h a b x y B P1 (P2 ++ [z])
    have hf := h P1 (P2 ++ B) a b x y
    simp only [ex, List.append_assoc, List.cons_append] at ih hf ⊢
    rw [ih, hf]
    grind
theorem ex_lin {c : Nat} {f : List ZV → Int} (h : Lin f) (a b : Int) (x y : ZV) (B : List ZV) : ∀ (A P : List ZV), ex c f P (A ++ cmb a b x y :: B) = a * ex c f P (A ++ x :: B) + b * ex c f P (A ++ y :: B)
  | [], P => by
    have e := ex_pre_lin (c := c) h a b x y B P []
    simp only [List.nil_append, ex] at e ⊢
    rw [e]
    show (a * x c + b * y c) * _ - _ = _
    grind
  | z :: A, P => by
    have ih := ex_lin (c := c) h a b x y B A (P ++ [z])
    have hf := h (P ++ A) B a b x y
    simp only [List.cons_append, ex, List.append_assoc] at ih hf ⊢
    rw [ih, hf]
    grind
theorem ex_pre_asy {c : Nat} {f : List ZV → Int} (h : Asy f) (x y : ZV) : ∀ (B P1 P2 : List ZV), ex c f (P1 ++ x :: y :: P2) B = - ex c f (P1 ++ y :: x :: P2) B
  | [], _, _ => by simp [ex]
  | z :: B, P1, P2 => by
    have ih := ex_pre_asy (c := c) h x y B P1 (P2 ++ [z])
    have hf := h P1 (P2 ++ B) x y
    simp only [ex, List.append_assoc, List.cons_append] at ih hf ⊢
    rw [ih, hf]
    grind
theorem ex_asy {c : Nat} {f : List ZV → Int} (h : Asy f) (x y : ZV) (B : List ZV) : ∀ (A P : List ZV), ex c f P (A ++ x :: y :: B) = - ex c f P (A ++ y :: x :: B)
  | [], P => by
    have e := ex_pre_asy (c := c) h x y B P []
    simp only [List.nil_append, ex, List.append_assoc, List.cons_append] at e ⊢
    rw [e]
    grind
  | z :: A, P => by
    have ih := ex_asy (c := c) h x y B A (P ++ [z])
    have hf := h (P ++ A) B x y
    simp only [List.cons_append, ex, List.append_assoc] at ih hf ⊢
    rw [ih, hf]
    grind
theorem det_lin : ∀ cs : List Nat, Lin (det cs)
  | [] => fun A B a b x y => by
    have e : ∀ z : ZV, det [] (A ++ z :: B) = 0 := fun z => by cases A <;> rfl
    rw [e, e, e]
    simp
  | c :: cs => fun A B a b x y => ex_lin (det_lin cs) a b x y B A []
theorem det_asy : ∀ cs : List Nat, Asy (det cs)
  | [] => fun A B x y => by
    have e : ∀ z w : ZV, det [] (A ++ z :: w :: B) = 0 := fun z w => by cases A <;> rfl
    rw [e, e]
    simp
  | c :: cs => fun A B x y => ex_asy (det_asy cs) x y B A []
/-- a row brought to the front -/
theorem det_front (cs : List Nat) (a : ZV) (B : List ZV) : ∀ A C : List ZV, det cs (C ++ A ++ a :: B) = det cs (C ++ a :: (A ++ B)) ∨ det cs (C ++ A ++ a :: B) = - det cs (C ++ a :: (A ++ B)) := fun A => by
  induction A with
  | nil => intro C; left; simp
  | cons z A ih =>
    intro C
    have e := det_asy cs C (A ++ B) z a
    have h := ih (C ++ [z])
    simp only [List.append_assoc, List.cons_append, List.nil_append] at h ⊢
    rcases h with h | h
    · right; rw [h, e]
    · left; rw [h, e]; grind
theorem det_twice (cs : List Nat) (a : ZV) (A B : List ZV) : det cs (a :: (A ++ a :: B)) = 0 := by
  have e := det_asy cs [] (A ++ B) a a
  have z : det cs (a :: a :: (A ++ B)) = 0 := by
    simp only [List.nil_append] at e
    omega
  rcases det_front cs a B A [a] with h | h
  · simp only [List.cons_append, List.nil_append] at h
    rw [h, z]
  · simp only [List.cons_append, List.nil_append] at h
    rw [h, z]; rfl
theorem det_zero (cs : List Nat) (A B : List ZV) : det cs (A ++ (fun _ => 0) :: B) = 0 := by
  have e := det_lin cs A B 0 0 (fun _ => 0) (fun _ => 0)
  have : cmb 0 0 (fun _ => 0) (fun _ => 0) = fun _ => 0 := by funext j; simp [cmb]
  rw [this] at e
  omega
/-- rows changed by multiples of the first -/
inductive Chg (p q : Int) (a : ZV) : List ZV → List ZV → Prop
  | nil : Chg p q a [] []
  | cons {x' x : ZV} {xs' xs : List ZV} (t : Int) (h : ∀ j, p * x' j = q * x j + t * a j) (r : Chg p q a xs' xs) : Chg p q a (x' :: xs') (x :: xs)
theorem det_chg (cs : List Nat) {p q : Int} {a : ZV} {xs' xs : List ZV} (h : Chg p q a xs' xs) : ∀ C : List ZV, p ^ xs.length * det cs (a :: (C ++ xs')) = q ^ xs.length * det cs (a :: (C ++ xs)) := by
  induction h with
  | nil => intro C; simp
  | @cons x' x xs' xs t hx r ih =>
    intro C
    have e1 : cmb p 0 x' x' = cmb q t x a := by funext j; show p * x' j + 0 * x' j = q * x j + t * a j; rw [← hx j]; omega
    have l1 := det_lin cs (a :: C) xs' p 0 x' x'
    have l2 := det_lin cs (a :: C) xs' q t x a
    rw [e1] at l1
    have tw := det_twice cs a C xs'
    simp only [List.cons_append] at l1 l2
    rw [tw] at l2
    have key : p * det cs (a :: (C ++ x' :: xs')) = q * det cs (a :: (C ++ x :: xs')) := by
      have := l1.symm.trans l2
      omega
    have i := ih (C ++ [x])
    simp only [List.append_assoc, List.cons_append, List.nil_append] at i
    rw [List.length_cons, Int.pow_succ, Int.pow_succ, Int.mul_assoc, key, Int.mul_assoc]
    have : p ^ xs.length * (q * det cs (a :: (C ++ x :: xs'))) = q * (p ^ xs.length * det cs (a :: (C ++ x :: xs'))) := by grind
    rw [this, i]
    grind
theorem ex_null {c : Nat} {f : List ZV → Int} : ∀ (rows P : List ZV), (∀ x, x ∈ rows → x c = 0) → ex c f P rows = 0
  | [], _, _ => rfl
  | x :: rows, P, h => by
    rw [ex, h x (List.mem_cons_self ..), ex_null rows (P ++ [x]) (fun y hy => h y (List.mem_cons_of_mem _ hy))]
    simp
theorem det_col (c : Nat) (cs : List Nat) (a : ZV) {rows : List ZV} (h : ∀ x, x ∈ rows → x c = 0) : det (c :: cs) (a :: rows) = a c * det cs rows := by
  show ex c (det cs) [] (a :: rows) = _
  rw [ex, ex_null rows _ h]
  simp
/-- all r-rowed determinants are divisible by p, r - 1 times -/
def Ds (p : Int) (L : ZV → Prop) : Prop := ∀ (r : Nat) (cs : List Nat) (rs : List ZV), rs.length = r + 1 → (∀ x, x ∈ rs → L x ∨ x = fun _ => 0) → p ^ r ∣ det cs rs
/-- a row of the next stage -/
def Nx (p : Int) (L : ZV → Prop) (h : Nat) (a : ZV) (x' : ZV) : Prop := x' = a ∨ ∃ x, L x ∧ ∀ j, p * x' j = a h * x j - x h * a j
theorem nx_null {p : Int} {L : ZV → Prop} {h : Nat} {a x' : ZV} (hp : p ≠ 0) (n : Nx p L h a x') (ne : x' ≠ a) : x' h = 0 := by
  rcases n with e | ⟨x, _, e⟩
  · exact absurd e ne
  · have := e h
    have : p * x' h = 0 := by rw [this]; grind
    exact (Int.mul_eq_zero.mp this).resolve_left hp
theorem chg_of {p : Int} {L : ZV → Prop} {h : Nat} {a : ZV} : ∀ rs' : List ZV, (∀ x, x ∈ rs' → Nx p L h a x ∨ x = fun _ => 0) → ∃ rs, Chg p (a h) a rs' rs ∧ rs.length = rs'.length ∧ ∀ x, x ∈ rs → L x ∨ x = fun _ => 0
  | [], _ => ⟨[], .nil, rfl, fun x hx => by simp at hx⟩
  | x' :: rs', hx => by
    obtain ⟨rs, c, l, m⟩ := chg_of rs' fun y hy => hx y (List.mem_cons_of_mem _ hy)
    rcases hx x' (List.mem_cons_self ..) with (rfl | ⟨x, hL, e⟩) | rfl
    · exact ⟨(fun _ => 0) :: rs, .cons p (fun j => by simp) c, by simp [l], fun y hy => by
        rcases List.mem_cons.mp hy with rfl | hy
        · exact .inr rfl
        · exact m y hy⟩
    · exact ⟨x :: rs, .cons (- x h) (fun j => by rw [e j]; grind) c, by simp [l], fun y hy => by
        rcases List.mem_cons.mp hy with rfl | hy
        · exact .inl hL
        · exact m y hy⟩
    · exact ⟨(fun _ => 0) :: rs, .cons 0 (fun j => by simp) c, by simp [l], fun y hy => by
        rcases List.mem_cons.mp hy with rfl | hy
        · exact .inr rfl
        · exact m y hy⟩
theorem dvd_cancel {p q d m : Int} {r : Nat} (hp : p ≠ 0) (e : p ^ r * d = q ^ r * m) (h : p ^ r ∣ m) : q ^ r ∣ d := by
  obtain ⟨k, rfl⟩ := h
  have hpr : p ^ r ≠ 0 := Int.pow_ne_zero hp
  refine ⟨k, ?_⟩
  have : p ^ r * d = p ^ r * (q ^ r * k) := by rw [e]; grind
  exact Int.eq_of_mul_eq_mul_left hpr this
theorem Ds.next {p : Int} {L : ZV → Prop} {h : Nat} {a : ZV} (D : Ds p L) (hp : p ≠ 0) (ha : L a) (hq : a h ≠ 0) {L' : ZV → Prop} (hL : ∀ x, L' x → Nx p L h a x) : Ds (a h) L' := fun r cs rs' hlen hx => by
  have hx2 : ∀ x, x ∈ rs' → Nx p L h a x ∨ x = fun _ => 0 := fun x m => (hx x m).imp (hL x) id
  by_cases hin : a ∈ rs'
  · obtain ⟨A, B, rfl⟩ := List.append_of_mem hin
    obtain ⟨rs, c, l, m⟩ := chg_of (A ++ B) fun x hx => hx2 x (by
      rcases List.mem_append.mp hx with h | h
      · exact List.mem_append.mpr (.inl h)
      · exact List.mem_append.mpr (.inr (List.mem_cons_of_mem _ h)))
    have e := det_chg cs c []
    have hr : rs.length = r := by
      rw [l]
      simp only [List.length_append, List.length_cons] at hlen ⊢
      omega
    rw [hr] at e
    simp only [List.nil_append] at e
    have dv : p ^ r ∣ det cs (a :: rs) := D r cs (a :: rs) (by simp [hr]) fun x hx => by
      rcases List.mem_cons.mp hx with rfl | hx
      · exact .inl ha
      · exact m x hx
    have d2 := dvd_cancel hp e dv
    rcases det_front cs a B A [] with f | f
    · simp only [List.nil_append] at f
      rw [f]; exact d2
    · simp only [List.nil_append] at f
      rw [f]; exact Int.dvd_neg.mpr d2
  · obtain ⟨rs, c, l, m⟩ := chg_of rs' hx2
    have e := det_chg (h :: cs) c []
    simp only [List.nil_append] at e
    have cl := det_col h cs a (rows := rs') fun x hx => by
      rcases hx2 x hx with n | rfl
      · exact nx_null hp n fun z => hin (z ▸ hx)
      · rfl
    rw [cl, l, hlen] at e
    have dv : p ^ (r + 1) ∣ det (h :: cs) (a :: rs) := D (r + 1) (h :: cs) (a :: rs) (by simp [l, hlen]) fun x hx => by
      rcases List.mem_cons.mp hx with rfl | hx
      · exact .inl ha
      · exact m x hx
    obtain ⟨k, hk⟩ := dvd_cancel hp e dv
    refine ⟨k, ?_⟩
    rw [Int.pow_succ] at hk
    have : a h * det cs rs' = a h * (a h ^ r * k) := by rw [hk]; grind
    exact Int.eq_of_mul_eq_mul_left hq this
/-- the division of the next stage has no rest -/
theorem Ds.dvd {p : Int} {L : ZV → Prop} (D : Ds p L) {a x : ZV} (ha : L a) (hx : L x) (h j : Nat) : p ∣ a h * x j - x h * a j := by
  have d := D 1 [h, j] [a, x] rfl fun y hy => by
    rcases List.mem_cons.mp hy with rfl | hy
    · exact .inl ha
    · rw [List.mem_singleton.mp hy]; exact .inl hx
  have e : det [h, j] [a, x] = a h * x j - x h * a j := by
    simp only [det, ex, List.nil_append, List.append_nil, List.cons_append]
    grind
  rw [e, Int.pow_one] at d
  exact d
theorem Ds.start (L : ZV → Prop) : Ds 1 L := fun r cs rs _ _ => by
  rw [Int.one_pow]
  exact Int.one_dvd _
end My
namespace My
open PySem PySem.Spec PyProof.Rows L2 ClX Dl PyProof
/-! rows swept by a row -/
def cf (ts : List Int) (j : Nat) : Int := ts[j]?.getD 0
def enP : Nat → List D → List D
  | _, [] => []
  | i, x :: xs => .tup [.int (i : Int), x] :: enP (i + 1) xs
theorem enP_idx : ∀ (xs : List D) (i : Nat), xs.mapIdx (fun j x => D.tup [.int ((i + j : Nat) : Int), x]) = enP i xs
  | [], _ => rfl
  | x :: xs, i => by
    rw [List.mapIdx_cons, enP, ← enP_idx xs (i + 1)]
    have e : (fun j x => D.tup [.int ((i + (j + 1) : Nat) : Int), x]) = fun j x => D.tup [.int ((i + 1 + j : Nat) : Int), x] := by
      funext j x
      rw [show i + (j + 1) = i + 1 + j by omega]
    rw [e]
    rfl
theorem enumD_enP (xs : List D) : enumD xs = enP 0 xs := by
  rw [← enP_idx xs 0]
  unfold enumD
  congr 1
  funext j x
  rw [Nat.zero_add]
theorem BdR.cf {ts : List Int} {n : Nat} (h : BdR ts n) (j : Nat) : Bd (My.cf ts j) n := by
  unfold My.cf
  by_cases z : j < ts.length
  · rw [List.getElem?_eq_getElem z]
    exact h _ (List.getElem_mem z)
  · rw [List.getElem?_eq_none (by omega)]
    exact bd0
theorem BdR.mono {ts : List Int} {n m : Nat} (h : BdR ts n) (k : n ≤ m) : BdR ts m := fun t ht => (h t ht).mono k
theorem ix_rowI {r : List Int} {h : Nat} (hh : h < r.length) : gIx (rowI r) (.int (h : Int)) = some (.int (cf r h)) := by
  show atI (r.map D.int) (h : Int) = _
  rw [atI_nat _ _ (by simpa using hh), List.getElem?_map]
  unfold cf
  rw [List.getElem?_eq_getElem hh]
  rfl
theorem neF_int (i j : Int) : gNeF (.int i) (.int j) = some (.bl (!decide (i = j))) := by simp [gNeF, litV, scal]
theorem eqF_int (i j : Int) : gEqF (.int i) (.int j) = some (.bl (decide (i = j))) := by simp [gEqF, litV, scal]
abbrev lessL (r a : List Int) (h : Nat) (p : Int) : List Int := List.zipWith (fun one two => (cf a h * one - cf r h * two).fdiv p) r a
def lsE : FE := fBin (gI okDivB fun i j => .int (i.fdiv j)) (fBin (gI0 fun i j => .int (i - j)) (fBin gMB (fV 4) (fV 6)) (fBin gMB (fV 5) (fV 7))) (fV 3)
theorem ls_loop {x y z : Sl} {by' many p : Int} (bb : Bd by' 300000) (bm : Bd many 300000) (hp : p ≠ 0) (bp : Bd p 8900) : ∀ (a b : List Int) (acc : List D), BdR a 300000 → BdR b 300000 → acc.length + a.length ≤ 1000 →
    lcF (gT 2 (gsCons (gN 6) (gsCons (gN 7) gsNil))) fYes lsE [6, 7] (pairsD (a.map D.int) (b.map D.int)) acc [x, y, z, .val (.int p), .val (.int by'), .val (.int many), .un, .un] = some (acc ++ (List.zipWith (fun one two => (by' * one - many * two).fdiv p) a b).map D.int, [x, y, z, .val (.int p), .val (.int by'), .val (.int many), .un, .un])
  | [], _, acc, _, _, _ => by simp [pairsD, lcF]
  | _ :: _, [], acc, _, _, _ => by simp [pairsD, lcF]
  | s :: a, t :: b, acc, ha, hb, hz => by
    simp only [List.length_cons] at hz
    have ih := ls_loop (x := x) (y := y) (z := z) bb bm hp bp a b (acc ++ [.int ((by' * s - many * t).fdiv p)]) (fun r hr => ha r (List.mem_cons_of_mem _ hr)) (fun r hr => hb r (List.mem_cons_of_mem _ hr)) (by simp; omega)
    have hbig : acc.length ≤ big := by unfold big; omega
    have m1 := gMB_int (bb.mono (by decide : 300000 ≤ 400000)) ((ha s (List.mem_cons_self ..)).mono (by decide : 300000 ≤ 400000))
    have m2 := gMB_int (bm.mono (by decide : 300000 ≤ 400000)) ((hb t (List.mem_cons_self ..)).mono (by decide : 300000 ≤ 400000))
    have e : lsE [x, y, z, .val (.int p), .val (.int by'), .val (.int many), .val (.int s), .val (.int t)] = some (.int ((by' * s - many * t).fdiv p), [x, y, z, .val (.int p), .val (.int by'), .val (.int many), .val (.int s), .val (.int t)]) := bin_eq (bin_eq (bin_eq rfl rfl m1) (bin_eq rfl rfl m2) rfl) rfl (gDB_int hp bp)
    have tg : gT 2 (gsCons (gN 6) (gsCons (gN 7) gsNil)) (.tup [.int s, .int t]) [x, y, z, .val (.int p), .val (.int by'), .val (.int many), .un, .un] = some [x, y, z, .val (.int p), .val (.int by'), .val (.int many), .val (.int s), .val (.int t)] := rfl
    have pd : pairsD ((s :: a).map D.int) ((t :: b).map D.int) = .tup [.int s, .int t] :: pairsD (a.map D.int) (b.map D.int) := rfl
    have wp : wipeE [x, y, z, .val (.int p), .val (.int by'), .val (.int many), .val (.int s), .val (.int t)] [6, 7] = [x, y, z, .val (.int p), .val (.int by'), .val (.int many), .un, .un] := rfl
    rw [pd, lcF, tg]
    simp only [fYes, Option.bind_some, if_true, e, hbig, wp]
    rw [ih]
    simp
theorem p_less {r a : List Int} {h : Nat} {p : Int} (hr : h < r.length) (ha : h < a.length) (br : BdR r 300000) (ba : BdR a 300000) (hp : p ≠ 0) (bp : Bd p 8900) (hl : r.length ≤ 1000) : G_less [rowI r, rowI a, .int (h : Int), .int p] = some (rowI (lessL r a h p)) := by
  have c1 : fIxN 1 (fV 2) [.val (rowI r), .val (rowI a), .val (.int (h : Int)), .val (.int p), .un, .un, .un, .un] = some (.int (cf a h), [.val (rowI r), .val (rowI a), .val (.int (h : Int)), .val (.int p), .un, .un, .un, .un]) := ixN_val rfl rfl (ix_rowI ha)
  have c2 : fIxN 0 (fV 2) [.val (rowI r), .val (rowI a), .val (.int (h : Int)), .val (.int p), .un, .un, .un, .un] = some (.int (cf r h), [.val (rowI r), .val (rowI a), .val (.int (h : Int)), .val (.int p), .un, .un, .un, .un]) := ixN_val rfl rfl (ix_rowI hr)
  have s1 : sAsg (fTup (fCons (fIxN 1 (fV 2)) (fCons (fIxN 0 (fV 2)) fNil))) (gT 2 (gsCons (gN 4) (gsCons (gN 5) gsNil))) [.val (rowI r), .val (rowI a), .val (.int (h : Int)), .val (.int p), .un, .un, .un, .un] = some (.nx [.val (rowI r), .val (rowI a), .val (.int (h : Int)), .val (.int p), .val (.int (cf a h)), .val (.int (cf r h)), .un, .un]) := by
    rw [sAsg, tup_eq (cons2 c1 c2) (by show 2 ≤ big; decide)]
    rfl
  have lp := ls_loop (x := .val (rowI r)) (y := .val (rowI a)) (z := .val (.int (h : Int))) (ba.cf h) (br.cf h) hp bp r a [] br ba (by simp; omega)
  have z1 : fLc (fZip (fCons (fV 0) (fCons (fV 1) fNil))) (gT 2 (gsCons (gN 6) (gsCons (gN 7) gsNil))) fYes lsE [6, 7] [.val (rowI r), .val (rowI a), .val (.int (h : Int)), .val (.int p), .val (.int (cf a h)), .val (.int (cf r h)), .un, .un] = some ((lessL r a h p).map D.int, [.val (rowI r), .val (rowI a), .val (.int (h : Int)), .val (.int p), .val (.int (cf a h)), .val (.int (cf r h)), .un, .un]) := by
    have z : fZip (fCons (fV 0) (fCons (fV 1) fNil)) [.val (rowI r), .val (rowI a), .val (.int (h : Int)), .val (.int p), .val (.int (cf a h)), .val (.int (cf r h)), .un, .un] = some (pairsD (r.map D.int) (a.map D.int), [.val (rowI r), .val (rowI a), .val (.int (h : Int)), .val (.int p), .val (.int (cf a h)), .val (.int (cf r h)), .un, .un]) := rfl
    rw [fLc, z]
    exact lp
  have gi : g_less = sSeq (sAsg (fTup (fCons (fIxN 1 (fV 2)) (fCons (fIxN 0 (fV 2)) fNil))) (gT 2 (gsCons (gN 4) (gsCons (gN 5) gsNil)))) (sRet (fFr (fLc (fZip (fCons (fV 0) (fCons (fV 1) fNil))) (gT 2 (gsCons (gN 6) (gsCons (gN 7) gsNil))) fYes lsE [6, 7]))) := rfl
  show (g_less [.val (rowI r), .val (rowI a), .val (.int (h : Int)), .val (.int p), .un, .un, .un, .un]).bind endD = _
  rw [gi, seq_nx s1, sRet, fr_eq z1]
  rfl
theorem call4 {F : List D → Option D} {fa fb fc fd : FE} {δ : Es} {a b c d r : D} (ha : fa δ = some (a, δ)) (hb : fb δ = some (b, δ)) (hc : fc δ = some (c, δ)) (hd : fd δ = some (d, δ)) (hF : F [a, b, c, d] = some r) : fCall F (gPos []) (fCons fa (fCons fb (fCons fc (fCons fd fNil)))) fNil δ = some (r, δ) := by
  simp only [fCall, fCons, fNil, ha, hb, hc, hd, Option.bind_some, Option.map_some, gPos, List.append_nil, hF]
/-- the rows of the next stage -/
def clr (a : List Int) (k h : Nat) (p : Int) : Nat → List (List Int) → List (List Int)
  | _, [] => []
  | i, r :: rs => (if i = k then r else lessL r a h p) :: clr a k h p (i + 1) rs
abbrev encI (L : List (List Int)) : D := .lst (L.map rowI)
def clE : FE := fIf (fB (fBin gEqF (fV 4) (fV 1))) (fV 5) (fCall G_less (gPos []) (fCons (fV 5) (fCons (fIxN 0 (fV 1)) (fCons (fV 2) (fCons (fV 3) fNil)))) fNil)
theorem cl_loop {L : List (List Int)} {k h w : Nat} {p : Int} (hk : k < L.length) (hh : h < w) (hw : w ≤ 1000) (hp : p ≠ 0) (bp : Bd p 8900) (hL : ∀ r, r ∈ L → r.length = w ∧ BdR r 300000) {a : List Int} (hak : L[k]? = some a) : ∀ (rs : List (List Int)) (i : Nat) (acc : List D), (∀ r, r ∈ rs → r ∈ L) → acc.length + rs.length ≤ 1000 →
    lcF (gT 2 (gsCons (gN 4) (gsCons (gN 5) gsNil))) fYes clE [4, 5] (enP i (rs.map rowI)) acc [.val (encI L), .val (.int (k : Int)), .val (.int (h : Int)), .val (.int p), .un, .un] = some (acc ++ (clr a k h p i rs).map rowI, [.val (encI L), .val (.int (k : Int)), .val (.int (h : Int)), .val (.int p), .un, .un])
  | [], i, acc, _, _ => by simp [enP, lcF, clr]
  | r :: rs, i, acc, hm, hz => by
    simp only [List.length_cons] at hz
    have ih := cl_loop hk hh hw hp bp hL hak rs (i + 1) (acc ++ [rowI (if i = k then r else lessL r a h p)]) (fun x hx => hm x (List.mem_cons_of_mem _ hx)) (by simp; omega)
    have hbig : acc.length ≤ big := by unfold big; omega
    have hr := hL r (hm r (List.mem_cons_self ..))
    have ha := hL a (List.mem_of_getElem? hak)
    have c : fB (fBin gEqF (fV 4) (fV 1)) [.val (encI L), .val (.int (k : Int)), .val (.int (h : Int)), .val (.int p), .val (.int (i : Int)), .val (rowI r)] = some (decide ((i : Int) = (k : Int)), [.val (encI L), .val (.int (k : Int)), .val (.int (h : Int)), .val (.int p), .val (.int (i : Int)), .val (rowI r)]) := fB_eq (bin_eq rfl rfl (eqF_int _ _))
    have ix : fIxN 0 (fV 1) [.val (encI L), .val (.int (k : Int)), .val (.int (h : Int)), .val (.int p), .val (.int (i : Int)), .val (rowI r)] = some (rowI a, [.val (encI L), .val (.int (k : Int)), .val (.int (h : Int)), .val (.int p), .val (.int (i : Int)), .val (rowI r)]) := ixN_val rfl rfl (by
      show atI (L.map rowI) (k : Int) = _
      rw [atI_nat _ _ (by simpa using hk), List.getElem?_map, hak]
      rfl)
    have e : clE [.val (encI L), .val (.int (k : Int)), .val (.int (h : Int)), .val (.int p), .val (.int (i : Int)), .val (rowI r)] = some (rowI (if i = k then r else lessL r a h p), [.val (encI L), .val (.int (k : Int)), .val (.int (h : Int)), .val (.int p), .val (.int (i : Int)), .val (rowI r)]) := by
      rw [clE, if_eq c]
      by_cases z : i = k
      · rw [decide_eq_true (by omega), if_pos rfl, if_pos z]
        rfl
      · rw [decide_eq_false (by omega), if_neg Bool.false_ne_true, if_neg z]
        exact call4 rfl ix rfl rfl (p_less (by omega) (by omega) hr.2 ha.2 hp bp (by omega))
    have tg : gT 2 (gsCons (gN 4) (gsCons (gN 5) gsNil)) (.tup [.int (i : Int), rowI r]) [.val (encI L), .val (.int (k : Int)), .val (.int (h : Int)), .val (.int p), .un, .un] = some [.val (encI L), .val (.int (k : Int)), .val (.int (h : Int)), .val (.int p), .val (.int (i : Int)), .val (rowI r)] := rfl
    have wp : wipeE [.val (encI L), .val (.int (k : Int)), .val (.int (h : Int)), .val (.int p), .val (.int (i : Int)), .val (rowI r)] [4, 5] = [.val (encI L), .val (.int (k : Int)), .val (.int (h : Int)), .val (.int p), .un, .un] := rfl
    rw [List.map_cons, enP, lcF, tg]
    simp only [fYes, Option.bind_some, if_true, e, hbig, wp]
    rw [ih, clr]
    simp
theorem p_cleared {L : List (List Int)} {k h w : Nat} {p : Int} (hk : k < L.length) (hh : h < w) (hw : w ≤ 1000) (hp : p ≠ 0) (bp : Bd p 8900) (hL : ∀ r, r ∈ L → r.length = w ∧ BdR r 300000) {a : List Int} (hak : L[k]? = some a) (hl : L.length ≤ 1000) : G_cleared [encI L, .int (k : Int), .int (h : Int), .int p] = some ((clr a k h p 0 L).map rowI) := by
  have lp := cl_loop hk hh hw hp bp hL hak L 0 [] (fun _ h => h) (by simp; omega)
  have z : fEnum (fCons (fV 0) fNil) [.val (encI L), .val (.int (k : Int)), .val (.int (h : Int)), .val (.int p), .un, .un] = some (enumD (L.map rowI), [.val (encI L), .val (.int (k : Int)), .val (.int (h : Int)), .val (.int p), .un, .un]) := rfl
  rw [enumD_enP] at z
  have gi : g_cleared = fLc (fEnum (fCons (fV 0) fNil)) (gT 2 (gsCons (gN 4) (gsCons (gN 5) gsNil))) fYes clE [4, 5] := rfl
  show (g_cleared [.val (encI L), .val (.int (k : Int)), .val (.int (h : Int)), .val (.int p), .un, .un]).map (·.1) = _
  rw [gi, fLc, z, Option.bind_some]
  dsimp only
  have w0 : wipeE [.val (encI L), .val (.int (k : Int)), .val (.int (h : Int)), .val (.int p), .un, .un] [4, 5] = [.val (encI L), .val (.int (k : Int)), .val (.int (h : Int)), .val (.int p), .un, .un] := rfl
  rw [w0, lp]
  rfl
/-- the first row with a number there -/
def fwL (L : List (List Int)) (h : Nat) : Nat → Nat → Option Nat
  | 0, _ => none
  | n + 1, lo => if cf (L[lo]?.getD []) h ≠ 0 then some lo else fwL L h n (lo + 1)
def fwB : FS := sIf (fB (fBin gNeF (fBin gIx (fIxN 0 (fV 3)) (fV 2)) (fC (.int 0)))) (sRet (fV 3)) sNil
def oD : Option Nat → D
  | some i => .int (i : Int)
  | none => .non
theorem fw_loop {L : List (List Int)} {h w : Nat} (hh : h < w) (hL : ∀ r, r ∈ L → r.length = w) {low : Sl} : ∀ (n lo : Nat) (s : Sl), lo + n = L.length → ∃ s', (loopF (gN 3) fwB (intsD (lo : Int) n) [.own .pot (L.map rowI), low, .val (.int (h : Int)), s] = match fwL L h n lo with
    | some i => some (.rt (.int (i : Int)) [.own .pot (L.map rowI), low, .val (.int (h : Int)), s'])
    | none => some (.nx [.own .pot (L.map rowI), low, .val (.int (h : Int)), s']))
  | 0, lo, s, _ => ⟨s, rfl⟩
  | n + 1, lo, s, hl => by
    have hlo : lo < L.length := by omega
    have er : L[lo]? = some L[lo] := List.getElem?_eq_getElem hlo
    have hw := hL L[lo] (List.getElem_mem hlo)
    obtain ⟨s', ih⟩ := fw_loop hh hL (low := low) n (lo + 1) (.val (.int (lo : Int))) (by omega)
    have ix : fIxN 0 (fV 3) [.own .pot (L.map rowI), low, .val (.int (h : Int)), .val (.int (lo : Int))] = some (rowI L[lo], [.own .pot (L.map rowI), low, .val (.int (h : Int)), .val (.int (lo : Int))]) := by
      show ((atI (L.map rowI) (lo : Int)).map fun d => (d, _)) = _
      rw [atI_nat _ _ (by simpa using hlo), List.getElem?_map, er]
      rfl
    have c : fB (fBin gNeF (fBin gIx (fIxN 0 (fV 3)) (fV 2)) (fC (.int 0))) [.own .pot (L.map rowI), low, .val (.int (h : Int)), .val (.int (lo : Int))] = some (!decide (cf L[lo] h = 0), [.own .pot (L.map rowI), low, .val (.int (h : Int)), .val (.int (lo : Int))]) := fB_eq (bin_eq (bin_eq ix rfl (ix_rowI (by omega))) rfl (neF_int _ _))
    rw [intsD_cons, loopF, fwL, er]
    show ∃ s', (fwB [.own .pot (L.map rowI), low, .val (.int (h : Int)), .val (.int (lo : Int))]).bind _ = _
    rw [fwB, sIf, c, Option.bind_some]
    dsimp only
    by_cases z : cf L[lo] h = 0
    · rw [decide_eq_true z]
      refine ⟨s', ?_⟩
      rw [if_neg (by simp), if_neg (by simpa using z)]
      exact ih
    · rw [decide_eq_false z]
      refine ⟨.val (.int (lo : Int)), ?_⟩
      rw [if_pos (show (!false) = true from rfl), if_pos (by simpa using z)]
      rfl
theorem p_first {L : List (List Int)} {k h w : Nat} (hh : h < w) (hL : ∀ r, r ∈ L → r.length = w) (hk : k ≤ L.length) (hl : L.length ≤ 1000) : G_first_with (L.map rowI) [.int (k : Int), .int (h : Int)] = some (oD (fwL L h (L.length - k) k), L.map rowI) := by
  obtain ⟨s', lp⟩ := fw_loop hh hL (low := .val (.int (k : Int))) (L.length - k) k .un (by omega)
  have a : fCons (fV 1) (fCons (fLenN 0) fNil) [.own .pot (L.map rowI), .val (.int (k : Int)), .val (.int (h : Int)), .un] = some ([.int (k : Int), .int (L.length : Int)], [.own .pot (L.map rowI), .val (.int (k : Int)), .val (.int (h : Int)), .un]) := by
    have : fLenN 0 [.own .pot (L.map rowI), .val (.int (k : Int)), .val (.int (h : Int)), .un] = some (.int ((L.map rowI).length : Int), [.own .pot (L.map rowI), .val (.int (k : Int)), .val (.int (h : Int)), .un]) := rfl
    rw [List.length_map] at this
    exact cons2 rfl this
  have rg := rg2_int (k : Int) (L.length : Int) (by omega) (by omega) (by omega) (by omega) a
  have en : ((L.length : Int) - (k : Int)).toNat = L.length - k := by omega
  rw [en] at rg
  have gi : g_first_with = sSeq (sFor (fRg2 (fCons (fV 1) (fCons (fLenN 0) fNil))) (gN 3) fwB) (sRet (fC .non)) := rfl
  show (g_first_with [.own .pot (L.map rowI), .val (.int (k : Int)), .val (.int (h : Int)), .un]).bind endP = _
  rw [gi, sSeq, sFor, rg, Option.bind_some]
  dsimp only
  rw [lp]
  cases fwL L h (L.length - k) k with
  | none => rfl
  | some i => rfl
end My
namespace My
open PySem PySem.Spec PyProof.Rows L2 ClX Dl PyProof
/-! the sweeping of all rows: what stays true -/
abbrev rw' (L : List (List Int)) (i : Nat) : List Int := L[i]?.getD []
abbrev vq (r : List Int) : Vec := fun j => ((cf r j : Int) : Rat)
abbrev Rq (A : List (List Int)) : Vec → Prop := fun v => ∃ r, r ∈ A ∧ v = vq r
def bt (b : Nat) : Nat → Nat
  | 0 => b
  | k + 1 => 2 * bt b k + 1
theorem bt_le (b : Nat) {i j : Nat} (h : i ≤ j) : bt b i ≤ bt b j := by
  induction j with
  | zero => have : i = 0 := by omega
            subst this; exact Nat.le_refl _
  | succ j ih =>
    by_cases e : i = j + 1
    · subst e; exact Nat.le_refl _
    · have := ih (by omega)
      show bt b i ≤ 2 * bt b j + 1
      omega
abbrev hd' (hs : List Nat) (i : Nat) : Nat := hs[i]?.getD 0
structure Ei (n w b : Nat) (A : List (List Int)) (place : Nat) (L : List (List Int)) (hs : List Nat) (p : Int) : Prop where
  ln : L.length = n
  lw : ∀ r, r ∈ L → r.length = w
  hk : hs.length ≤ n
  hp : hs.length ≤ place
  hlt : ∀ i, i < hs.length → hd' hs i < place
  asc : ∀ i j, i < j → j < hs.length → hd' hs i < hd' hs j
  pz : p ≠ 0
  ds : Ds p (fun v => ∃ r, r ∈ L ∧ v = cf r)
  pv : ∀ i j, i < hs.length → j < hs.length → cf (rw' L i) (hd' hs j) = if i = j then p else 0
  lo : ∀ i, i < hs.length → ∀ c, c < hd' hs i → cf (rw' L i) c = 0
  low : ∀ i, hs.length ≤ i → i < n → ∀ c, c < place → cf (rw' L i) c = 0
  s1 : ∀ r, r ∈ L → Sp (Rq A) (vq r)
  s2 : ∀ r, r ∈ A → Sp (Rq L) (vq r)
  bd : ∀ r, r ∈ L → BdR r (bt b hs.length)
  bp : Bd p (bt b (hs.length - 1))
theorem fw_some {L : List (List Int)} {h : Nat} : ∀ {n lo i : Nat}, fwL L h n lo = some i → lo ≤ i ∧ i < lo + n ∧ cf (rw' L i) h ≠ 0
  | n + 1, lo, i, e => by
    rw [fwL] at e
    by_cases z : cf (L[lo]?.getD []) h ≠ 0
    · rw [if_pos z] at e
      cases e
      exact ⟨by omega, by omega, z⟩
    · rw [if_neg z] at e
      have := fw_some e
      exact ⟨by omega, by omega, this.2.2⟩
theorem fw_none {L : List (List Int)} {h : Nat} : ∀ {n lo : Nat}, fwL L h n lo = none → ∀ i, lo ≤ i → i < lo + n → cf (rw' L i) h = 0
  | 0, lo, _, i, _, _ => by omega
  | n + 1, lo, e, i, h1, h2 => by
    rw [fwL] at e
    by_cases z : cf (L[lo]?.getD []) h ≠ 0
    · rw [if_pos z] at e; cases e
    · rw [if_neg z] at e
      by_cases c : i = lo
      · subst c
        exact Classical.byContradiction fun q => z q
      · exact fw_none e i (by omega) (by omega)
theorem cf_less {r a : List Int} {h : Nat} {p : Int} (hl : r.length = a.length) (j : Nat) : cf (lessL r a h p) j = (cf a h * cf r j - cf r h * cf a j).fdiv p := by
  by_cases c : j < r.length
  · have e1 : r[j]? = some r[j] := List.getElem?_eq_getElem c
    have e2 : a[j]? = some a[j] := List.getElem?_eq_getElem (by omega)
    show ((List.zipWith _ r a)[j]?).getD 0 = _
    rw [List.getElem?_zipWith, e1, e2]
    have f1 : cf r j = r[j] := by unfold cf; rw [e1]; rfl
    have f2 : cf a j = a[j] := by unfold cf; rw [e2]; rfl
    rw [f1, f2]
    rfl
  · have e1 : r[j]? = none := List.getElem?_eq_none (by omega)
    have e2 : a[j]? = none := List.getElem?_eq_none (by omega)
    show ((List.zipWith _ r a)[j]?).getD 0 = _
    rw [List.getElem?_zipWith, e1]
    have f1 : cf r j = 0 := by unfold cf; rw [e1]; rfl
    have f2 : cf a j = 0 := by unfold cf; rw [e2]; rfl
    rw [f1, f2, Int.mul_zero, Int.mul_zero]
    rfl
theorem less_len {r a : List Int} {h : Nat} {p : Int} (hl : r.length = a.length) : (lessL r a h p).length = r.length := by simp [hl]
theorem clr_get (a : List Int) (k h : Nat) (p : Int) : ∀ (rs : List (List Int)) (s i : Nat), (clr a k h p s rs)[i]? = (rs[i]?).map fun r => if s + i = k then r else lessL r a h p
  | [], s, i => by simp [clr]
  | r :: rs, s, 0 => by simp [clr]
  | r :: rs, s, i + 1 => by
    rw [clr, List.getElem?_cons_succ, List.getElem?_cons_succ, clr_get a k h p rs (s + 1) i, show s + 1 + i = s + (i + 1) by omega]
theorem clr_len (a : List Int) (k h : Nat) (p : Int) : ∀ (rs : List (List Int)) (s : Nat), (clr a k h p s rs).length = rs.length
  | [], _ => rfl
  | r :: rs, s => by rw [clr, List.length_cons, List.length_cons, clr_len a k h p rs]
theorem hd_old {hs : List Nat} {x i : Nat} (h : i < hs.length) : hd' (hs ++ [x]) i = hd' hs i := by
  show ((hs ++ [x])[i]?).getD 0 = _
  rw [List.getElem?_append_left h]
theorem hd_new (hs : List Nat) (x : Nat) : hd' (hs ++ [x]) hs.length = x := by
  show ((hs ++ [x])[hs.length]?).getD 0 = _
  rw [List.getElem?_append_right (Nat.le_refl _)]
  simp
theorem get_rw {L : List (List Int)} {i : Nat} (h : i < L.length) : L[i]? = some (rw' L i) := by
  show _ = some (L[i]?.getD [])
  rw [List.getElem?_eq_getElem h]
  rfl
theorem rw_mem {L : List (List Int)} {i : Nat} (h : i < L.length) : rw' L i ∈ L := List.mem_of_getElem? (get_rw h)
/-- nothing to sweep with -/
theorem Ei.skip {n w b : Nat} {A : List (List Int)} {place : Nat} {L : List (List Int)} {hs : List Nat} {p : Int} (E : Ei n w b A place L hs p) (h : ∀ i, hs.length ≤ i → i < n → cf (rw' L i) place = 0) : Ei n w b A (place + 1) L hs p :=
  { E with
    hp := Nat.le_succ_of_le E.hp
    hlt := fun i hi => Nat.lt_succ_of_lt (E.hlt i hi)
    low := fun i h1 h2 c hc => by
      by_cases e : c = place
      · subst e; exact h i h1 h2
      · exact E.low i h1 h2 c (by omega) }
abbrev swL (L : List (List Int)) (k at' : Nat) : List (List Int) := (L.set k (rw' L at')).set at' (rw' L k)
theorem sw_len (L : List (List Int)) (k at' : Nat) : (swL L k at').length = L.length := by simp
theorem sw_k {L : List (List Int)} {k at' : Nat} (hk : k < L.length) (ha : at' < L.length) : rw' (swL L k at') k = rw' L at' := by
  show ((swL L k at')[k]?).getD [] = _
  by_cases e : at' = k
  · subst e
    rw [List.getElem?_set_self (by simpa using ha)]
    rfl
  · rw [List.getElem?_set_ne e, List.getElem?_set_self hk]
    rfl
theorem sw_at {L : List (List Int)} {k at' : Nat} (ha : at' < L.length) : rw' (swL L k at') at' = rw' L k := by
  show ((swL L k at')[at']?).getD [] = _
  rw [List.getElem?_set_self (by simpa using ha)]
  rfl
theorem sw_ne {L : List (List Int)} {k at' i : Nat} (h1 : i ≠ k) (h2 : i ≠ at') : rw' (swL L k at') i = rw' L i := by
  show ((swL L k at')[i]?).getD [] = _
  rw [List.getElem?_set_ne (Ne.symm h2), List.getElem?_set_ne (Ne.symm h1)]
/-- swept -/
theorem Ei.sweep {n w b : Nat} {A : List (List Int)} {place : Nat} {L : List (List Int)} {hs : List Nat} {p : Int} (E : Ei n w b A place L hs p) {at' : Nat} (h1 : hs.length ≤ at') (h2 : at' < n) (h3 : cf (rw' L at') place ≠ 0) :
    Ei n w b A (place + 1) (clr (rw' L at') hs.length place p 0 (swL L hs.length at')) (hs ++ [place]) (cf (rw' L at') place) := by
  have hkn : hs.length < n := by omega
  have hkL : hs.length < L.length := by rw [E.ln]; exact hkn
  have haL : at' < L.length := by rw [E.ln]; exact h2
  have am : rw' L at' ∈ L := rw_mem haL
  -- rows behind the swap
  have cls : ∀ i, i < n → i ≠ hs.length → ∃ j, j < n ∧ rw' (swL L hs.length at') i = rw' L j ∧ (hs.length ≤ i → hs.length ≤ j) ∧ (i < hs.length → j = i) := fun i hi ne => by
    by_cases e : i = at'
    · subst e
      exact ⟨hs.length, hkn, sw_at haL, fun _ => Nat.le_refl _, fun z => by omega⟩
    · exact ⟨i, hi, sw_ne ne e, fun z => z, fun _ => rfl⟩
  generalize ha : rw' L at' = a at *
  generalize hq : cf a place = q at *
  have al : a.length = w := E.lw a am
  have arow : ∀ c, c < place → cf a c = 0 := fun c hc => by rw [← ha]; exact E.low at' h1 h2 c hc
  -- entries
  have rowk : rw' (clr a hs.length place p 0 (swL L hs.length at')) hs.length = a := by
    show ((clr a hs.length place p 0 (swL L hs.length at'))[hs.length]?).getD [] = a
    rw [clr_get, get_rw (by rw [sw_len]; exact hkL), sw_k hkL haL, ha]
    simp
  have rowi : ∀ i, i < n → i ≠ hs.length → rw' (clr a hs.length place p 0 (swL L hs.length at')) i = lessL (rw' (swL L hs.length at') i) a place p := fun i hi ne => by
    show ((clr a hs.length place p 0 (swL L hs.length at'))[i]?).getD [] = _
    rw [clr_get, get_rw (by rw [sw_len, E.ln]; exact hi), Option.map_some, if_neg (by omega)]
    rfl
  have exact' : ∀ x, x ∈ L → ∀ c, p * cf (lessL x a place p) c = q * cf x c - cf x place * cf a c := fun x hx c => by
    have dv := E.ds.dvd (a := cf a) (x := cf x) ⟨a, am, rfl⟩ ⟨x, hx, rfl⟩ place c
    rw [cf_less (by rw [E.lw x hx, al]), hq] at *
    rw [hq] at dv
    exact Int.mul_fdiv_cancel' dv
  have ent : ∀ i, i < n → i ≠ hs.length → ∃ j, j < n ∧ rw' L j ∈ L ∧ (hs.length ≤ i → hs.length ≤ j) ∧ (i < hs.length → j = i) ∧ rw' (clr a hs.length place p 0 (swL L hs.length at')) i = lessL (rw' L j) a place p ∧ ∀ c, p * cf (rw' (clr a hs.length place p 0 (swL L hs.length at')) i) c = q * cf (rw' L j) c - cf (rw' L j) place * cf a c := fun i hi ne => by
    obtain ⟨j, hj, e, g1, g2⟩ := cls i hi ne
    have jm : rw' L j ∈ L := rw_mem (by rw [E.ln]; exact hj)
    have er : rw' (clr a hs.length place p 0 (swL L hs.length at')) i = lessL (rw' L j) a place p := by rw [rowi i hi ne, e]
    exact ⟨j, hj, jm, g1, g2, er, fun c => by rw [er]; exact exact' _ jm c⟩
  have nul : ∀ {x : Int}, p * x = 0 → x = 0 := fun {x} z => (Int.mul_eq_zero.mp z).resolve_left E.pz
  have mem2 : ∀ r, r ∈ clr a hs.length place p 0 (swL L hs.length at') → r = a ∨ ∃ x, x ∈ L ∧ r = lessL x a place p := fun r hr => by
    obtain ⟨i, hi, e⟩ := List.mem_iff_getElem.mp hr
    have hin : i < n := by rw [clr_len, sw_len, E.ln] at hi; exact hi
    have er : rw' (clr a hs.length place p 0 (swL L hs.length at')) i = r := by
      show ((clr a hs.length place p 0 (swL L hs.length at'))[i]?).getD [] = r
      rw [List.getElem?_eq_getElem hi, e]; rfl
    by_cases ne : i = hs.length
    · subst ne; left; rw [← er, rowk]
    · obtain ⟨j, hj, jm, _, _, e2, _⟩ := ent i hin ne
      exact .inr ⟨_, jm, by rw [← er, e2]⟩
  have back : ∀ x, x ∈ L → x = a ∨ lessL x a place p ∈ clr a hs.length place p 0 (swL L hs.length at') := fun x hx => by
    obtain ⟨i, hi, e⟩ := List.mem_iff_getElem.mp hx
    have hin : i < n := by rw [E.ln] at hi; exact hi
    have ei : rw' L i = x := by show (L[i]?).getD [] = x; rw [List.getElem?_eq_getElem hi, e]; rfl
    by_cases c : i = at'
    · subst c; left; rw [← ei, ha]
    · right
      by_cases c2 : i = hs.length
      · subst c2
        have := rowi at' h2 (fun z => c z.symm)
        rw [sw_at haL, ei] at this
        rw [← this]
        exact rw_mem (by rw [clr_len, sw_len]; exact haL)
      · have := rowi i hin c2
        rw [sw_ne c2 c, ei] at this
        rw [← this]
        exact rw_mem (by rw [clr_len, sw_len]; exact hi)
  have lk : (hs ++ [place]).length = hs.length + 1 := by simp
  have pq : (p : Rat) ≠ 0 := by exact_mod_cast E.pz
  have qq : (q : Rat) ≠ 0 := by exact_mod_cast h3
  have lessq : ∀ x, x ∈ L → ∀ c, (p : Rat) * vq (lessL x a place p) c = (q : Rat) * vq x c - (cf x place : Rat) * vq a c := fun x hx c => by
    have := exact' x hx c
    exact_mod_cast this
  refine ⟨by rw [clr_len, sw_len, E.ln], fun r hr => ?_, by rw [lk]; omega, by rw [lk]; have := E.hp; omega, fun i hi => ?_, fun i j hij hj => ?_, h3, ?_, fun i j hi hj => ?_, fun i hi c hc => ?_, fun i h1' h2' c hc => ?_, fun r hr => ?_, fun r hr => ?_, fun r hr => ?_, ?_⟩
  · rcases mem2 r hr with rfl | ⟨x, hx, rfl⟩
    · exact al
    · rw [less_len (by rw [E.lw x hx, al]), E.lw x hx]
  · rw [lk] at hi
    by_cases c : i < hs.length
    · rw [hd_old c]; exact Nat.lt_succ_of_lt (E.hlt i c)
    · have : i = hs.length := by omega
      subst this
      rw [hd_new]; omega
  · rw [lk] at hj
    rw [hd_old (by omega : i < hs.length)]
    by_cases c : j < hs.length
    · rw [hd_old c]; exact E.asc i j hij c
    · have : j = hs.length := by omega
      subst this
      rw [hd_new]; exact E.hlt i hij
  · rw [← hq]
    refine E.ds.next (a := cf a) E.pz ⟨a, am, rfl⟩ (by rw [hq]; exact h3) ?_
    rintro v ⟨r, hr, rfl⟩
    rcases mem2 r hr with rfl | ⟨x, hx, rfl⟩
    · exact .inl rfl
    · exact .inr ⟨cf x, ⟨x, hx, rfl⟩, fun j => by rw [exact' x hx j, hq]⟩
  · rw [lk] at hi hj
    by_cases ci : i < hs.length
    · obtain ⟨i', _, _, _, g, _, e⟩ := ent i (by omega) (by omega)
      have := g ci
      subst this
      by_cases cj : j < hs.length
      · rw [hd_old cj]
        have e := e (hd' hs j)
        rw [E.pv i' j ci cj, arow _ (E.hlt j cj)] at e
        by_cases ij : i' = j
        · rw [if_pos ij] at e ⊢
          have : p * cf (rw' (clr a hs.length place p 0 (swL L hs.length at')) i') (hd' hs j) = p * q := by rw [e]; grind
          exact Int.eq_of_mul_eq_mul_left E.pz this
        · rw [if_neg ij] at e ⊢
          exact nul (by rw [e]; grind)
      · have : j = hs.length := by omega
        subst this
        rw [hd_new, if_neg (by omega)]
        have e := e place
        rw [hq] at e
        exact nul (by rw [e]; grind)
    · have : i = hs.length := by omega
      subst this
      rw [rowk]
      by_cases cj : j < hs.length
      · rw [hd_old cj, arow _ (E.hlt j cj), if_neg (by omega)]
      · have : j = hs.length := by omega
        subst this
        rw [hd_new, hq, if_pos rfl]
  · rw [lk] at hi
    by_cases ci : i < hs.length
    · rw [hd_old ci] at hc
      obtain ⟨i', _, _, _, g, _, e⟩ := ent i (by omega) (by omega)
      have := g ci
      subst this
      have e := e c
      rw [E.lo i' ci c hc, arow c (Nat.lt_trans hc (E.hlt i' ci))] at e
      exact nul (by rw [e]; grind)
    · have : i = hs.length := by omega
      subst this
      rw [hd_new] at hc
      rw [rowk]
      exact arow c hc
  · rw [lk] at h1'
    obtain ⟨j, hj, _, g, _, _, e⟩ := ent i h2' (by omega)
    have gj := g (by omega)
    have e := e c
    by_cases cp : c = place
    · subst cp
      rw [hq] at e
      exact nul (by rw [e]; grind)
    · rw [E.low j gj hj c (by omega), arow c (by omega)] at e
      exact nul (by rw [e]; grind)
  · rcases mem2 r hr with rfl | ⟨x, hx, rfl⟩
    · exact E.s1 _ am
    · refine (((E.s1 x hx).smul ((q : Rat) / p)).sub ((E.s1 a am).smul ((cf x place : Rat) / p))).of_eq fun c => ?_
      have := lessq x hx c
      grind
  · refine (E.s2 r hr).mono ?_
    rintro v ⟨x, hx, rfl⟩
    have ma : Sp (Rq (clr a hs.length place p 0 (swL L hs.length at'))) (vq a) := Sp.mem ⟨a, by
      have mm := rw_mem (L := clr a hs.length place p 0 (swL L hs.length at')) (i := hs.length) (by rw [clr_len, sw_len]; exact hkL)
      rw [rowk] at mm
      exact mm, rfl⟩
    rcases back x hx with rfl | hm
    · exact ma
    · refine (((Sp.mem ⟨_, hm, rfl⟩).smul ((p : Rat) / q)).add (ma.smul ((cf x place : Rat) / q))).of_eq fun c => ?_
      have := lessq x hx c
      grind
  · rw [lk]
    show BdR r (2 * bt b hs.length + 1)
    rcases mem2 r hr with rfl | ⟨x, hx, rfl⟩
    · exact (E.bd _ am).mono (by omega)
    · intro t ht
      obtain ⟨c, hc, rfl⟩ := List.mem_iff_getElem.mp ht
      have e : (lessL x a place p)[c] = cf (lessL x a place p) c := by unfold cf; rw [List.getElem?_eq_getElem hc]; rfl
      rw [e, cf_less (by rw [E.lw x hx, al])]
      have dv := E.ds.dvd (a := cf a) (x := cf x) ⟨a, am, rfl⟩ ⟨x, hx, rfl⟩ place c
      have bx := E.bd x hx
      have ba := E.bd a am
      have m1 := (ba.cf place).mul (bx.cf c)
      have m2 := (bx.cf place).mul (ba.cf c)
      have s := m1.sub m2
      have l := natAbs_fdiv_le dv
      exact (s.le l).mono (by omega)
  · rw [lk, ← hq]
    exact (E.bd a am).cf place
end My
namespace My
open PySem PySem.Spec PyProof.Rows L2 ClX Dl PyProof
/-! reduced -/
theorem callPi {i : Nat} {F : List D → List D → Option (D × List D)} {fa : FA} {δ δ1 : Es} {w w' : Ow} {xs0 xs xs' ds : List D} {d : D} (h0 : δ[i]? = some (.own w' xs0)) (hfa : fa δ = some (ds, δ1)) (h1 : δ1[i]? = some (.own w xs)) (hl : isL w = true) (hF : F xs ds = some (d, xs')) : fCallP i F fa δ = some (d, δ1.set i (.own w xs')) := by
  have o : isOwn δ[i]? = true := by rw [h0]; rfl
  rw [fCallP, if_pos o, hfa, Option.bind_some]
  dsimp only
  rw [h1]
  dsimp only
  rw [if_pos hl, hF]
  rfl
theorem callF_eq {F : List D → Option (List D)} {fa : FA} {δ δ1 : Es} {ds xs : List D} (h : fa δ = some (ds, δ1)) (hF : F ds = some xs) : fCallF F fa δ = some (xs, δ1) := by
  rw [fCallF, h, Option.bind_some]
  dsimp only
  rw [hF]
  rfl
theorem cons4 {f g h i : FE} {δ δ1 δ2 δ3 δ4 : Es} {a b c d : D} (h1 : f δ = some (a, δ1)) (h2 : g δ1 = some (b, δ2)) (h3 : h δ2 = some (c, δ3)) (h4 : i δ3 = some (d, δ4)) : fCons f (fCons g (fCons h (fCons i fNil))) δ = some ([a, b, c, d], δ4) := by
  simp only [fCons, h1, h2, h3, h4, Option.bind_some, fNil]
abbrev natD (hs : List Nat) : List D := hs.map fun h : Nat => D.int (h : Int)
def rd1 : FS := sSet 6 (fLenN 3)
def rd2 : FS := sSet 7 (fCallP 2 G_first_with (fCons (fV 6) (fCons (fV 5) fNil)))
def rd4 : FS := sAsg (fTup (fCons (fIxN 2 (fV 7)) (fCons (fIxN 2 (fV 6)) fNil))) (gT 2 (gsCons (gI1 2 (fV 6)) (gsCons (gI1 2 (fV 7)) gsNil)))
def rd5 : FS := sOwn 2 (fCallF G_cleared (fCons (fV 2) (fCons (fV 6) (fCons (fV 5) (fCons (fV 4) fNil)))))
def rd6 : FS := sSet 4 (fBin gIx (fIxN 2 (fV 6)) (fV 5))
def rd7 : FS := sApp 3 (fV 5)
def rd3 : FS := sIf (fB (fBin gNotN (fV 7) (fC .non))) (sSeq rd4 (sSeq rd5 (sSeq rd6 rd7))) sNil
def rdB : FS := sSeq rd1 (sSeq rd2 rd3)
abbrev SE (rows : D) (w : Nat) (L : List (List Int)) (hs : List Nat) (p : Int) (s5 s6 s7 : Sl) : Es := [.val rows, .val (.int (w : Int)), .own .mine (L.map rowI), .own .mine (natD hs), .val (.int p), s5, s6, s7]
theorem at_row {L : List (List Int)} {i : Nat} (h : i < L.length) : atI (L.map rowI) (i : Int) = some (rowI (rw' L i)) := by
  rw [atI_nat _ _ (by simpa using h), List.getElem?_map, get_rw h]
  rfl
theorem ixN_nat {n i : Nat} (h : i < n) : ixN n (i : Int) = some i := by simp [ixN, h]
theorem map_sw (L : List (List Int)) (k at' : Nat) : ((L.map rowI).set k (rowI (rw' L at'))).set at' (rowI (rw' L k)) = (swL L k at').map rowI := by
  rw [List.map_set, List.map_set]
theorem sIf_t {c : FT} {a b : FS} {δ δ1 : Es} (h : c δ = some (true, δ1)) : sIf c a b δ = a δ1 := by
  rw [sIf, h]; rfl
theorem rd_turn {n w b : Nat} {A : List (List Int)} {place : Nat} {L : List (List Int)} {hs : List Nat} {p : Int} (E : Ei n w b A place L hs p) (hn : n ≤ 500) (hp : place < w) (hw : w ≤ 60) (hb : bt b w ≤ 200000) (hb2 : bt b (w - 2) ≤ 8900) {rows : D} {s6 s7 : Sl} :
    ∃ L' hs' p' s6' s7', rdB (SE rows w L hs p (.val (.int (place : Int))) s6 s7) = some (.nx (SE rows w L' hs' p' (.val (.int (place : Int))) s6' s7')) ∧ Ei n w b A (place + 1) L' hs' p' := by
  have hk := E.hk
  have hlp := E.hp
  have ln := E.ln
  have c1 : rd1 (SE rows w L hs p (.val (.int (place : Int))) s6 s7) = some (.nx (SE rows w L hs p (.val (.int (place : Int))) (.val (.int (hs.length : Int))) s7)) := by
    have l : fLenN 3 (SE rows w L hs p (.val (.int (place : Int))) s6 s7) = some (.int ((natD hs).length : Int), SE rows w L hs p (.val (.int (place : Int))) s6 s7) := rfl
    rw [List.length_map] at l
    exact set_eq l
  have fw := p_first (L := L) (k := hs.length) (h := place) hp E.lw (by omega) (by omega)
  have c2 : rd2 (SE rows w L hs p (.val (.int (place : Int))) (.val (.int (hs.length : Int))) s7) = some (.nx (SE rows w L hs p (.val (.int (place : Int))) (.val (.int (hs.length : Int))) (.val (oD (fwL L place (L.length - hs.length) hs.length))))) := by
    have f : fCons (fV 6) (fCons (fV 5) fNil) (SE rows w L hs p (.val (.int (place : Int))) (.val (.int (hs.length : Int))) s7) = some ([.int (hs.length : Int), .int (place : Int)], SE rows w L hs p (.val (.int (place : Int))) (.val (.int (hs.length : Int))) s7) := cons2 rfl rfl
    have c : fCallP 2 G_first_with (fCons (fV 6) (fCons (fV 5) fNil)) (SE rows w L hs p (.val (.int (place : Int))) (.val (.int (hs.length : Int))) s7) = some (oD (fwL L place (L.length - hs.length) hs.length), SE rows w L hs p (.val (.int (place : Int))) (.val (.int (hs.length : Int))) s7) := callPi (i := 2) (w := .mine) (w' := .mine) (xs0 := L.map rowI) rfl f rfl rfl fw
    exact set_eq c
  cases hf : fwL L place (L.length - hs.length) hs.length with
  | none =>
    rw [hf] at c2
    refine ⟨L, hs, p, .val (.int (hs.length : Int)), .val .non, ?_, E.skip fun i h1 h2 => fw_none hf i h1 (by omega)⟩
    have c3 : rd3 (SE rows w L hs p (.val (.int (place : Int))) (.val (.int (hs.length : Int))) (.val .non)) = some (.nx (SE rows w L hs p (.val (.int (place : Int))) (.val (.int (hs.length : Int))) (.val .non))) := sIf_f (fB_eq (bin_eq rfl rfl rfl))
    rw [rdB, seq_nx c1, seq_nx c2]
    exact c3
  | some at' =>
    rw [hf] at c2
    obtain ⟨h1, h2, h3⟩ := fw_some hf
    have h2n : at' < n := by omega
    have Sw := E.sweep h1 h2n h3
    refine ⟨_, _, _, .val (.int (hs.length : Int)), .val (.int (at' : Int)), ?_, Sw⟩
    have haL : at' < L.length := by omega
    have hkL : hs.length < L.length := by omega
    have g1 : fIxN 2 (fV 7) (SE rows w L hs p (.val (.int (place : Int))) (.val (.int (hs.length : Int))) (.val (.int (at' : Int)))) = some (rowI (rw' L at'), SE rows w L hs p (.val (.int (place : Int))) (.val (.int (hs.length : Int))) (.val (.int (at' : Int)))) := ixO_val rfl rfl (at_row haL)
    have g2 : fIxN 2 (fV 6) (SE rows w L hs p (.val (.int (place : Int))) (.val (.int (hs.length : Int))) (.val (.int (at' : Int)))) = some (rowI (rw' L hs.length), SE rows w L hs p (.val (.int (place : Int))) (.val (.int (hs.length : Int))) (.val (.int (at' : Int)))) := ixO_val rfl rfl (at_row hkL)
    have c4 : rd4 (SE rows w L hs p (.val (.int (place : Int))) (.val (.int (hs.length : Int))) (.val (.int (at' : Int)))) = some (.nx (SE rows w (swL L hs.length at') hs p (.val (.int (place : Int))) (.val (.int (hs.length : Int))) (.val (.int (at' : Int))))) := by
      have t1 : gI1 2 (fV 6) (rowI (rw' L at')) (SE rows w L hs p (.val (.int (place : Int))) (.val (.int (hs.length : Int))) (.val (.int (at' : Int)))) = some ([.val rows, .val (.int (w : Int)), .own .mine ((L.map rowI).set hs.length (rowI (rw' L at'))), .own .mine (natD hs), .val (.int p), .val (.int (place : Int)), .val (.int (hs.length : Int)), .val (.int (at' : Int))]) := by
        have : gI1 2 (fV 6) (rowI (rw' L at')) (SE rows w L hs p (.val (.int (place : Int))) (.val (.int (hs.length : Int))) (.val (.int (at' : Int)))) = (ixN (L.map rowI).length (hs.length : Int)).map fun n => [.val rows, .val (.int (w : Int)), .own .mine ((L.map rowI).set n (rowI (rw' L at'))), .own .mine (natD hs), .val (.int p), .val (.int (place : Int)), .val (.int (hs.length : Int)), .val (.int (at' : Int))] := rfl
        rw [this, List.length_map, ixN_nat hkL]
        rfl
      have t2 : gI1 2 (fV 7) (rowI (rw' L hs.length)) [.val rows, .val (.int (w : Int)), .own .mine ((L.map rowI).set hs.length (rowI (rw' L at'))), .own .mine (natD hs), .val (.int p), .val (.int (place : Int)), .val (.int (hs.length : Int)), .val (.int (at' : Int))] = some (SE rows w (swL L hs.length at') hs p (.val (.int (place : Int))) (.val (.int (hs.length : Int))) (.val (.int (at' : Int)))) := by
        have : gI1 2 (fV 7) (rowI (rw' L hs.length)) [.val rows, .val (.int (w : Int)), .own .mine ((L.map rowI).set hs.length (rowI (rw' L at'))), .own .mine (natD hs), .val (.int p), .val (.int (place : Int)), .val (.int (hs.length : Int)), .val (.int (at' : Int))] = (ixN ((L.map rowI).set hs.length (rowI (rw' L at'))).length (at' : Int)).map fun n => [.val rows, .val (.int (w : Int)), .own .mine (((L.map rowI).set hs.length (rowI (rw' L at'))).set n (rowI (rw' L hs.length))), .own .mine (natD hs), .val (.int p), .val (.int (place : Int)), .val (.int (hs.length : Int)), .val (.int (at' : Int))] := rfl
        rw [this, List.length_set, List.length_map, ixN_nat haL, Option.map_some, map_sw]
      have tg : gT 2 (gsCons (gI1 2 (fV 6)) (gsCons (gI1 2 (fV 7)) gsNil)) (.tup [rowI (rw' L at'), rowI (rw' L hs.length)]) (SE rows w L hs p (.val (.int (place : Int))) (.val (.int (hs.length : Int))) (.val (.int (at' : Int)))) = some (SE rows w (swL L hs.length at') hs p (.val (.int (place : Int))) (.val (.int (hs.length : Int))) (.val (.int (at' : Int)))) := by
        show (gI1 2 (fV 6) (rowI (rw' L at')) _).bind (fun δ1 => (gI1 2 (fV 7) (rowI (rw' L hs.length)) δ1).bind fun δ2 => gsNil [] δ2) = _
        rw [t1, Option.bind_some, t2]
        rfl
      rw [rd4, sAsg, tup_eq (cons2 g1 g2) (by show 2 ≤ big; decide), Option.bind_some]
      dsimp only
      rw [tg]
      rfl
    have swm : ∀ r, r ∈ swL L hs.length at' → r.length = w ∧ BdR r 300000 := fun r hr => by
      have hm : r ∈ L := by
        rcases List.mem_or_eq_of_mem_set hr with h | rfl
        · rcases List.mem_or_eq_of_mem_set h with h | rfl
          · exact h
          · exact rw_mem haL
        · exact rw_mem hkL
      have hle := bt_le b (show hs.length ≤ w by omega)
      exact ⟨E.lw r hm, (E.bd r hm).mono (by omega)⟩
    have bp : Bd p 8900 := E.bp.mono (by
      have := bt_le b (show hs.length - 1 ≤ w - 2 by omega)
      omega)
    have cl := p_cleared (L := swL L hs.length at') (k := hs.length) (h := place) (w := w) (p := p) (by rw [sw_len]; exact hkL) hp (by omega) E.pz bp swm (a := rw' L at') (by rw [get_rw (by rw [sw_len]; exact hkL), sw_k hkL haL]) (by rw [sw_len]; omega)
    generalize hL2 : clr (rw' L at') hs.length place p 0 (swL L hs.length at') = L2 at *
    have c5 : rd5 (SE rows w (swL L hs.length at') hs p (.val (.int (place : Int))) (.val (.int (hs.length : Int))) (.val (.int (at' : Int)))) = some (.nx (SE rows w L2 hs p (.val (.int (place : Int))) (.val (.int (hs.length : Int))) (.val (.int (at' : Int))))) := by
      have f : fCons (fV 2) (fCons (fV 6) (fCons (fV 5) (fCons (fV 4) fNil))) (SE rows w (swL L hs.length at') hs p (.val (.int (place : Int))) (.val (.int (hs.length : Int))) (.val (.int (at' : Int)))) = some ([encI (swL L hs.length at'), .int (hs.length : Int), .int (place : Int), .int p], [.val rows, .val (.int (w : Int)), .val (encI (swL L hs.length at')), .own .mine (natD hs), .val (.int p), .val (.int (place : Int)), .val (.int (hs.length : Int)), .val (.int (at' : Int))]) := cons4 rfl rfl rfl rfl
      exact own_eq (callF_eq f cl)
    have l2 : hs.length < L2.length := by rw [← hL2, clr_len, sw_len]; exact hkL
    have rk : rw' L2 hs.length = rw' L at' := by
      rw [← hL2]
      show ((clr (rw' L at') hs.length place p 0 (swL L hs.length at'))[hs.length]?).getD [] = _
      rw [clr_get, get_rw (by rw [sw_len]; exact hkL), sw_k hkL haL]
      simp
    have c6 : rd6 (SE rows w L2 hs p (.val (.int (place : Int))) (.val (.int (hs.length : Int))) (.val (.int (at' : Int)))) = some (.nx (SE rows w L2 hs (cf (rw' L at') place) (.val (.int (place : Int))) (.val (.int (hs.length : Int))) (.val (.int (at' : Int))))) := by
      have i1 : fIxN 2 (fV 6) (SE rows w L2 hs p (.val (.int (place : Int))) (.val (.int (hs.length : Int))) (.val (.int (at' : Int)))) = some (rowI (rw' L at'), SE rows w L2 hs p (.val (.int (place : Int))) (.val (.int (hs.length : Int))) (.val (.int (at' : Int)))) := ixO_val rfl rfl (by rw [at_row l2, rk])
      have i2 : fV 5 (SE rows w L2 hs p (.val (.int (place : Int))) (.val (.int (hs.length : Int))) (.val (.int (at' : Int)))) = some (.int (place : Int), SE rows w L2 hs p (.val (.int (place : Int))) (.val (.int (hs.length : Int))) (.val (.int (at' : Int)))) := rfl
      have i3 : gIx (rowI (rw' L at')) (.int (place : Int)) = some (.int (cf (rw' L at') place)) := ix_rowI (by rw [E.lw _ (rw_mem haL)]; exact hp)
      have i4 : fBin gIx (fIxN 2 (fV 6)) (fV 5) (SE rows w L2 hs p (.val (.int (place : Int))) (.val (.int (hs.length : Int))) (.val (.int (at' : Int)))) = some (.int (cf (rw' L at') place), SE rows w L2 hs p (.val (.int (place : Int))) (.val (.int (hs.length : Int))) (.val (.int (at' : Int)))) := bin_eq i1 i2 i3
      exact set_eq i4
    have c7 : rd7 (SE rows w L2 hs (cf (rw' L at') place) (.val (.int (place : Int))) (.val (.int (hs.length : Int))) (.val (.int (at' : Int)))) = some (.nx (SE rows w L2 (hs ++ [place]) (cf (rw' L at') place) (.val (.int (place : Int))) (.val (.int (hs.length : Int))) (.val (.int (at' : Int))))) := by
      have a := app_eq (i := 3) (fe := fV 5) (δ := SE rows w L2 hs (cf (rw' L at') place) (.val (.int (place : Int))) (.val (.int (hs.length : Int))) (.val (.int (at' : Int)))) (acc0 := natD hs) (acc := natD hs) (d := .int (place : Int)) rfl rfl rfl (by unfold big; rw [List.length_map]; omega)
      have e : natD hs ++ [.int (place : Int)] = natD (hs ++ [place]) := by simp
      rw [e] at a
      exact a
    have c3 : rd3 (SE rows w L hs p (.val (.int (place : Int))) (.val (.int (hs.length : Int))) (.val (.int (at' : Int)))) = some (.nx (SE rows w L2 (hs ++ [place]) (cf (rw' L at') place) (.val (.int (place : Int))) (.val (.int (hs.length : Int))) (.val (.int (at' : Int))))) := by
      rw [rd3, sIf_t (fB_eq (bin_eq rfl rfl rfl)), seq_nx c4, seq_nx c5, seq_nx c6, c7]
    rw [rdB, seq_nx c1, seq_nx c2]
    exact c3
theorem loop_nx {ft : FG} {g : FS} {d : D} {ds : List D} {δ δ1 δ2 : Es} (h1 : ft d δ = some δ1) (h2 : g δ1 = some (.nx δ2)) : loopF ft g (d :: ds) δ = loopF ft g ds δ2 := by
  rw [loopF, h1, Option.bind_some, h2]
  rfl
theorem rd_loop {n w b : Nat} {A : List (List Int)} (hn : n ≤ 500) (hw : w ≤ 60) (hb : bt b w ≤ 200000) (hb2 : bt b (w - 2) ≤ 8900) {rows : D} (m : Nat) : ∀ (place : Nat) (L : List (List Int)) (hs : List Nat) (p : Int) (s5 s6 s7 : Sl), place + m = w → Ei n w b A place L hs p →
    ∃ L' hs' p' s5' s6' s7', loopF (gN 5) rdB (intsD (place : Int) m) (SE rows w L hs p s5 s6 s7) = some (.nx (SE rows w L' hs' p' s5' s6' s7')) ∧ Ei n w b A w L' hs' p' := by
  induction m with
  | zero =>
    intro place L hs p s5 s6 s7 h E
    have e : place = w := h
    rw [e] at E
    exact ⟨L, hs, p, s5, s6, s7, rfl, E⟩
  | succ m ih =>
    intro place L hs p s5 s6 s7 h E
    have hpw : place < w := by clear E ih; omega
    obtain ⟨L1, hs1, p1, t6, t7, e1, E1⟩ := rd_turn E hn hpw hw hb hb2 (rows := rows) (s6 := s6) (s7 := s7)
    have h2 : place + 1 + m = w := by clear E E1 ih; omega
    obtain ⟨L', hs', p', r5, r6, r7, e2, E2⟩ := ih (place + 1) L1 hs1 p1 (.val (.int (place : Int))) t6 t7 h2 E1
    refine ⟨L', hs', p', r5, r6, r7, ?_, E2⟩
    rw [intsD_cons]
    have q : ((place : Int) + 1) = ((place + 1 : Nat) : Int) := by omega
    rw [q]
    exact (loop_nx (δ1 := SE rows w L hs p (.val (.int (place : Int))) s6 s7) rfl e1).trans e2
theorem p_reduced {n w b : Nat} {A : List (List Int)} (ln : A.length = n) (hn : n ≤ 500) (hw : w ≤ 60) (hb1 : 1 ≤ b) (hb : bt b w ≤ 200000) (hb2 : bt b (w - 2) ≤ 8900) (lw : ∀ r, r ∈ A → r.length = w) (bd : ∀ r, r ∈ A → BdR r b) : ∃ L hs p, G_reduced [encI A, .int (w : Int)] = some (.tup [encI (L.take hs.length), .lst (natD hs), .int p]) ∧ Ei n w b A w L hs p := by
  have E0 : Ei n w b A 0 A [] 1 := ⟨ln, lw, Nat.zero_le _, Nat.le_refl _, fun i hi => by simp at hi, fun i j _ hj => by simp at hj, by decide, Ds.start _, fun i j hi _ => by simp at hi, fun i hi => by simp at hi, fun i _ _ c hc => by omega, fun r hr => Sp.mem ⟨r, hr, rfl⟩, fun r hr => Sp.mem ⟨r, hr, rfl⟩, bd, bdOne (by show b ≠ 0; omega)⟩
  obtain ⟨L, hs, p, s5, s6, s7, lp, E⟩ := rd_loop hn hw hb hb2 (rows := encI A) w 0 A [] 1 .un .un .un (by omega) E0
  refine ⟨L, hs, p, ?_, E⟩
  have s1 : sOwn 2 (fLof (fCons (fV 0) fNil)) [.val (encI A), .val (.int (w : Int)), .un, .un, .un, .un, .un, .un] = some (.nx [.val (encI A), .val (.int (w : Int)), .own .mine (A.map rowI), .un, .un, .un, .un, .un]) := rfl
  have s2 : sOwn 3 (fLst fNil) [.val (encI A), .val (.int (w : Int)), .own .mine (A.map rowI), .un, .un, .un, .un, .un] = some (.nx [.val (encI A), .val (.int (w : Int)), .own .mine (A.map rowI), .own .mine [], .un, .un, .un, .un]) := rfl
  have s3 : sSet 4 (fC (.int 1)) [.val (encI A), .val (.int (w : Int)), .own .mine (A.map rowI), .own .mine [], .un, .un, .un, .un] = some (.nx (SE (encI A) w A [] 1 .un .un .un)) := rfl
  have rg := rg1_int (w : Int) (by omega) (by omega) (fa := fCons (fV 1) fNil) (δ := SE (encI A) w A [] 1 .un .un .un) (δ1 := SE (encI A) w A [] 1 .un .un .un) rfl
  rw [Int.toNat_natCast] at rg
  have s4 : sFor (fRg1 (fCons (fV 1) fNil)) (gN 5) rdB (SE (encI A) w A [] 1 .un .un .un) = some (.nx (SE (encI A) w L hs p s5 s6 s7)) := by
    rw [sFor, rg]
    exact lp
  have l3 : fLenN 3 [.val (encI A), .val (.int (w : Int)), .val (encI L), .own .mine (natD hs), .val (.int p), s5, s6, s7] = some (.int ((natD hs).length : Int), [.val (encI A), .val (.int (w : Int)), .val (encI L), .own .mine (natD hs), .val (.int p), s5, s6, s7]) := rfl
  rw [List.length_map] at l3
  have hkl : hs.length ≤ L.length := by rw [E.ln]; exact E.hk
  have ct := cut_take (L.map rowI) hs.length (by simpa using hkl)
  have sl : fSlice (fV 2) fNoPart (fPart (fLenN 3)) (SE (encI A) w L hs p s5 s6 s7) = some ((L.take hs.length).map rowI, [.val (encI A), .val (.int (w : Int)), .val (encI L), .own .mine (natD hs), .val (.int p), s5, s6, s7]) := by
    have v : fV 2 (SE (encI A) w L hs p s5 s6 s7) = some (encI L, [.val (encI A), .val (.int (w : Int)), .val (encI L), .own .mine (natD hs), .val (.int p), s5, s6, s7]) := rfl
    rw [fSlice, v, Option.bind_some]
    dsimp only
    rw [fNoPart, Option.bind_some]
    dsimp only
    rw [fPart, l3, Option.bind_some, Option.bind_some]
    dsimp only
    rw [ct, List.map_take]
  have s5' : sRet (fTup (fCons (fFr (fSlice (fV 2) fNoPart (fPart (fLenN 3)))) (fCons (fV 3) (fCons (fV 4) fNil)))) (SE (encI A) w L hs p s5 s6 s7) = some (.rt (.tup [encI (L.take hs.length), .lst (natD hs), .int p]) [.val (encI A), .val (.int (w : Int)), .val (encI L), .val (.lst (natD hs)), .val (.int p), s5, s6, s7]) := by
    rw [sRet, tup_eq (cons3 (fr_eq sl) rfl rfl) (by show 3 ≤ big; decide)]
    rfl
  have gi : g_reduced = sSeq (sOwn 2 (fLof (fCons (fV 0) fNil))) (sSeq (sOwn 3 (fLst fNil)) (sSeq (sSet 4 (fC (.int 1))) (sSeq (sFor (fRg1 (fCons (fV 1) fNil)) (gN 5) rdB) (sRet (fTup (fCons (fFr (fSlice (fV 2) fNoPart (fPart (fLenN 3)))) (fCons (fV 3) (fCons (fV 4) fNil)))))))) := rfl
  show (g_reduced [.val (encI A), .val (.int (w : Int)), .un, .un, .un, .un, .un, .un]).bind endD = _
  rw [gi, seq_nx s1, seq_nx s2, seq_nx s3, seq_nx s4, s5']
  rfl
end My
namespace My
open PySem PySem.Spec PyProof.Rows L2 ClX Dl PyProof
/-! walks over coded lists -/
theorem lc_filt {α : Type} {f g : α → D} {c : α → Bool} {ft : FG} {fc : FT} {fe : FE} {vs : List Nat} {δ : Es} : ∀ (l : List α) (acc : List D), (∀ a, a ∈ l → ∃ δd, ft (f a) δ = some δd ∧ fc δd = some (c a, δd) ∧ (c a = true → fe δd = some (g a, δd)) ∧ wipeE δd vs = δ) → acc.length + l.length ≤ big → lcF ft fc fe vs (l.map f) acc δ = some (acc ++ (l.filter c).map g, δ)
  | [], acc, _, _ => by rw [List.map_nil, lcF]; simp
  | a :: l, acc, h, hb => by
    obtain ⟨δd, h1, h2, h3, h4⟩ := h a (List.mem_cons_self ..)
    rw [List.length_cons] at hb
    rw [List.map_cons, lcF, h1, Option.bind_some, h2, Option.bind_some]
    dsimp only
    cases e : c a with
    | true =>
      rw [if_pos rfl, h3 e, Option.bind_some]
      dsimp only
      rw [if_pos (by omega), h4, lc_filt l (acc ++ [g a]) (fun a ha => h a (List.mem_cons_of_mem _ ha)) (by simp; omega), List.filter_cons_of_pos (by exact e)]
      simp
    | false =>
      rw [if_neg (by simp), h4, lc_filt l acc (fun a ha => h a (List.mem_cons_of_mem _ ha)) (by omega), List.filter_cons_of_neg (by rw [e]; simp)]
theorem flc_filt {α : Type} {f g : α → D} {c : α → Bool} {fI : FA} {ft : FG} {fc : FT} {fe : FE} {vs : List Nat} {δ0 δ : Es} {l : List α} (hI : fI δ0 = some (l.map f, δ)) (hw : wipeE δ vs = δ) (hl : l.length ≤ big) (h : ∀ a, a ∈ l → ∃ δd, ft (f a) δ = some δd ∧ fc δd = some (c a, δd) ∧ (c a = true → fe δd = some (g a, δd)) ∧ wipeE δd vs = δ) : fLc fI ft fc fe vs δ0 = some ((l.filter c).map g, δ) := by
  rw [fLc, hI, Option.bind_some]
  dsimp only
  rw [hw, lc_filt l [] h (by simpa using hl)]
  rfl
theorem flc_map {α : Type} {f g : α → D} {fI : FA} {ft : FG} {fe : FE} {vs : List Nat} {δ0 δ : Es} {l : List α} (hI : fI δ0 = some (l.map f, δ)) (hw : wipeE δ vs = δ) (hl : l.length ≤ big) (h : ∀ a, a ∈ l → ∃ δd, ft (f a) δ = some δd ∧ fe δd = some (g a, δd) ∧ wipeE δd vs = δ) : fLc fI ft fYes fe vs δ0 = some (l.map g, δ) := by
  have := flc_filt (c := fun _ => true) (g := g) (fc := fYes) (fe := fe) hI hw hl fun a ha => by
    obtain ⟨δd, h1, h2, h3⟩ := h a ha
    exact ⟨δd, h1, rfl, fun _ => h2, h3⟩
  rw [List.filter_eq_self.mpr (fun _ _ => rfl)] at this
  exact this
/-- a walk whose turns all go on -/
theorem loop_inv {α : Type} {f : α → D} {ft : FG} {g : FS} (I : List α → Es → Prop) : ∀ (l : List α) (δ : Es), (∀ a r δ, I (a :: r) δ → ∃ δ1 δ2, ft (f a) δ = some δ1 ∧ g δ1 = some (.nx δ2) ∧ I r δ2) → I l δ → ∃ δ', loopF ft g (l.map f) δ = some (.nx δ') ∧ I [] δ'
  | [], δ, _, h => ⟨δ, rfl, h⟩
  | a :: r, δ, st, h => by
    obtain ⟨δ1, δ2, e1, e2, h2⟩ := st a r δ h
    obtain ⟨δ', e, h'⟩ := loop_inv I r δ2 st h2
    exact ⟨δ', by rw [List.map_cons, loop_nx e1 e2, e], h'⟩
theorem pairs_zip {α β : Type} (f : α → D) (g : β → D) : ∀ (xs : List α) (ys : List β), pairsD (xs.map f) (ys.map g) = (xs.zip ys).map fun p => .tup [f p.1, g p.2]
  | [], _ => rfl
  | _ :: _, [] => rfl
  | x :: xs, y :: ys => by
    show D.tup [f x, g y] :: pairsD (xs.map f) (ys.map g) = _
    rw [pairs_zip f g xs ys]
    rfl
theorem for_eq {fI : FA} {ft : FG} {g : FS} {δ δ1 : Es} {ds : List D} {r : Option Fl} (h : fI δ = some (ds, δ1)) (hl : loopF ft g ds δ1 = r) : sFor fI ft g δ = r := by
  rw [sFor, h]; exact hl
theorem ret_eq {fe : FE} {δ δ1 : Es} {d : D} (h : fe δ = some (d, δ1)) : sRet fe δ = some (.rt d δ1) := by
  rw [sRet, h]; rfl
theorem un_eq {g : D → Option D} {fa : FE} {δ δ1 : Es} {x d : D} (h : fa δ = some (x, δ1)) (hg : g x = some d) : fUn g fa δ = some (d, δ1) := by
  rw [fUn, h, Option.bind_some]
  dsimp only
  rw [hg]; rfl
theorem not_t {f : FT} {δ δ1 : Es} (h : f δ = some (false, δ1)) : fNot f δ = some (true, δ1) := by
  rw [fNot, h]; rfl
theorem not_b {f : FT} {δ δ1 : Es} {b : Bool} (h : f δ = some (b, δ1)) : fNot f δ = some (!b, δ1) := by
  rw [fNot, h]; rfl
theorem mk_eq {q q' t t' : Int} (hq : q ≠ 0) (hq' : q' ≠ 0) (h : t * q' = t' * q) : mk q t = mk q' t' := by
  have a := nrm_is (t := t) hq
  have b := nrm_is (t := t') hq'
  have c : IsN t' q' (nrm t q).1 (nrm t q).2 := ⟨a.pos, a.one, by
    have e1 := a.eq
    have : q * ((nrm t q).1 * q') = q * (t' * (nrm t q).2) := by grind
    exact Int.eq_of_mul_eq_mul_left hq this⟩
  have u := isN_unique hq' c b
  show R _ _ = R _ _
  rw [u.1, u.2]
theorem call5 {F : List D → Option D} {fa fb fc fd fe : FE} {δ : Es} {a b c d e r : D} (ha : fa δ = some (a, δ)) (hb : fb δ = some (b, δ)) (hc : fc δ = some (c, δ)) (hd : fd δ = some (d, δ)) (he : fe δ = some (e, δ)) (hF : F [a, b, c, d, e] = some r) : fCall F (gPos []) (fCons fa (fCons fb (fCons fc (fCons fd (fCons fe fNil))))) fNil δ = some (r, δ) := by
  simp only [fCall, fCons, fNil, ha, hb, hc, hd, he, Option.bind_some, Option.map_some, gPos, List.append_nil, hF]
abbrev gE3 : D → D → Option D := gOr (gOr gEqF (gOwnE 0 G_Ratio_eq)) (gB false (eqLs eq3))
abbrev gN3 : D → D → Option D := gOr (gOr gNeF (gOwnNe 0 G_Ratio_eq)) (gB true (eqLs eq3))
theorem gE3_lst {as bs : List D} {b : Bool} (h : eqLs eq3 (.lst as) (.lst bs) = some b) : gE3 (.lst as) (.lst bs) = some (.bl b) := by
  refine (gOr_r (by rfl)).trans ?_
  show (eqLs eq3 _ _).map _ = _
  rw [h]; cases b <;> rfl
theorem gN3_lst {as bs : List D} {b : Bool} (h : eqLs eq3 (.lst as) (.lst bs) = some b) : gN3 (.lst as) (.lst bs) = some (.bl (!b)) := by
  refine (gOr_r (by rfl)).trans ?_
  show (eqLs eq3 _ _).map _ = _
  rw [h]; cases b <;> rfl
theorem gE3_int (i j : Int) : gE3 (.int i) (.int j) = some (.bl (decide (i = j))) := gOr_l (gOr_l (eqF_int i j))
theorem gN3_int (i j : Int) : gN3 (.int i) (.int j) = some (.bl (!decide (i = j))) := gOr_l (gOr_l (neF_int i j))
theorem eqLs_nil (as : List D) : eqLs eq3 (.lst as) (.lst []) = some (decide (as = [])) := by
  cases as with
  | nil => rfl
  | cons a as => rfl
end My
namespace My
open PySem PySem.Spec PyProof.Rows L2 ClX Dl PyProof
/-! what is told, as a system in steps -/
abbrev vE (T : List (List Int)) (p : Int) (i : Nat) : Vec := fun j => ((cf (rw' T i) j : Int) : Rat) / (p : Rat)
structure Stp (w b : Nat) (A T : List (List Int)) (p : Int) (h : Nat → Nat) : Prop where
  lw : ∀ r, r ∈ T → r.length = w
  kw : T.length ≤ w
  hw : ∀ i, i < T.length → h i < w
  pz : p ≠ 0
  bp : Bd p b
  bd : ∀ r, r ∈ T → BdR r b
  st : St T.length h (vE T p)
  s1 : ∀ i, i < T.length → Sp (Rq A) (vE T p i)
  s2 : ∀ r, r ∈ A → Sp (Ro T.length (vE T p)) (vq r)
theorem cf_over {r : List Int} {c : Nat} (h : r.length ≤ c) : cf r c = 0 := by
  unfold cf
  rw [List.getElem?_eq_none h]
  rfl
theorem rw_take {L : List (List Int)} {k i : Nat} (h : i < k) : rw' (L.take k) i = rw' L i := by
  show ((L.take k)[i]?).getD [] = _
  rw [List.getElem?_take_of_lt h]
theorem hd_ge {hs : List Nat} (asc : ∀ i j, i < j → j < hs.length → hd' hs i < hd' hs j) : ∀ d i, i + d < hs.length → hd' hs i + d ≤ hd' hs (i + d)
  | 0, i, _ => Nat.le_refl _
  | d + 1, i, h => by
    have a := hd_ge asc d i (by omega)
    have b := asc (i + d) (i + (d + 1)) (by omega) h
    omega
theorem mem_bd {r : List Int} {n : Nat} (h : ∀ j, j < r.length → Bd (cf r j) n) : BdR r n := fun t ht => by
  obtain ⟨j, hj, rfl⟩ := List.mem_iff_getElem.mp ht
  have := h j hj
  unfold cf at this
  rw [List.getElem?_eq_getElem hj] at this
  exact this
theorem Ei.stp {n w b : Nat} {A : List (List Int)} {L : List (List Int)} {hs : List Nat} {p : Int} (E : Ei n w b A w L hs p) (hw0 : 1 ≤ w) : Stp w (bt b (w - 1)) A (L.take hs.length) p (hd' hs) := by
  have hkl : hs.length ≤ L.length := by rw [E.ln]; exact E.hk
  have lk : (L.take hs.length).length = hs.length := by rw [List.length_take]; omega
  have kw : hs.length ≤ w := E.hp
  have tr : ∀ i, i < hs.length → rw' (L.take hs.length) i = rw' L i := fun i hi => rw_take hi
  have bp : Bd p (bt b (w - 1)) := E.bp.mono (bt_le b (by omega))
  have pq : (p : Rat) ≠ 0 := by exact_mod_cast E.pz
  have mem : ∀ r, r ∈ L.take hs.length → ∃ i, i < hs.length ∧ r = rw' L i := fun r hr => by
    obtain ⟨i, hi, e⟩ := List.mem_iff_getElem.mp hr
    rw [lk] at hi
    refine ⟨i, hi, ?_⟩
    rw [← tr i hi, ← e]
    show _ = ((L.take hs.length)[i]?).getD []
    rw [List.getElem?_eq_getElem]
    rfl
  refine ⟨fun r hr => E.lw r (List.mem_of_mem_take hr), by rw [lk]; exact kw, fun i hi => by rw [lk] at hi; exact E.hlt i hi, E.pz, bp, fun r hr => ?_, ?_, fun i hi => ?_, fun r hr => ?_⟩
  · obtain ⟨i, hi, rfl⟩ := mem r hr
    have lr := E.lw _ (List.mem_of_mem_take hr)
    by_cases c : hs.length ≤ w - 1
    · exact (E.bd _ (List.mem_of_mem_take hr)).mono (bt_le b c)
    · refine mem_bd fun j hj => ?_
      rw [lr] at hj
      have e1 : hd' hs j = j := by
        have a := hd_ge E.asc j 0 (by omega)
        have b' := hd_ge E.asc (hs.length - 1 - j) j (by omega)
        have c' := E.hlt (j + (hs.length - 1 - j)) (by omega)
        rw [Nat.zero_add] at a
        omega
      have := E.pv i j hi (by omega)
      rw [e1] at this
      rw [this]
      by_cases ij : i = j
      · rw [if_pos ij]; exact bp
      · rw [if_neg ij]; exact bd0
  · refine ⟨⟨fun i hi => ?_, fun i j hi hj ne => ?_⟩, fun i j hij hj => by rw [lk] at hj; exact E.asc i j hij hj, fun i hi c hc => ?_⟩
    · rw [lk] at hi
      show ((cf (rw' (L.take hs.length) i) (hd' hs i) : Int) : Rat) / p = 1
      rw [tr i hi, E.pv i i hi hi, if_pos rfl]
      grind
    · rw [lk] at hi hj
      show ((cf (rw' (L.take hs.length) i) (hd' hs j) : Int) : Rat) / p = 0
      rw [tr i hi, E.pv i j hi hj, if_neg ne]
      grind
    · rw [lk] at hi
      show ((cf (rw' (L.take hs.length) i) c : Int) : Rat) / p = 0
      rw [tr i hi, E.lo i hi c hc]
      grind
  · rw [lk] at hi
    have m := rw_mem (L := L) (i := i) (by omega)
    refine ((E.s1 _ m).smul (1 / (p : Rat))).of_eq fun j => ?_
    show _ = ((cf (rw' (L.take hs.length) i) j : Int) : Rat) / p
    rw [tr i hi]
    grind
  · refine (E.s2 r hr).mono ?_
    rintro v ⟨x, hx, rfl⟩
    obtain ⟨i, hi, e⟩ := List.mem_iff_getElem.mp hx
    have ei : rw' L i = x := by show (L[i]?).getD [] = x; rw [List.getElem?_eq_getElem hi, e]; rfl
    by_cases c : i < hs.length
    · refine ((Sp.mem (A := Ro (L.take hs.length).length (vE (L.take hs.length) p)) ⟨i, by rw [lk]; exact c, rfl⟩).smul (p : Rat)).of_eq fun j => ?_
      show (p : Rat) * (((cf (rw' (L.take hs.length) i) j : Int) : Rat) / p) = ((cf x j : Int) : Rat)
      rw [tr i c, ei]
      grind
    · refine Sp.zero.of_eq fun j => ?_
      show (0 : Rat) = ((cf x j : Int) : Rat)
      have z : cf x j = 0 := by
        by_cases cj : j < w
        · rw [← ei]; exact E.low i (by omega) (by rw [E.ln] at hi; exact hi) j cj
        · exact cf_over (by rw [E.lw x hx]; omega)
      rw [z]
      rfl
/-- two tellings of one span are one -/
theorem Stp.same {w b b' : Nat} {A A' T T' : List (List Int)} {p p' : Int} {h h' : Nat → Nat} (S : Stp w b A T p h) (S' : Stp w b' A' T' p' h') (a1 : ∀ r, r ∈ A → Sp (Ro T'.length (vE T' p')) (vq r)) (a2 : ∀ r, r ∈ A' → Sp (Ro T.length (vE T p)) (vq r)) : T.map (rowR p) = T'.map (rowR p') := by
  have u := S.st.uniq S'.st (fun i hi => (S.s1 i hi).mono (by rintro v ⟨r, hr, rfl⟩; exact a1 r hr)) (fun i hi => (S'.s1 i hi).mono (by rintro v ⟨r, hr, rfl⟩; exact a2 r hr))
  have pq : (p : Rat) ≠ 0 := by exact_mod_cast S.pz
  have pq' : (p' : Rat) ≠ 0 := by exact_mod_cast S'.pz
  refine List.ext_getElem (by rw [List.length_map, List.length_map]; exact u.1) fun i h1 h2 => ?_
  rw [List.length_map] at h1 h2
  rw [List.getElem_map, List.getElem_map]
  have e1 : rw' T i = T[i] := by show (T[i]?).getD [] = _; rw [List.getElem?_eq_getElem h1]; rfl
  have e2 : rw' T' i = T'[i] := by show (T'[i]?).getD [] = _; rw [List.getElem?_eq_getElem h2]; rfl
  have l1 := S.lw T[i] (List.getElem_mem _)
  have l2 := S'.lw T'[i] (List.getElem_mem _)
  show D.lst _ = D.lst _
  congr 1
  refine List.ext_getElem ((List.length_map ..).trans ((l1.trans l2.symm).trans (List.length_map ..).symm)) fun j g1 g2 => ?_
  rw [List.length_map] at g1 g2
  rw [List.getElem_map, List.getElem_map]
  refine mk_eq S.pz S'.pz ?_
  have v := u.2 i h1 j
  have f1 : cf (rw' T i) j = (T[i])[j] := by rw [e1]; unfold cf; rw [List.getElem?_eq_getElem g1]; rfl
  have f2 : cf (rw' T' i) j = (T'[i])[j] := by rw [e2]; unfold cf; rw [List.getElem?_eq_getElem g2]; rfl
  change ((cf (rw' T i) j : Int) : Rat) / p = ((cf (rw' T' i) j : Int) : Rat) / p' at v
  rw [f1, f2] at v
  have : (((T[i])[j] : Int) : Rat) * (p' : Rat) = (((T'[i])[j] : Int) : Rat) * (p : Rat) := by grind
  exact_mod_cast this
end My
namespace My
open PySem PySem.Spec PyProof.Rows L2 ClX Dl PyProof
/-! whole rows -/
def cB (Q : Int) : List Int → Nat → Nat
  | [], c => c
  | m :: ms, c => cB Q ms (Nat.lcm c (nrm m Q).2.natAbs)
def gD : List Int → Nat → Nat
  | [], g => g
  | r :: rs, g => gD rs (Nat.gcd g r.natAbs)
theorem nrm_dvd {m Q : Int} (hQ : Q ≠ 0) : (nrm m Q).2 ∣ Q := by
  have a := nrm_is (t := m) hQ
  exact dvd_co (a := (nrm m Q).1) ⟨m, by rw [a.eq, Int.mul_comm]⟩ (by rw [Int.gcd_comm]; exact a.one)
theorem bd_dvd {c : Nat} {Q : Int} {n : Nat} (hQ : Q ≠ 0) (h : (c : Int) ∣ Q) (b : Bd Q n) : Bd (c : Int) n := b.le (by
  have : c ∣ Q.natAbs := Int.ofNat_dvd_left.mp h
  have := Nat.le_of_dvd (by omega) this
  omega)
theorem cB_all {Q : Int} (hQ : Q ≠ 0) : ∀ (ms : List Int) (c : Nat), 0 < c → (c : Int) ∣ Q → 0 < cB Q ms c ∧ (cB Q ms c : Int) ∣ Q ∧ c ∣ cB Q ms c ∧ ∀ m, m ∈ ms → (nrm m Q).2 ∣ (cB Q ms c : Int)
  | [], c, h, d => ⟨h, d, Nat.dvd_refl _, fun m hm => by cases hm⟩
  | m :: ms, c, h, d => by
    have q := (nrm_is (t := m) hQ).pos
    have dq := nrm_dvd (m := m) hQ
    have l0 : 0 < Nat.lcm c (nrm m Q).2.natAbs := Nat.lcm_pos h (by omega)
    have ld : ((Nat.lcm c (nrm m Q).2.natAbs : Nat) : Int) ∣ Q := Int.ofNat_dvd_left.mpr (Nat.lcm_dvd (Int.ofNat_dvd_left.mp d) (Int.natAbs_dvd_natAbs.mpr dq))
    obtain ⟨a, b, e, f⟩ := cB_all hQ ms _ l0 ld
    refine ⟨a, b, Nat.dvd_trans (Nat.dvd_lcm_left ..) e, fun x hx => ?_⟩
    rcases List.mem_cons.mp hx with rfl | hx
    · have : (nrm x Q).2.natAbs ∣ cB Q ms (Nat.lcm c (nrm x Q).2.natAbs) := Nat.dvd_trans (Nat.dvd_lcm_right ..) e
      exact Int.natAbs_dvd.mp (Int.natCast_dvd_natCast.mpr this)
    · exact f x hx
theorem p_bottom (p q : Int) : G_Ratio_bottom [R p q] = some (.int q) := rfl
theorem p_top (p q : Int) : G_Ratio_top [R p q] = some (.int p) := rfl
theorem cb_loop {Q : Int} (hQ : Q ≠ 0) (bQ : Bd Q 8900) {s0 : Sl} : ∀ (ms : List Int) (c : Nat) (s : Sl), 0 < c → (c : Int) ∣ Q → ∃ s', loopF (gN 2) (sSet 1 (fFun funLcmB (fCons (fV 1) (fCons (fProp 0 G_Ratio_bottom (fV 2)) fNil)))) (ms.map (mk Q)) [s0, .val (.int (c : Int)), s] = some (.nx [s0, .val (.int (cB Q ms c : Int)), s'])
  | [], c, s, _, _ => ⟨s, rfl⟩
  | m :: ms, c, s, h, d => by
    have q := (nrm_is (t := m) hQ).pos
    have dq := nrm_dvd (m := m) hQ
    have l0 : 0 < Nat.lcm c (nrm m Q).2.natAbs := Nat.lcm_pos h (by omega)
    have ld : ((Nat.lcm c (nrm m Q).2.natAbs : Nat) : Int) ∣ Q := Int.ofNat_dvd_left.mpr (Nat.lcm_dvd (Int.ofNat_dvd_left.mp d) (Int.natAbs_dvd_natAbs.mpr dq))
    obtain ⟨s', e⟩ := cb_loop hQ bQ ms (Nat.lcm c (nrm m Q).2.natAbs) (.val (mk Q m)) l0 ld (s0 := s0)
    refine ⟨s', ?_⟩
    have a : fProp 0 G_Ratio_bottom (fV 2) [s0, .val (.int (c : Int)), .val (mk Q m)] = some (.int (nrm m Q).2, [s0, .val (.int (c : Int)), .val (mk Q m)]) := prop_eq rfl (p_bottom _ _)
    have b1 : Bd (c : Int) 13000 := (bd_dvd hQ d bQ).mono (by decide)
    have b2 : Bd (nrm m Q).2 13000 := (mk_bd2 bQ).mono (by decide)
    have f : funLcmB [.int (c : Int), .int (nrm m Q).2] = some (.int ((Nat.lcm c (nrm m Q).2.natAbs : Nat) : Int)) := if_pos ⟨b1, b2⟩
    have e1 : fFun funLcmB (fCons (fV 1) (fCons (fProp 0 G_Ratio_bottom (fV 2)) fNil)) [s0, .val (.int (c : Int)), .val (mk Q m)] = some (.int ((Nat.lcm c (nrm m Q).2.natAbs : Nat) : Int), [s0, .val (.int (c : Int)), .val (mk Q m)]) := by
      rw [fFun, cons2 rfl a, Option.bind_some]
      dsimp only
      rw [f]; rfl
    rw [List.map_cons, loop_nx (δ1 := [s0, .val (.int (c : Int)), .val (mk Q m)]) rfl (set_eq e1)]
    exact e
theorem p_common {Q : Int} (hQ : Q ≠ 0) (bQ : Bd Q 8900) (ms : List Int) : G_common_bottom [rowR Q ms] = some (.int (cB Q ms 1 : Int)) := by
  obtain ⟨s', e⟩ := cb_loop hQ bQ ms 1 .un (by decide) ⟨Q, by simp⟩ (s0 := .val (rowR Q ms))
  have gi : g_common_bottom = sSeq (sSet 1 (fC (.int 1))) (sSeq (sFor (fSq (fV 0)) (gN 2) (sSet 1 (fFun funLcmB (fCons (fV 1) (fCons (fProp 0 G_Ratio_bottom (fV 2)) fNil))))) (sRet (fV 1))) := rfl
  show (g_common_bottom [.val (rowR Q ms), .un, .un]).bind endD = _
  have s1 : sSet 1 (fC (.int 1)) [.val (rowR Q ms), .un, .un] = some (.nx [.val (rowR Q ms), .val (.int ((1 : Nat) : Int)), .un]) := rfl
  have s2 := for_eq (fI := fSq (fV 0)) (δ := [.val (rowR Q ms), .val (.int ((1 : Nat) : Int)), .un]) (δ1 := [.val (rowR Q ms), .val (.int ((1 : Nat) : Int)), .un]) rfl e
  rw [gi, seq_nx s1, seq_nx s2]
  rfl
theorem gd_loop {s0 : Sl} : ∀ (rs : List Int) (g : Nat) (s : Sl), ∃ s', loopF (gN 2) (sSet 1 (fFun funGcd (fCons (fV 1) (fCons (fV 2) fNil)))) (rs.map D.int) [s0, .val (.int (g : Int)), s] = some (.nx [s0, .val (.int (gD rs g : Int)), s'])
  | [], g, s => ⟨s, rfl⟩
  | r :: rs, g, s => by
    obtain ⟨s', e⟩ := gd_loop rs (Nat.gcd g r.natAbs) (.val (.int r)) (s0 := s0)
    exact ⟨s', by rw [List.map_cons, loop_nx (δ1 := [s0, .val (.int (g : Int)), .val (.int r)]) (δ2 := [s0, .val (.int ((Nat.gcd g r.natAbs : Nat) : Int)), .val (.int r)]) rfl rfl]; exact e⟩
theorem p_greatest (rs : List Int) : G_greatest_divisor [rowI rs] = some (.int (gD rs 0 : Int)) := by
  obtain ⟨s', e⟩ := gd_loop rs 0 .un (s0 := .val (rowI rs))
  have gi : g_greatest_divisor = sSeq (sSet 1 (fC (.int 0))) (sSeq (sFor (fSq (fV 0)) (gN 2) (sSet 1 (fFun funGcd (fCons (fV 1) (fCons (fV 2) fNil))))) (sRet (fV 1))) := rfl
  show (g_greatest_divisor [.val (rowI rs), .un, .un]).bind endD = _
  have s1 : sSet 1 (fC (.int 0)) [.val (rowI rs), .un, .un] = some (.nx [.val (rowI rs), .val (.int ((0 : Nat) : Int)), .un]) := rfl
  have s2 := for_eq (fI := fSq (fV 0)) (δ := [.val (rowI rs), .val (.int ((0 : Nat) : Int)), .un]) (δ1 := [.val (rowI rs), .val (.int ((0 : Nat) : Int)), .un]) rfl e
  rw [gi, seq_nx s1, seq_nx s2]
  rfl
theorem gD_all : ∀ (rs : List Int) (g : Nat), gD rs g ∣ g ∧ (∀ r, r ∈ rs → (gD rs g : Int) ∣ r)
  | [], g => ⟨Nat.dvd_refl _, fun r h => by cases h⟩
  | x :: rs, g => by
    obtain ⟨a, b⟩ := gD_all rs (Nat.gcd g x.natAbs)
    refine ⟨Nat.dvd_trans a (Nat.gcd_dvd_left ..), fun r hr => ?_⟩
    rcases List.mem_cons.mp hr with rfl | hr
    · exact Int.ofNat_dvd_left.mpr (Nat.dvd_trans a (Nat.gcd_dvd_right ..))
    · exact b r hr
theorem gD_bd {n : Nat} : ∀ (rs : List Int) (g : Nat), BdR rs n → Bd (g : Int) n → Bd (gD rs g : Int) n
  | [], g, _, h => h
  | x :: rs, g, hb, h => gD_bd rs _ (fun t ht => hb t (List.mem_cons_of_mem _ ht)) (by
    by_cases z : x = 0
    · subst z; simpa using h
    · refine (hb x (List.mem_cons_self ..)).le ?_
      have : Nat.gcd g x.natAbs ≤ x.natAbs := Nat.gcd_le_right _ (by omega)
      simpa using this)
def rsW (Q : Int) (ms : List Int) : List Int := ms.map fun m => (nrm m Q).1 * (cB Q ms 1 : Int).fdiv (nrm m Q).2
def Wf (Q : Int) (ms : List Int) : List Int := if (gD (rsW Q ms) 0 : Int) = 0 then rsW Q ms else (rsW Q ms).map fun r => r.fdiv (gD (rsW Q ms) 0 : Int)
theorem rsW_el {Q : Int} (hQ : Q ≠ 0) {ms : List Int} : ∃ d : Int, d ≠ 0 ∧ ∀ m, m ∈ ms → m = d * ((nrm m Q).1 * (cB Q ms 1 : Int).fdiv (nrm m Q).2) := by
  obtain ⟨c0, cd, _, ca⟩ := cB_all hQ ms 1 (by decide) ⟨Q, by simp⟩
  obtain ⟨d, hd⟩ := cd
  refine ⟨d, fun z => hQ (by rw [hd, z, Int.mul_zero]), fun m hm => ?_⟩
  have a := nrm_is (t := m) hQ
  obtain ⟨c', hc'⟩ := ca m hm
  have q0 : (nrm m Q).2 ≠ 0 := by have := a.pos; omega
  have e1 : (cB Q ms 1 : Int).fdiv (nrm m Q).2 = c' := by rw [hc', Int.mul_fdiv_cancel_left _ q0]
  rw [e1]
  have e2 := a.eq
  generalize (nrm m Q).1 = p at *
  generalize (nrm m Q).2 = q at *
  have : q * m = q * (d * (p * c')) := by
    rw [Int.mul_comm q m, ← e2, hd, hc']
    grind
  exact Int.eq_of_mul_eq_mul_left q0 this
theorem rsW_bd {Q : Int} (hQ : Q ≠ 0) {ms : List Int} {n : Nat} (b : BdR ms n) : BdR (rsW Q ms) n := fun r hr => by
  obtain ⟨m, hm, rfl⟩ := List.mem_map.mp hr
  obtain ⟨d, hd, h⟩ := rsW_el hQ (ms := ms)
  refine (b m hm).le ?_
  have e := congrArg Int.natAbs (h m hm)
  rw [Int.natAbs_mul] at e
  have : 1 ≤ d.natAbs := by omega
  calc _ = 1 * ((nrm m Q).1 * (cB Q ms 1 : Int).fdiv (nrm m Q).2).natAbs := (Nat.one_mul _).symm
    _ ≤ d.natAbs * _ := Nat.mul_le_mul_right _ this
    _ = _ := e.symm
theorem Wf_len (Q : Int) (ms : List Int) : (Wf Q ms).length = ms.length := by
  unfold Wf rsW
  split <;> simp
theorem cf_map {f : Int → Int} (h0 : f 0 = 0) (ms : List Int) (j : Nat) : cf (ms.map f) j = f (cf ms j) := by
  unfold cf
  rw [List.getElem?_map]
  cases ms[j]? with
  | none => exact h0.symm
  | some m => rfl
theorem cf_mem {r : List Int} {j : Nat} (h : j < r.length) : cf r j ∈ r := by
  unfold cf
  rw [List.getElem?_eq_getElem h]
  exact List.getElem_mem h
theorem Wf_el {Q : Int} (hQ : Q ≠ 0) (ms : List Int) : ∃ e : Int, e ≠ 0 ∧ ∀ j, cf ms j = e * cf (Wf Q ms) j := by
  obtain ⟨d, hd, h⟩ := rsW_el hQ (ms := ms)
  have hr : ∀ j, cf ms j = d * cf (rsW Q ms) j := fun j => by
    by_cases c : j < ms.length
    · have e : cf (rsW Q ms) j = (nrm (cf ms j) Q).1 * (cB Q ms 1 : Int).fdiv (nrm (cf ms j) Q).2 := by
        unfold rsW cf
        rw [List.getElem?_map, List.getElem?_eq_getElem c]
        rfl
      rw [e]
      exact h _ (cf_mem c)
    · rw [cf_over (by omega), cf_over (by unfold rsW; rw [List.length_map]; omega), Int.mul_zero]
  by_cases z : (gD (rsW Q ms) 0 : Int) = 0
  · exact ⟨d, hd, fun j => by rw [Wf, if_pos z]; exact hr j⟩
  · refine ⟨d * (gD (rsW Q ms) 0 : Int), fun x => (Int.mul_eq_zero.mp x).elim hd z, fun j => ?_⟩
    rw [Wf, if_neg z, cf_map (by simp), hr j, Int.mul_assoc]
    congr 1
    by_cases c : j < (rsW Q ms).length
    · exact (Int.mul_fdiv_cancel' ((gD_all (rsW Q ms) 0).2 _ (cf_mem c))).symm
    · rw [cf_over (by omega)]; simp
theorem Wf_bd {Q : Int} (hQ : Q ≠ 0) {ms : List Int} {n : Nat} (b : BdR ms n) : BdR (Wf Q ms) n := by
  obtain ⟨e, he, h⟩ := Wf_el hQ ms
  refine mem_bd fun j hj => ?_
  rw [Wf_len] at hj
  refine (b _ (cf_mem hj)).le ?_
  rw [h j, Int.natAbs_mul]
  have : 1 ≤ e.natAbs := by omega
  calc (cf (Wf Q ms) j).natAbs = 1 * (cf (Wf Q ms) j).natAbs := (Nat.one_mul _).symm
    _ ≤ _ := Nat.mul_le_mul_right _ this
theorem p_times {Q : Int} (hQ : Q ≠ 0) (bQ : Bd Q 8900) {ms : List Int} (b : BdR ms 8900) (hl : ms.length ≤ 1000) : G_times_whole [rowR Q ms, .int (cB Q ms 1 : Int)] = some (rowI (rsW Q ms)) := by
  obtain ⟨c0, cd, _, ca⟩ := cB_all hQ ms 1 (by decide) ⟨Q, by simp⟩
  have bc := bd_dvd hQ cd bQ
  refine out1 (d := some (rowI (rsW Q ms))) (δ := [.val (rowR Q ms), .val (.int (cB Q ms 1 : Int)), .un]) ?_
  refine (fr_eq (ds := ms.map fun m => .int ((nrm m Q).1 * (cB Q ms 1 : Int).fdiv (nrm m Q).2)) (flc_map (f := mk Q) (l := ms) rfl rfl (by unfold big; omega) fun m hm => ⟨[.val (rowR Q ms), .val (.int (cB Q ms 1 : Int)), .val (mk Q m)], rfl, ?_, rfl⟩)).trans ?_
  · have a := nrm_is (t := m) hQ
    have q0 : (nrm m Q).2 ≠ 0 := by have := a.pos; omega
    have a1 : fProp 0 G_Ratio_top (fV 2) [.val (rowR Q ms), .val (.int (cB Q ms 1 : Int)), .val (mk Q m)] = some (.int (nrm m Q).1, [.val (rowR Q ms), .val (.int (cB Q ms 1 : Int)), .val (mk Q m)]) := prop_eq rfl (p_top _ _)
    have a2 : fProp 0 G_Ratio_bottom (fV 2) [.val (rowR Q ms), .val (.int (cB Q ms 1 : Int)), .val (mk Q m)] = some (.int (nrm m Q).2, [.val (rowR Q ms), .val (.int (cB Q ms 1 : Int)), .val (mk Q m)]) := prop_eq rfl (p_bottom _ _)
    have a3 : fBin (gI okDivB fun i j => .int (i.fdiv j)) (fV 1) (fProp 0 G_Ratio_bottom (fV 2)) [.val (rowR Q ms), .val (.int (cB Q ms 1 : Int)), .val (mk Q m)] = some (.int ((cB Q ms 1 : Int).fdiv (nrm m Q).2), [.val (rowR Q ms), .val (.int (cB Q ms 1 : Int)), .val (mk Q m)]) := bin_eq rfl a2 (gDB_int q0 (mk_bd2 bQ))
    have bf : Bd ((cB Q ms 1 : Int).fdiv (nrm m Q).2) 8900 := bc.le (by
      obtain ⟨c', hc'⟩ := ca m hm
      have e1 : (cB Q ms 1 : Int).fdiv (nrm m Q).2 = c' := by rw [hc', Int.mul_fdiv_cancel_left _ q0]
      rw [e1, hc', Int.natAbs_mul]
      have : 1 ≤ (nrm m Q).2.natAbs := by omega
      calc c'.natAbs = 1 * c'.natAbs := (Nat.one_mul _).symm
        _ ≤ _ := Nat.mul_le_mul_right _ this)
    exact bin_eq a1 a3 (gMB_int ((mk_bd (b m hm)).mono (by decide)) (bf.mono (by decide)))
  · show some (D.lst _, _) = some (D.lst ((ms.map _).map D.int), _)
    rw [List.map_map]
    rfl
theorem p_short {rs : List Int} (b : BdR rs 8900) (hl : rs.length ≤ 1000) : G_short_row [rowI rs] = some (rowI (if (gD rs 0 : Int) = 0 then rs else rs.map fun r => r.fdiv (gD rs 0 : Int))) := by
  have gi : g_short_row = sSeq (sSet 1 (fCall G_greatest_divisor (gPos []) (fCons (fV 0) fNil) fNil)) (sRet (fIf (fB (fBin gEqF (fV 1) (fC (.int 0)))) (fV 0) (fFr (fLc (fSq (fV 0)) (gN 2) fYes (fBin (gI okDivB fun i j => .int (i.fdiv j)) (fV 2) (fV 1)) [2])))) := rfl
  show (g_short_row [.val (rowI rs), .un, .un]).bind endD = _
  have c1 : fCall G_greatest_divisor (gPos []) (fCons (fV 0) fNil) fNil [.val (rowI rs), .un, .un] = some (.int (gD rs 0 : Int), [.val (rowI rs), .un, .un]) := call1 rfl (p_greatest rs)
  have bg := gD_bd rs 0 b bd0
  generalize (gD rs 0 : Int) = g at *
  have s1 : sSet 1 (fCall G_greatest_divisor (gPos []) (fCons (fV 0) fNil) fNil) [.val (rowI rs), .un, .un] = some (.nx [.val (rowI rs), .val (.int g), .un]) := set_eq c1
  have t : fB (fBin gEqF (fV 1) (fC (.int 0))) [.val (rowI rs), .val (.int g), .un] = some (decide (g = 0), [.val (rowI rs), .val (.int g), .un]) := fB_eq (bin_eq rfl rfl (eqF_int _ _))
  rw [gi, seq_nx s1, sRet, if_eq t]
  by_cases z : g = 0
  · rw [if_pos (decide_eq_true z), if_pos z]
    rfl
  · rw [if_neg (by simp [z]), if_neg z]
    have := fr_eq (flc_map (δ0 := [.val (rowI rs), .val (.int g), .un]) (fI := fSq (fV 0)) (ft := gN 2) (fe := fBin (gI okDivB fun i j => .int (i.fdiv j)) (fV 2) (fV 1)) (vs := [2]) (f := D.int) (g := fun r => .int (r.fdiv g)) (l := rs) rfl rfl (by unfold big; omega) fun r hr => ⟨[.val (rowI rs), .val (.int g), .val (.int r)], rfl, bin_eq rfl rfl (gDB_int z bg), rfl⟩)
    rw [this]
    show some (D.lst _) = some (D.lst ((rs.map _).map D.int))
    rw [List.map_map]
    rfl
theorem p_whole {Q : Int} (hQ : Q ≠ 0) (bQ : Bd Q 8900) {ms : List Int} (b : BdR ms 8900) (hl : ms.length ≤ 1000) : G_whole_row [rowR Q ms] = some (rowI (Wf Q ms)) := by
  refine out1 (d := some (rowI (Wf Q ms))) (δ := [.val (rowR Q ms)]) ?_
  have c1 : fCall G_common_bottom (gPos []) (fCons (fV 0) fNil) fNil [.val (rowR Q ms)] = some (.int (cB Q ms 1 : Int), [.val (rowR Q ms)]) := call1 rfl (p_common hQ bQ ms)
  have c2 : fCall G_times_whole (gPos []) (fCons (fV 0) (fCons (fCall G_common_bottom (gPos []) (fCons (fV 0) fNil) fNil) fNil)) fNil [.val (rowR Q ms)] = some (rowI (rsW Q ms), [.val (rowR Q ms)]) := call2 rfl c1 (p_times hQ bQ b hl)
  exact call1 c2 (p_short (rsW_bd hQ b) (by unfold rsW; rw [List.length_map]; exact hl))
end My
namespace My
open PySem PySem.Spec PyProof.Rows L2 ClX Dl PyProof
/-! rows that are handed in -/
structure Nm (Q m : Int) (d : D) : Prop where
  as' : G_as_ratio [d] = some (mk Q m)
  is' : G_is_number [d] = some (.bl true)
def Rn (Q : Int) (ms : List Int) (d : D) : Prop := ∃ l : List (Int × D), Sq d (l.map (·.2)) ∧ ms = l.map (·.1) ∧ ∀ x, x ∈ l → Nm Q x.1 x.2
def Rs (Q : Int) (A : List (List Int)) (d : D) : Prop := ∃ l : List (List Int × D), Sq d (l.map (·.2)) ∧ A = l.map (·.1) ∧ ∀ x, x ∈ l → Rn Q x.1 x.2
theorem make1d {c : Nat} {F : List D → Option (List D)} {fe : FE} {δ δ1 : Es} {x y : D} {fs : List D} (h : fe δ = some (x, δ1)) (hF : F [x, y] = some fs) : fMake c F (gPos [y]) (fCons fe fNil) fNil δ = some (.obj c fs, δ1) := by
  rw [fMake, cons1 h, Option.bind_some]
  show (F [x, y]).map _ = _
  rw [hF]; rfl
theorem nm_mk (Q m : Int) : Nm Q m (mk Q m) := ⟨rfl, rfl⟩
theorem nm_int {Q t : Int} (hQ : Q ≠ 0) : Nm Q (t * Q) (.int t) := ⟨by
  have e : mk Q (t * Q) = mk 1 t := mk_eq hQ (by decide) (by rw [Int.mul_one])
  rw [e]
  have i := p_init (t := t) (b := 1) (by decide) (bdOne (by decide))
  show (g_as_ratio [.val (.int t)]).bind endD = _
  have gi : g_as_ratio = sSeq (sIf (fB (fIsi (pObj 0) (fV 0))) (sRet (fV 0)) sNil) (sRet (fMake 0 G_Ratio_init (gPos [.int 1]) (fCons (fV 0) fNil) fNil)) := rfl
  have c1 : sIf (fB (fIsi (pObj 0) (fV 0))) (sRet (fV 0)) sNil [.val (.int t)] = some (.nx [.val (.int t)]) := rfl
  have c2 : fMake 0 G_Ratio_init (gPos [.int 1]) (fCons (fV 0) fNil) fNil [.val (.int t)] = some (mk 1 t, [.val (.int t)]) := by
    exact make1d rfl i
  rw [gi, seq_nx c1, ret_eq c2]
  rfl, rfl⟩
theorem rn_row (Q : Int) (ms : List Int) : Rn Q ms (rowR Q ms) := ⟨ms.map fun m => (m, mk Q m), .inl (by rw [List.map_map]; rfl), by rw [List.map_map]; simp [Function.comp_def], fun x hx => by
  obtain ⟨m, hm, rfl⟩ := List.mem_map.mp hx
  exact nm_mk Q m⟩
theorem rs_rows (Q : Int) (A : List (List Int)) : Rs Q A (.lst (A.map (rowR Q))) := ⟨A.map fun m => (m, rowR Q m), .inl (by rw [List.map_map]; rfl), by rw [List.map_map]; simp [Function.comp_def], fun x hx => by
  obtain ⟨m, hm, rfl⟩ := List.mem_map.mp hx
  exact rn_row Q m⟩
theorem all_trueM {α : Type} (l : List α) : funAll [.lst (l.map fun _ => D.bl true)] = some (.bl true) := by
  rw [List.map_const']
  exact all_true _
theorem p_are {Q : Int} {ms : List Int} {d : D} {w : Nat} (h : Rn Q ms d) (hl : ms.length = w) (hw : w ≤ 1000) : G_are_numbers [d, .int (w : Int)] = some (.bl true) := by
  obtain ⟨l, sq, rfl, hn⟩ := h
  rw [List.length_map] at hl
  refine out1 (d := some (.bl true)) (δ := [.val d, .val (.int (w : Int)), .un]) ?_
  have c1 : fCall G_is_list (gPos []) (fCons (fV 0) fNil) fNil [.val d, .val (.int (w : Int)), .un] = some (.bl true, [.val d, .val (.int (w : Int)), .un]) := call1 rfl (p_is_listS sq)
  have l1 := fLenN_val (i := 0) (δ := [.val d, .val (.int (w : Int)), .un]) sq rfl
  rw [List.length_map, hl] at l1
  have c2 : fBin gEqF (fLenN 0) (fV 1) [.val d, .val (.int (w : Int)), .un] = some (.bl true, [.val d, .val (.int (w : Int)), .un]) := by
    have := eqF_int (w : Int) (w : Int)
    rw [decide_eq_true rfl] at this
    exact bin_eq l1 rfl this
  have c3 := fr_eq (flc_map (δ0 := [.val d, .val (.int (w : Int)), .un]) (fI := fSq (fV 0)) (ft := gN 2) (fe := fCall G_is_number (gPos []) (fCons (fV 2) fNil) fNil) (vs := [2]) (f := fun x : Int × D => x.2) (g := fun _ => D.bl true) (l := l) (fSq_val sq rfl) rfl (by unfold big; omega) fun x hx => ⟨[.val d, .val (.int (w : Int)), .val x.2], rfl, call1 rfl (hn x hx).is', rfl⟩)
  exact and_t c1 (and_t c2 (fun_eq c3 (all_trueM l)))
theorem p_ratio_rows {Q : Int} {A : List (List Int)} {d : D} (h : Rs Q A d) (hn : A.length ≤ 1000) (hw : ∀ r, r ∈ A → r.length ≤ 1000) : G_ratio_rows [d] = some (.lst (A.map (rowR Q))) := by
  obtain ⟨L, sq, rfl, hR⟩ := h
  rw [List.length_map] at hn
  refine out1 (d := some (.lst ((L.map (·.1)).map (rowR Q)))) (δ := [.val d, .un, .un]) ?_
  rw [List.map_map]
  refine fr_eq (flc_map (f := fun x : List Int × D => x.2) (g := fun x => rowR Q x.1) (l := L) (fSq_val sq rfl) rfl (by unfold big; omega) fun x hx => ⟨[.val d, .val x.2, .un], rfl, ?_, rfl⟩)
  obtain ⟨l, sq1, e1, hn1⟩ := hR x hx
  have l1 := hw x.1 (List.mem_map_of_mem hx)
  rw [e1, List.length_map] at l1
  have := fr_eq (flc_map (δ0 := [.val d, .val x.2, .un]) (fI := fSq (fV 1)) (ft := gN 2) (fe := fCall G_as_ratio (gPos []) (fCons (fV 2) fNil) fNil) (vs := [2]) (f := fun x : Int × D => x.2) (g := fun x => mk Q x.1) (l := l) (fSq_val sq1 rfl) rfl (by unfold big; omega) fun y hy => ⟨[.val d, .val x.2, .val y.2], rfl, call1 rfl (hn1 y hy).as', rfl⟩)
  have e2 : rowR Q x.1 = .lst (l.map fun x => mk Q x.1) := by
    rw [e1]
    show D.lst ((l.map _).map _) = _
    rw [List.map_map]
    rfl
  show _ = some (rowR Q x.1, _)
  rw [e2]
  exact this
theorem p_whole_rows {Q : Int} (hQ : Q ≠ 0) (bQ : Bd Q 8900) {A : List (List Int)} {d : D} (h : Rs Q A d) (hn : A.length ≤ 1000) (hw : ∀ r, r ∈ A → r.length ≤ 1000) (b : ∀ r, r ∈ A → BdR r 8900) : G_whole_rows [d] = some (encI (A.map (Wf Q))) := by
  refine out1 (d := some (encI (A.map (Wf Q)))) (δ := [.val d, .un]) ?_
  have c1 : fCall G_ratio_rows (gPos []) (fCons (fV 0) fNil) fNil [.val d, .un] = some (.lst (A.map (rowR Q)), [.val d, .un]) := call1 rfl (p_ratio_rows h hn hw)
  show _ = some (D.lst ((A.map (Wf Q)).map rowI), _)
  rw [List.map_map]
  exact fr_eq (flc_map (f := rowR Q) (g := fun r => rowI (Wf Q r)) (l := A) (sq_eq c1) rfl (by unfold big; omega) fun r hr => ⟨[.val d, .val (rowR Q r)], rfl, call1 rfl (p_whole hQ bQ (b r hr) (hw r hr)), rfl⟩)
theorem p_is_width {w : Nat} (h0 : 1 ≤ w) (h1 : w ≤ 60) : G_is_width [.int (w : Int)] = some (.bl true) := by
  refine out1 (d := some (.bl true)) (δ := [.val (.int (w : Int))]) ?_
  have e0 : G_is_count [.int (w : Int)] = some (.bl true) := by
    refine out1 (d := some (.bl true)) (δ := [.val (.int (w : Int))]) ?_
    have c1 : fCall G_is_integer (gPos []) (fCons (fV 0) fNil) fNil [.val (.int (w : Int))] = some (.bl true, [.val (.int (w : Int))]) := call1 rfl (p_is_integer _)
    have g : (gI0 fun i j => D.bl (decide (j ≤ i))) (.int (w : Int)) (.int 0) = some (.bl true) := by
      show some (D.bl (decide ((0 : Int) ≤ (w : Int)))) = _
      rw [decide_eq_true (by omega)]
    exact and_t c1 (bin_eq rfl rfl g)
  have c1 : fCall G_is_count (gPos []) (fCons (fV 0) fNil) fNil [.val (.int (w : Int))] = some (.bl true, [.val (.int (w : Int))]) := call1 rfl e0
  have g1 : (gI0 fun i j => D.bl (decide (i ≤ j))) (.int 1) (.int (w : Int)) = some (.bl true) := by
    show some (D.bl (decide ((1 : Int) ≤ (w : Int)))) = _
    rw [decide_eq_true (by omega)]
  have g2 : (gI0 fun i j => D.bl (decide (i ≤ j))) (.int (w : Int)) (.int 60) = some (.bl true) := by
    show some (D.bl (decide ((w : Int) ≤ 60))) = _
    rw [decide_eq_true (by omega)]
  exact and_t c1 (chain_eq rfl rfl g1 rfl g2)
theorem sq_ix0 {d x : D} {ds : List D} (h : Sq d (x :: ds)) : gIx d (.int 0) = some x := by
  have a : atI (x :: ds) ((0 : Nat) : Int) = some x := by rw [atI_nat _ 0 (by simp)]; rfl
  rcases h with rfl | rfl <;> exact a
theorem sq_len {d : D} {ds : List D} (h : Sq d ds) : funLen [d] = some (.int ds.length) := by rcases h with rfl | rfl <;> rfl
theorem rn_sq {Q : Int} {ms : List Int} {d : D} (h : Rn Q ms d) : ∃ ds, Sq d ds ∧ ds.length = ms.length := by
  obtain ⟨l, sq, rfl, _⟩ := h
  exact ⟨_, sq, by simp⟩
theorem len0_eq {Q : Int} {A : List (List Int)} {d : D} {w : Nat} (h : Rs Q A d) (ne : A ≠ []) (hw : ∀ r, r ∈ A → r.length = w) {δ : Es} (h0 : δ[0]? = some (.val d)) : fFun funLen (fCons (fIxN 0 (fC (.int 0))) fNil) δ = some (.int (w : Int), δ) := by
  obtain ⟨L, sq, rfl, hR⟩ := h
  cases L with
  | nil => exact absurd rfl ne
  | cons x L =>
    obtain ⟨ds, s1, l1⟩ := rn_sq (hR x (List.mem_cons_self ..))
    have := sq_len s1
    rw [l1, hw x.1 (by simp)] at this
    exact fun_eq (ixN_val h0 rfl (sq_ix0 sq)) this
theorem len_rs {Q : Int} {A : List (List Int)} {d : D} (h : Rs Q A d) {δ : Es} (h0 : δ[0]? = some (.val d)) : fLenN 0 δ = some (.int (A.length : Int), δ) := by
  obtain ⟨L, sq, rfl, hR⟩ := h
  have := fLenN_val sq h0
  rw [List.length_map] at this ⊢
  exact this
theorem p_check {Q : Int} {A : List (List Int)} {d : D} {w : Nat} (h : Rs Q A d) (hn : A.length ≤ 60) (hw : ∀ r, r ∈ A → r.length = w) (h0 : 1 ≤ w) (h1 : w ≤ 60) : G_check_rows [d] = some .non := by
  have hl := len_rs h (δ := [.val d, .un]) rfl
  have hl0 := fun ne => len0_eq h ne hw (δ := [.val d, .un]) rfl
  have hl1 := fun ne (x : D) => len0_eq h ne hw (δ := [.val d, .val x]) rfl
  obtain ⟨L, sq, eA, hR⟩ := h
  have lL : L.length ≤ 60 := by rw [eA, List.length_map] at hn; exact hn
  have a1 : fNot (fB (fCall G_is_list (gPos []) (fCons (fV 0) fNil) fNil)) [.val d, .un] = some (false, [.val d, .un]) := not_f (fB_eq (call1 rfl (p_is_listS sq)))
  have g2 : (gI0 fun i j => D.bl (decide (j < i))) (.int (A.length : Int)) (.int 60) = some (.bl false) := by
    show some (D.bl (decide ((60 : Int) < (A.length : Int)))) = _
    rw [decide_eq_false (by omega)]
  have a2 : fB (fBin (gI0 fun i j => .bl (decide (j < i))) (fLenN 0) (fC (.int 60))) [.val d, .un] = some (false, [.val d, .un]) := fB_eq (bin_eq hl rfl g2)
  have a3 : fNot (fB (fFun funAll (fCons (fFr (fLc (fSq (fV 0)) (gN 1) fYes (fCall G_is_list (gPos []) (fCons (fV 1) fNil) fNil) [1])) fNil))) [.val d, .un] = some (false, [.val d, .un]) := not_f (fB_eq (fun_eq (fr_eq (flc_map (f := fun x : List Int × D => x.2) (g := fun _ => D.bl true) (l := L) (fSq_val sq rfl) rfl (by unfold big; omega) fun x hx => ⟨[.val d, .val x.2], rfl, by
    obtain ⟨ds, s1, _⟩ := rn_sq (hR x hx)
    exact call1 rfl (p_is_listS s1), rfl⟩)) (all_trueM L)))
  have s1 : sIf (fOr (fNot (fB (fCall G_is_list (gPos []) (fCons (fV 0) fNil) fNil))) (fOr (fB (fBin (gI0 fun i j => .bl (decide (j < i))) (fLenN 0) (fC (.int 60)))) (fNot (fB (fFun funAll (fCons (fFr (fLc (fSq (fV 0)) (gN 1) fYes (fCall G_is_list (gPos []) (fCons (fV 1) fNil) fNil) [1])) fNil)))))) sNo sNil [.val d, .un] = some (.nx [.val d, .un]) := sIf_f ((or_f a1).trans ((or_f a2).trans a3))
  have g3 : (gI0 fun i j => D.bl (decide (j < i))) (.int (A.length : Int)) (.int 0) = some (.bl (decide ((0 : Int) < (A.length : Int)))) := rfl
  have b1 : fB (fBin (gI0 fun i j => .bl (decide (j < i))) (fLenN 0) (fC (.int 0))) [.val d, .un] = some (decide ((0 : Int) < (A.length : Int)), [.val d, .un]) := fB_eq (bin_eq hl rfl g3)
  have s2 : sIf (fAnd (fB (fBin (gI0 fun i j => .bl (decide (j < i))) (fLenN 0) (fC (.int 0)))) (fNot (fB (fCall G_is_width (gPos []) (fCons (fFun funLen (fCons (fIxN 0 (fC (.int 0))) fNil)) fNil) fNil)))) sNo sNil [.val d, .un] = some (.nx [.val d, .un]) := by
    refine sIf_f ?_
    by_cases e : A = []
    · rw [decide_eq_false (by rw [e]; simp)] at b1
      exact and_ff b1
    · have : 0 < A.length := List.length_pos_iff.mpr e
      rw [decide_eq_true (by omega)] at b1
      exact (and_tt b1).trans (not_f (fB_eq (call1 (hl0 e) (p_is_width h0 h1))))
  have s3 : sIf (fNot (fB (fFun funAll (fCons (fFr (fLc (fSq (fV 0)) (gN 1) fYes (fCall G_are_numbers (gPos []) (fCons (fV 1) (fCons (fFun funLen (fCons (fIxN 0 (fC (.int 0))) fNil)) fNil)) fNil) [1])) fNil)))) sNo sNil [.val d, .un] = some (.nx [.val d, .un]) := by
    refine sIf_f (not_f (fB_eq (fun_eq (fr_eq (flc_map (f := fun x : List Int × D => x.2) (g := fun _ => D.bl true) (l := L) (fSq_val sq rfl) rfl (by unfold big; omega) fun x hx => ⟨[.val d, .val x.2], rfl, ?_, rfl⟩)) (all_trueM L))))
    have ne : A ≠ [] := fun z => by rw [z] at eA; have := List.map_eq_nil_iff.mp eA.symm; rw [this] at hx; cases hx
    exact call2 rfl (hl1 ne x.2) (p_are (hR x hx) (hw x.1 (by rw [eA]; exact List.mem_map_of_mem hx)) (by omega))
  have gi : g_check_rows = sSeq (sIf (fOr (fNot (fB (fCall G_is_list (gPos []) (fCons (fV 0) fNil) fNil))) (fOr (fB (fBin (gI0 fun i j => .bl (decide (j < i))) (fLenN 0) (fC (.int 60)))) (fNot (fB (fFun funAll (fCons (fFr (fLc (fSq (fV 0)) (gN 1) fYes (fCall G_is_list (gPos []) (fCons (fV 1) fNil) fNil) [1])) fNil)))))) sNo sNil) (sSeq (sIf (fAnd (fB (fBin (gI0 fun i j => .bl (decide (j < i))) (fLenN 0) (fC (.int 0)))) (fNot (fB (fCall G_is_width (gPos []) (fCons (fFun funLen (fCons (fIxN 0 (fC (.int 0))) fNil)) fNil) fNil)))) sNo sNil) (sIf (fNot (fB (fFun funAll (fCons (fFr (fLc (fSq (fV 0)) (gN 1) fYes (fCall G_are_numbers (gPos []) (fCons (fV 1) (fCons (fFun funLen (fCons (fIxN 0 (fC (.int 0))) fNil)) fNil)) fNil) [1])) fNil)))) sNo sNil)) := rfl
  show (g_check_rows [.val d, .un]).bind endD = _
  rw [gi, seq_nx s1, seq_nx s2, s3]
  rfl
/-- the spans of rows made whole -/
theorem sp_whole {Q : Int} (hQ : Q ≠ 0) (A : List (List Int)) : (∀ r, r ∈ A → Sp (Rq (A.map (Wf Q))) (vq r)) ∧ ∀ r, r ∈ A.map (Wf Q) → Sp (Rq A) (vq r) := by
  refine ⟨fun r hr => ?_, fun r hr => ?_⟩
  · obtain ⟨e, he, h⟩ := Wf_el hQ r
    refine ((Sp.mem (A := Rq (A.map (Wf Q))) ⟨Wf Q r, List.mem_map_of_mem hr, rfl⟩).smul (e : Rat)).of_eq fun j => ?_
    show (e : Rat) * ((cf (Wf Q r) j : Int) : Rat) = ((cf r j : Int) : Rat)
    rw [h j, Rat.intCast_mul]
  · obtain ⟨x, hx, rfl⟩ := List.mem_map.mp hr
    obtain ⟨e, he, h⟩ := Wf_el hQ x
    have eq : (e : Rat) ≠ 0 := by exact_mod_cast he
    refine ((Sp.mem (A := Rq A) ⟨x, hx, rfl⟩).smul (1 / (e : Rat))).of_eq fun j => ?_
    show 1 / (e : Rat) * ((cf x j : Int) : Rat) = ((cf (Wf Q x) j : Int) : Rat)
    rw [h j, Rat.intCast_mul]
    grind
theorem bt_val (b : Nat) : ∀ k, bt b k + 1 = 2 ^ k * (b + 1)
  | 0 => by simp [bt]
  | k + 1 => by
    show 2 * bt b k + 1 + 1 = _
    have := bt_val b k
    rw [Nat.pow_succ]
    have e : 2 ^ k * 2 * (b + 1) = 2 * (2 ^ k * (b + 1)) := by rw [Nat.mul_comm (2 ^ k) 2, Nat.mul_assoc]
    omega
theorem Stp.over {w b : Nat} {A A' T : List (List Int)} {p : Int} {h : Nat → Nat} (S : Stp w b A' T p h) (a : ∀ r, r ∈ A → Sp (Rq A') (vq r)) (a' : ∀ r, r ∈ A' → Sp (Rq A) (vq r)) : Stp w b A T p h :=
  ⟨S.lw, S.kw, S.hw, S.pz, S.bp, S.bd, S.st, fun i hi => (S.s1 i hi).mono (by rintro v ⟨r, hr, rfl⟩; exact a' r hr), fun r hr => (a r hr).mono (by rintro v ⟨x, hx, rfl⟩; exact S.s2 x hx)⟩
/-- what steps tells -/
theorem p_steps {Q : Int} (hQ : Q ≠ 0) (bQ : Bd Q 8900) {A : List (List Int)} {d : D} {w b : Nat} (h : Rs Q A d) (hn : A.length ≤ 60) (hw : ∀ r, r ∈ A → r.length = w) (h0 : 1 ≤ w) (h1 : w ≤ 5) (hb1 : 1 ≤ b) (hb : b ≤ 383) (bd : ∀ r, r ∈ A → BdR r b) :
    ∃ T p hd, G_steps [d] = some (.lst (T.map (rowR p))) ∧ Stp w (bt b (w - 1)) A T p hd := by
  have gi : g_steps = sSeq (sExpr (fCall G_check_rows (gPos []) (fCons (fV 0) fNil) fNil)) (sSeq (sIf (fB (fBin gEqF (fLenN 0) (fC (.int 0)))) (sRet (fFr (fLst fNil))) sNil) (sSeq (sAsg (fCall G_reduced (gPos []) (fCons (fCall G_whole_rows (gPos []) (fCons (fV 0) fNil) fNil) (fCons (fFun funLen (fCons (fIxN 0 (fC (.int 0))) fNil)) fNil)) fNil) (gT 3 (gsCons (gN 1) (gsCons (gN 2) (gsCons (gN 3) gsNil))))) (sRet (fFr (fLc (fSq (fV 1)) (gN 4) fYes (fFr (fLc (fSq (fV 4)) (gN 5) fYes (fMake 0 G_Ratio_init (gPos []) (fCons (fV 5) (fCons (fV 3) fNil)) fNil) [5])) [4]))))) := rfl
  have c0 : sExpr (fCall G_check_rows (gPos []) (fCons (fV 0) fNil) fNil) [.val d, .un, .un, .un, .un, .un] = some (.nx [.val d, .un, .un, .un, .un, .un]) := expr_eq (call1 rfl (p_check h hn hw h0 (by omega)))
  have b9 : bt b 5 + 1 = 2 ^ 5 * (b + 1) := bt_val b 5
  have hb5 := bt_le b h1
  have hb4 := bt_le b (show w - 1 ≤ 4 by omega)
  have hb3 := bt_le b (show w - 2 ≤ 3 by omega)
  have b8 : bt b 4 + 1 = 2 ^ 4 * (b + 1) := bt_val b 4
  have b7 : bt b 3 + 1 = 2 ^ 3 * (b + 1) := bt_val b 3
  have t0 : fB (fBin gEqF (fLenN 0) (fC (.int 0))) [.val d, .un, .un, .un, .un, .un] = some (decide ((A.length : Int) = 0), [.val d, .un, .un, .un, .un, .un]) := fB_eq (bin_eq (len_rs h rfl) rfl (eqF_int _ _))
  by_cases e : A = []
  · rw [decide_eq_true (by rw [e]; rfl)] at t0
    refine ⟨[], 1, fun _ => 0, ?_, ⟨fun r hr => (by cases hr), Nat.zero_le _, fun i hi => absurd hi (Nat.not_lt_zero _), by decide, bdOne (by have := bt_le b (Nat.zero_le (w - 1)); change b ≤ _ at this; omega), fun r hr => (by cases hr), ⟨⟨fun i hi => absurd hi (Nat.not_lt_zero _), fun i j hi => absurd hi (Nat.not_lt_zero _)⟩, fun i j _ hj => absurd hj (Nat.not_lt_zero _), fun i hi => absurd hi (Nat.not_lt_zero _)⟩, fun i hi => absurd hi (Nat.not_lt_zero _), fun r hr => (by rw [e] at hr; cases hr)⟩⟩
    show (g_steps [.val d, .un, .un, .un, .un, .un]).bind endD = _
    have r : sRet (fFr (fLst fNil)) [.val d, .un, .un, .un, .un, .un] = some (.rt (.lst []) [.val d, .un, .un, .un, .un, .un]) := rfl
    rw [gi, seq_nx c0, sSeq, sIf_t t0, r]
    rfl
  · have hpos : 0 < A.length := List.length_pos_iff.mpr e
    rw [decide_eq_false (by omega)] at t0
    have wr := p_whole_rows hQ bQ h (by omega) (fun r hr => by rw [hw r hr]; omega) (fun r hr => (bd r hr).mono (by omega))
    obtain ⟨L, hs, p, er, E⟩ := p_reduced (A := A.map (Wf Q)) (n := A.length) (w := w) (b := b) (by simp) (by omega) (by omega) hb1 (by omega) (by omega) (fun r hr => by
      obtain ⟨x, hx, rfl⟩ := List.mem_map.mp hr
      rw [Wf_len]; exact hw x hx) (fun r hr => by
      obtain ⟨x, hx, rfl⟩ := List.mem_map.mp hr
      exact Wf_bd hQ (bd x hx))
    have S := E.stp h0
    have sw := sp_whole hQ A
    refine ⟨L.take hs.length, p, hd' hs, ?_, S.over sw.1 sw.2⟩
    have a1 : fCall G_reduced (gPos []) (fCons (fCall G_whole_rows (gPos []) (fCons (fV 0) fNil) fNil) (fCons (fFun funLen (fCons (fIxN 0 (fC (.int 0))) fNil)) fNil)) fNil [.val d, .un, .un, .un, .un, .un] = some (.tup [encI (L.take hs.length), .lst (natD hs), .int p], [.val d, .un, .un, .un, .un, .un]) := call2 (call1 rfl wr) (len0_eq h e hw rfl) er
    have c2 : sAsg (fCall G_reduced (gPos []) (fCons (fCall G_whole_rows (gPos []) (fCons (fV 0) fNil) fNil) (fCons (fFun funLen (fCons (fIxN 0 (fC (.int 0))) fNil)) fNil)) fNil) (gT 3 (gsCons (gN 1) (gsCons (gN 2) (gsCons (gN 3) gsNil)))) [.val d, .un, .un, .un, .un, .un] = some (.nx [.val d, .val (encI (L.take hs.length)), .val (.lst (natD hs)), .val (.int p), .un, .un]) := by
      rw [sAsg, a1]; rfl
    generalize L.take hs.length = T at *
    have bp : Bd p 8900 := S.bp.mono (by omega)
    have pz := S.pz
    have lT : T.length ≤ 5 := by have := S.kw; omega
    have c3 : fFr (fLc (fSq (fV 1)) (gN 4) fYes (fFr (fLc (fSq (fV 4)) (gN 5) fYes (fMake 0 G_Ratio_init (gPos []) (fCons (fV 5) (fCons (fV 3) fNil)) fNil) [5])) [4]) [.val d, .val (encI T), .val (.lst (natD hs)), .val (.int p), .un, .un] = some (.lst (T.map (rowR p)), [.val d, .val (encI T), .val (.lst (natD hs)), .val (.int p), .un, .un]) := by
      refine fr_eq (flc_map (f := rowI) (g := rowR p) (l := T) rfl rfl (by unfold big; omega) fun r hr => ⟨[.val d, .val (encI T), .val (.lst (natD hs)), .val (.int p), .val (rowI r), .un], rfl, ?_, rfl⟩)
      have lr := S.lw r hr
      exact fr_eq (flc_map (f := D.int) (g := mk p) (l := r) rfl rfl (by unfold big; omega) fun t ht => ⟨[.val d, .val (encI T), .val (.lst (natD hs)), .val (.int p), .val (rowI r), .val (.int t)], rfl, make2 rfl rfl (p_init pz bp), rfl⟩)
    show (g_steps [.val d, .un, .un, .un, .un, .un]).bind endD = _
    rw [gi, seq_nx c0, seq_nx (sIf_f t0), seq_nx c2, ret_eq c3]
    rfl
end My
namespace My
open PySem PySem.Spec PyProof.Rows L2 ClX Dl PyProof
/-! the kernel's rows -/
def ksets (fr : Nat) : List (List Int × Nat) → List Int → List Int
  | [], m => m
  | (r, h) :: l, m => ksets fr l (m.set h (-(cf r fr)))
theorem cf_set (m : List Int) (h : Nat) (v : Int) (c : Nat) : cf (m.set h v) c = if h = c ∧ h < m.length then v else cf m c := by
  unfold cf
  by_cases e : h = c
  · subst e
    by_cases l : h < m.length
    · rw [List.getElem?_set_self l, if_pos ⟨rfl, l⟩]; rfl
    · rw [if_neg (fun z => l z.2), List.set_eq_of_length_le (by omega)]
  · rw [List.getElem?_set_ne e, if_neg (fun z => e z.1)]
theorem ks_len (fr : Nat) : ∀ (l : List (List Int × Nat)) (m : List Int), (ksets fr l m).length = m.length
  | [], _ => rfl
  | (r, h) :: l, m => by rw [ksets, ks_len fr l]; simp
theorem ks_ne {fr c : Nat} : ∀ (l : List (List Int × Nat)) (m : List Int), (∀ x, x ∈ l → x.2 ≠ c) → cf (ksets fr l m) c = cf m c
  | [], _, _ => rfl
  | (r, h) :: l, m, n => by
    rw [ksets, ks_ne l _ (fun x hx => n x (List.mem_cons_of_mem _ hx)), cf_set, if_neg (fun z => n (r, h) (List.mem_cons_self ..) z.1)]
theorem ks_at {fr : Nat} {r : List Int} {h : Nat} : ∀ (l : List (List Int × Nat)) (m : List Int), (l.map (·.2)).Nodup → (r, h) ∈ l → h < m.length → cf (ksets fr l m) h = -(cf r fr)
  | [], _, _, hm, _ => by cases hm
  | (r', h') :: l, m, nd, hm, hl => by
    rw [List.map_cons, List.nodup_cons] at nd
    rw [ksets]
    rcases List.mem_cons.mp hm with e | hm
    · cases e
      rw [ks_ne l _ (fun x hx e => nd.1 (List.mem_map.mpr ⟨x, hx, e⟩)), cf_set, if_pos ⟨rfl, hl⟩]
    · exact ks_at l _ nd.2 hm (by simpa using hl)
theorem ks_bd {fr n : Nat} : ∀ (l : List (List Int × Nat)) (m : List Int), (∀ x, x ∈ l → BdR x.1 n) → BdR m n → BdR (ksets fr l m) n
  | [], _, _, h => h
  | (r, h) :: l, m, hl, hm => ks_bd l _ (fun x hx => hl x (List.mem_cons_of_mem _ hx)) fun t ht => by
    rcases List.mem_or_eq_of_mem_set ht with h | rfl
    · exact hm t h
    · exact ((hl (r, h) (List.mem_cons_self ..)).cf fr).neg
def krow (l : List (List Int × Nat)) (fr w : Nat) (p : Int) : List Int := ksets fr l ((List.replicate w 0).set fr p)
theorem neg_int (i : Int) : gNeg (.int i) = some (.int (-i)) := rfl
theorem i1_eq {i : Nat} {fe : FE} {δ δ1 : Es} {d : D} {xs : List D} {j : Nat} (he : fe δ = some (.int (j : Int), δ1)) (h0 : δ[i]? = some (.own .mine xs)) (h1 : δ1[i]? = some (.own .mine xs)) (hj : j < xs.length) : gI1 i fe d δ = some (δ1.set i (.own .mine (xs.set j d))) := by
  have o : isOwnL δ[i]? = true := by rw [h0]; rfl
  rw [gI1, if_pos o, he, Option.bind_some]
  dsimp only
  rw [h1]
  dsimp only
  rw [if_pos (show isL Ow.mine = true from rfl), ixN_nat hj]
  rfl
theorem asg_eq {f : FE} {ft : FG} {δ δ1 δ2 : Es} {d : D} (h : f δ = some (d, δ1)) (h2 : ft d δ1 = some δ2) : sAsg f ft δ = some (.nx δ2) := by
  rw [sAsg, h, Option.bind_some]
  dsimp only
  rw [h2]; rfl
theorem kr_loop {p : Int} (hp : p ≠ 0) (bp : Bd p 8900) {fr w : Nat} (hf : fr < w) {s0 s1 s4 : Sl} : ∀ (l : List (List Int × Nat)) (m : List Int) (s6 s7 : Sl), (∀ x, x ∈ l → x.1.length = w ∧ x.2 < w) → m.length = w → ∃ s6' s7', loopF (gT 2 (gsCons (gN 6) (gsCons (gN 7) gsNil))) (sAsg (fMake 0 G_Ratio_init (gPos []) (fCons (fUn gNeg (fIxN 6 (fV 3))) (fCons (fV 2) fNil)) fNil) (gI1 5 (fV 7))) (l.map fun x => .tup [rowI x.1, .int (x.2 : Int)]) [s0, s1, .val (.int p), .val (.int (fr : Int)), s4, .own .mine (m.map (mk p)), s6, s7] = some (.nx [s0, s1, .val (.int p), .val (.int (fr : Int)), s4, .own .mine ((ksets fr l m).map (mk p)), s6', s7'])
  | [], m, s6, s7, _, _ => ⟨s6, s7, rfl⟩
  | (r, h) :: l, m, s6, s7, hl, hm => by
    obtain ⟨lr, lh⟩ := hl (r, h) (List.mem_cons_self ..)
    obtain ⟨s6', s7', e⟩ := kr_loop hp bp hf l (m.set h (-(cf r fr))) (.val (rowI r)) (.val (.int (h : Int))) (fun x hx => hl x (List.mem_cons_of_mem _ hx)) (by simpa using hm) (s0 := s0) (s1 := s1) (s4 := s4)
    refine ⟨s6', s7', ?_⟩
    have a1 : fIxN 6 (fV 3) [s0, s1, .val (.int p), .val (.int (fr : Int)), s4, .own .mine (m.map (mk p)), .val (rowI r), .val (.int (h : Int))] = some (.int (cf r fr), [s0, s1, .val (.int p), .val (.int (fr : Int)), s4, .own .mine (m.map (mk p)), .val (rowI r), .val (.int (h : Int))]) := ixN_val rfl rfl (ix_rowI (show fr < r.length by rw [show r.length = w from lr]; exact hf))
    have a2 := un_eq (g := gNeg) a1 (neg_int _)
    have a3 : fMake 0 G_Ratio_init (gPos []) (fCons (fUn gNeg (fIxN 6 (fV 3))) (fCons (fV 2) fNil)) fNil [s0, s1, .val (.int p), .val (.int (fr : Int)), s4, .own .mine (m.map (mk p)), .val (rowI r), .val (.int (h : Int))] = some (mk p (-(cf r fr)), [s0, s1, .val (.int p), .val (.int (fr : Int)), s4, .own .mine (m.map (mk p)), .val (rowI r), .val (.int (h : Int))]) := make2 a2 rfl (p_init hp bp)
    have a4 : gI1 5 (fV 7) (mk p (-(cf r fr))) [s0, s1, .val (.int p), .val (.int (fr : Int)), s4, .own .mine (m.map (mk p)), .val (rowI r), .val (.int (h : Int))] = some [s0, s1, .val (.int p), .val (.int (fr : Int)), s4, .own .mine ((m.map (mk p)).set h (mk p (-(cf r fr)))), .val (rowI r), .val (.int (h : Int))] := i1_eq (i := 5) (fe := fV 7) (d := mk p (-(cf r fr))) (δ := [s0, s1, .val (.int p), .val (.int (fr : Int)), s4, .own .mine (m.map (mk p)), .val (rowI r), .val (.int (h : Int))]) (δ1 := [s0, s1, .val (.int p), .val (.int (fr : Int)), s4, .own .mine (m.map (mk p)), .val (rowI r), .val (.int (h : Int))]) (xs := m.map (mk p)) (j := h) rfl rfl rfl (by rw [List.length_map, hm]; exact lh)
    rw [← List.map_set] at a4
    rw [List.map_cons, loop_nx (δ1 := [s0, s1, .val (.int p), .val (.int (fr : Int)), s4, .own .mine (m.map (mk p)), .val (rowI r), .val (.int (h : Int))]) rfl (asg_eq a3 a4)]
    exact e
theorem repF_one (x : D) {w : Nat} (hw : w ≤ 1000) : gRepF (.lst [x]) (.int (w : Int)) = some (List.replicate w x) := by
  have q : gRepF (.lst [x]) (.int (w : Int)) = (if -(2 ^ 63) ≤ (w : Int) ∧ (w : Int) < 2 ^ 63 ∧ [x].length * (w : Int).toNat ≤ big then some (List.replicate (w : Int).toNat [x]).flatten else none) := rfl
  rw [q, rep_if (w : Int) _ (by omega) (by omega) (by rw [Int.toNat_natCast, List.length_singleton]; unfold big; omega), Int.toNat_natCast]
  clear q hw
  induction w with
  | zero => rfl
  | succ w ih =>
    rw [List.replicate_succ, List.flatten_cons, List.replicate_succ, Option.some_inj.mp ih]
    rfl
theorem binF_eq {g : D → D → Option (List D)} {fa fb : FE} {δ δ1 δ2 : Es} {x y : D} {ds : List D} (ha : fa δ = some (x, δ1)) (hb : fb δ1 = some (y, δ2)) (hg : g x y = some ds) : fBinF g fa fb δ = some (ds, δ2) := by
  rw [fBinF, ha, Option.bind_some]
  dsimp only
  rw [hb, Option.bind_some]
  dsimp only
  rw [hg]
  rfl
theorem mk0 {p : Int} (hp : p ≠ 0) : mk 1 0 = mk p 0 := mk_eq (by decide) hp (by simp)
theorem mk1 {p : Int} (hp : p ≠ 0) : mk 1 1 = mk p p := mk_eq (by decide) hp (by simp)
theorem p_kernel_row {p : Int} (hp : p ≠ 0) (bp : Bd p 8900) {fr w : Nat} (hf : fr < w) (hw : w ≤ 60) (T : List (List Int)) (hs : List Nat) (hl : ∀ x, x ∈ T.zip hs → x.1.length = w ∧ x.2 < w) : G_kernel_row [encI T, .lst (natD hs), .int p, .int (fr : Int), .int (w : Int)] = some (rowR p (krow (T.zip hs) fr w p)) := by
  have gi : g_kernel_row = sSeq (sOwn 5 (fBinF gRepF (fFr (fLst (fCons (fMake 0 G_Ratio_init (gPos [.int 1]) (fCons (fC (.int 0)) fNil) fNil) fNil))) (fV 4))) (sSeq (sAsg (fMake 0 G_Ratio_init (gPos [.int 1]) (fCons (fC (.int 1)) fNil) fNil) (gI1 5 (fV 3))) (sSeq (sFor (fZip (fCons (fV 0) (fCons (fV 1) fNil))) (gT 2 (gsCons (gN 6) (gsCons (gN 7) gsNil))) (sAsg (fMake 0 G_Ratio_init (gPos []) (fCons (fUn gNeg (fIxN 6 (fV 3))) (fCons (fV 2) fNil)) fNil) (gI1 5 (fV 7)))) (sRet (fV 5)))) := rfl
  have i0 := p_init (t := 0) (b := 1) (by decide) (bdOne (by decide))
  have i1 := p_init (t := 1) (b := 1) (by decide) (bdOne (by decide))
  generalize hd0 : encI T = d0 at *
  have m0 : fMake 0 G_Ratio_init (gPos [.int 1]) (fCons (fC (.int 0)) fNil) fNil [.val d0, .val (.lst (natD hs)), .val (.int p), .val (.int (fr : Int)), .val (.int (w : Int)), .un, .un, .un] = some (mk p 0, [.val d0, .val (.lst (natD hs)), .val (.int p), .val (.int (fr : Int)), .val (.int (w : Int)), .un, .un, .un]) := by
    rw [← mk0 hp]; exact make1d rfl i0
  have g0 := repF_one (mk p 0) (w := w) (by omega)
  have e0 : List.replicate w (mk p 0) = (List.replicate w (0 : Int)).map (mk p) := (List.map_replicate ..).symm
  rw [e0] at g0
  have b0 : fBinF gRepF (fFr (fLst (fCons (fMake 0 G_Ratio_init (gPos [.int 1]) (fCons (fC (.int 0)) fNil) fNil) fNil))) (fV 4) [.val d0, .val (.lst (natD hs)), .val (.int p), .val (.int (fr : Int)), .val (.int (w : Int)), .un, .un, .un] = some ((List.replicate w (0 : Int)).map (mk p), [.val d0, .val (.lst (natD hs)), .val (.int p), .val (.int (fr : Int)), .val (.int (w : Int)), .un, .un, .un]) := binF_eq (lst1 m0) rfl g0
  have c1 := own_eq (i := 5) b0
  simp only [List.set_cons_succ, List.set_cons_zero] at c1
  have m1 : fMake 0 G_Ratio_init (gPos [.int 1]) (fCons (fC (.int 1)) fNil) fNil [.val d0, .val (.lst (natD hs)), .val (.int p), .val (.int (fr : Int)), .val (.int (w : Int)), .own .mine ((List.replicate w (0 : Int)).map (mk p)), .un, .un] = some (mk p p, [.val d0, .val (.lst (natD hs)), .val (.int p), .val (.int (fr : Int)), .val (.int (w : Int)), .own .mine ((List.replicate w (0 : Int)).map (mk p)), .un, .un]) := by
    rw [← mk1 hp]; exact make1d rfl i1
  have t1 : gI1 5 (fV 3) (mk p p) [.val d0, .val (.lst (natD hs)), .val (.int p), .val (.int (fr : Int)), .val (.int (w : Int)), .own .mine ((List.replicate w (0 : Int)).map (mk p)), .un, .un] = some [.val d0, .val (.lst (natD hs)), .val (.int p), .val (.int (fr : Int)), .val (.int (w : Int)), .own .mine (((List.replicate w (0 : Int)).map (mk p)).set fr (mk p p)), .un, .un] := i1_eq (i := 5) (fe := fV 3) (d := mk p p) (δ := [.val d0, .val (.lst (natD hs)), .val (.int p), .val (.int (fr : Int)), .val (.int (w : Int)), .own .mine ((List.replicate w (0 : Int)).map (mk p)), .un, .un]) (δ1 := [.val d0, .val (.lst (natD hs)), .val (.int p), .val (.int (fr : Int)), .val (.int (w : Int)), .own .mine ((List.replicate w (0 : Int)).map (mk p)), .un, .un]) (xs := (List.replicate w (0 : Int)).map (mk p)) (j := fr) rfl rfl rfl (by rw [List.length_map, List.length_replicate]; exact hf)
  rw [← List.map_set] at t1
  have c2 := asg_eq m1 t1
  obtain ⟨s6, s7, lp⟩ := kr_loop hp bp hf (T.zip hs) ((List.replicate w 0).set fr p) .un .un hl (by simp) (s0 := .val d0) (s1 := .val (.lst (natD hs))) (s4 := .val (.int (w : Int)))
  have z : fZip (fCons (fV 0) (fCons (fV 1) fNil)) [.val d0, .val (.lst (natD hs)), .val (.int p), .val (.int (fr : Int)), .val (.int (w : Int)), .own .mine (((List.replicate w 0).set fr p).map (mk p)), .un, .un] = some ((T.zip hs).map fun x => .tup [rowI x.1, .int (x.2 : Int)], [.val d0, .val (.lst (natD hs)), .val (.int p), .val (.int (fr : Int)), .val (.int (w : Int)), .own .mine (((List.replicate w 0).set fr p).map (mk p)), .un, .un]) := by
    rw [← pairs_zip rowI (fun h : Nat => D.int (h : Int)) T hs, ← hd0]
    rfl
  have c3 := for_eq z lp
  show (g_kernel_row [.val d0, .val (.lst (natD hs)), .val (.int p), .val (.int (fr : Int)), .val (.int (w : Int)), .un, .un, .un]).bind endD = _
  rw [gi, seq_nx c1, seq_nx c2, seq_nx c3]
  rfl
end My
namespace My
open PySem PySem.Spec PyProof.Rows L2 ClX Dl PyProof
/-! the kernel -/
structure Knl (w b : Nat) (A N : List (List Int)) (p : Int) (k : Nat) (g : Nat → Nat) (F : Nat → Vec) (fr : Nat → Nat) : Prop where
  lw : ∀ r, r ∈ N → r.length = w
  pz : p ≠ 0
  bp : Bd p b
  bd : ∀ r, r ∈ N → BdR r b
  kr : Kr w k g F N.length fr (vE N p)
  s1 : ∀ i, i < k → Sp (Rq A) (F i)
  s2 : ∀ r, r ∈ A → Sp (Ro k F) (vq r)
abbrev rvV (w : Nat) (v : Vec) : Vec := fun j => if j < w then v (w - 1 - j) else 0
theorem Sp.rv {A C : Vec → Prop} {v : Vec} (w : Nat) (hv : Sp A v) (h : ∀ a, A a → Sp C (rvV w a)) : Sp C (rvV w v) := by
  induction hv with
  | zero =>
    refine Sp.zero.of_eq fun j => ?_
    show (0 : Rat) = if j < w then 0 else 0
    split <;> rfl
  | @step v a c ha _ ih =>
    refine (ih.add ((h _ ha).smul c)).of_eq fun j => ?_
    show (if j < w then v (w - 1 - j) else 0) + c * (if j < w then a (w - 1 - j) else 0) = if j < w then v (w - 1 - j) + c * a (w - 1 - j) else 0
    split <;> grind
theorem cf_rev {r : List Int} {w : Nat} (h : r.length = w) (j : Nat) : cf r.reverse j = if j < w then cf r (w - 1 - j) else 0 := by
  by_cases c : j < w
  · rw [if_pos c]
    unfold cf
    rw [List.getElem?_reverse (by omega), h]
  · rw [if_neg c, cf_over (by rw [List.length_reverse]; omega)]
theorem rv_rev {r : List Int} {w : Nat} (h : r.length = w) (j : Nat) : rvV w (vq r.reverse) j = vq r j := by
  show (if j < w then ((cf r.reverse (w - 1 - j) : Int) : Rat) else 0) = ((cf r j : Int) : Rat)
  by_cases c : j < w
  · have e : w - 1 - (w - 1 - j) = j := by omega
    have e' : w - 1 - j < w := by omega
    rw [if_pos c, cf_rev h, if_pos e', e]
  · have z : cf r j = 0 := cf_over (by omega)
    rw [if_neg c, z]
    exact Rat.intCast_zero.symm
theorem p_kernel_rows {w b : Nat} {A : List (List Int)} (hn : A.length ≤ 60) (hw : ∀ r, r ∈ A → r.length = w) (h0 : 1 ≤ w) (h1 : w ≤ 5) (hb1 : 1 ≤ b) (hb : b ≤ 383) (bd : ∀ r, r ∈ A → BdR r b) :
    ∃ N p k g F fr, G_kernel_rows [encI A, .int (w : Int)] = some (.lst (N.map (rowR p))) ∧ Knl w (bt b (w - 1)) A N p k g F fr := by
  have b9 : bt b 5 + 1 = 2 ^ 5 * (b + 1) := bt_val b 5
  have hb5 := bt_le b h1
  have hb4 := bt_le b (show w - 1 ≤ 4 by omega)
  have hb3 := bt_le b (show w - 2 ≤ 3 by omega)
  have b8 : bt b 4 + 1 = 2 ^ 4 * (b + 1) := bt_val b 4
  have b7 : bt b 3 + 1 = 2 ^ 3 * (b + 1) := bt_val b 3
  obtain ⟨L, hs, p, er, E⟩ := p_reduced (A := A.map List.reverse) (n := A.length) (w := w) (b := b) (by simp) (by omega) (by omega) hb1 (by omega) (by omega) (fun r hr => by
    obtain ⟨x, hx, rfl⟩ := List.mem_map.mp hr
    rw [List.length_reverse]; exact hw x hx) (fun r hr => by
    obtain ⟨x, hx, rfl⟩ := List.mem_map.mp hr
    exact fun t ht => bd x hx t (List.mem_reverse.mp ht))
  have S := E.stp h0
  have lT : (L.take hs.length).length = hs.length := by rw [List.length_take]; have := E.hk; have := E.ln; omega
  generalize L.take hs.length = T at *
  have kw := S.kw
  have bp : Bd p 8900 := S.bp.mono (by omega)
  have pz := S.pz
  have pq : (p : Rat) ≠ 0 := by exact_mod_cast pz
  have hh : ∀ i, i < hs.length → hd' hs i < w := fun i hi => S.hw i (by rw [lT]; exact hi)
  have hx : ∀ h, h ∈ hs → h < w := fun h hm => by
    obtain ⟨i, hi, e⟩ := List.mem_iff_getElem.mp hm
    have := hh i hi
    change (hs[i]?).getD 0 < w at this
    rw [List.getElem?_eq_getElem hi, e] at this
    exact this
  -- the program's walk
  let heads : List Nat := hs.map fun h => w - 1 - h
  let T' : List (List Int) := T.map List.reverse
  let fl : List Nat := (List.range w).filter fun c => !decide (c ∈ heads)
  have lT' : T'.length = hs.length := by show (T.map _).length = _; rw [List.length_map, lT]
  have lh : heads.length = hs.length := by show (hs.map _).length = _; rw [List.length_map]
  have T'w : ∀ r, r ∈ T' → r.length = w := fun r hr => by
    obtain ⟨x, hx, rfl⟩ := List.mem_map.mp hr
    rw [List.length_reverse]; exact S.lw x hx
  have hdw : ∀ h, h ∈ heads → h < w := fun h hm => by
    obtain ⟨x, hx, rfl⟩ := List.mem_map.mp hm
    omega
  have zl : ∀ x, x ∈ T'.zip heads → x.1.length = w ∧ x.2 < w := fun x hx => ⟨T'w _ (List.of_mem_zip hx).1, hdw _ (List.of_mem_zip hx).2⟩
  refine ⟨fl.map fun f => krow (T'.zip heads) f w p, p, hs.length, fun i => w - 1 - hd' hs i, fun i => rvV w (vE T p i), fun a => fl[a]?.getD 0, ?_, ?_⟩
  · have gi : g_kernel_rows = sSeq (sAsg (fCall G_reduced (gPos []) (fCons (fFr (fLc (fSq (fV 0)) (gN 7) fYes (fFr (fRev (fV 7))) [7])) (fCons (fV 1) fNil)) fNil) (gT 3 (gsCons (gN 2) (gsCons (gN 3) (gsCons (gN 4) gsNil))))) (sSeq (sSet 5 (fFr (fLc (fSq (fV 2)) (gN 7) fYes (fFr (fRev (fV 7))) [7]))) (sSeq (sSet 6 (fFr (fLc (fSq (fV 3)) (gN 8) fYes (fBin (gI0 fun i j => .int (i - j)) (fBin (gI0 fun i j => .int (i - j)) (fV 1) (fC (.int 1))) (fV 8)) [8]))) (sRet (fFr (fLc (fRg1 (fCons (fV 1) fNil)) (gN 9) (fB (fBin gNotIn (fV 9) (fV 6))) (fCall G_kernel_row (gPos []) (fCons (fV 5) (fCons (fV 6) (fCons (fV 4) (fCons (fV 9) (fCons (fV 1) fNil))))) fNil) [9]))))) := rfl
    have rev : ∀ r : List Int, (r.map D.int).reverse = r.reverse.map D.int := fun r => (List.map_reverse ..).symm
    have m1 : fFr (fLc (fSq (fV 0)) (gN 7) fYes (fFr (fRev (fV 7))) [7]) [.val (encI A), .val (.int (w : Int)), .un, .un, .un, .un, .un, .un, .un, .un] = some (encI (A.map List.reverse), [.val (encI A), .val (.int (w : Int)), .un, .un, .un, .un, .un, .un, .un, .un]) := by
      have := fr_eq (flc_map (δ0 := [.val (encI A), .val (.int (w : Int)), .un, .un, .un, .un, .un, .un, .un, .un]) (fI := fSq (fV 0)) (ft := gN 7) (fe := fFr (fRev (fV 7))) (vs := [7]) (f := rowI) (g := fun r => rowI r.reverse) (l := A) rfl rfl (by unfold big; omega) fun r hr => ⟨[.val (encI A), .val (.int (w : Int)), .un, .un, .un, .un, .un, .val (rowI r), .un, .un], rfl, by
        show some (D.lst (r.map D.int).reverse, _) = _
        rw [rev], rfl⟩)
      rw [this]
      show some (D.lst _, _) = some (D.lst ((A.map _).map rowI), _)
      rw [List.map_map]
      rfl
    have c1 : sAsg (fCall G_reduced (gPos []) (fCons (fFr (fLc (fSq (fV 0)) (gN 7) fYes (fFr (fRev (fV 7))) [7])) (fCons (fV 1) fNil)) fNil) (gT 3 (gsCons (gN 2) (gsCons (gN 3) (gsCons (gN 4) gsNil)))) [.val (encI A), .val (.int (w : Int)), .un, .un, .un, .un, .un, .un, .un, .un] = some (.nx [.val (encI A), .val (.int (w : Int)), .val (encI T), .val (.lst (natD hs)), .val (.int p), .un, .un, .un, .un, .un]) := asg_eq (call2 m1 rfl er) rfl
    have m2 : fFr (fLc (fSq (fV 2)) (gN 7) fYes (fFr (fRev (fV 7))) [7]) [.val (encI A), .val (.int (w : Int)), .val (encI T), .val (.lst (natD hs)), .val (.int p), .un, .un, .un, .un, .un] = some (encI T', [.val (encI A), .val (.int (w : Int)), .val (encI T), .val (.lst (natD hs)), .val (.int p), .un, .un, .un, .un, .un]) := by
      have := fr_eq (flc_map (δ0 := [.val (encI A), .val (.int (w : Int)), .val (encI T), .val (.lst (natD hs)), .val (.int p), .un, .un, .un, .un, .un]) (fI := fSq (fV 2)) (ft := gN 7) (fe := fFr (fRev (fV 7))) (vs := [7]) (f := rowI) (g := fun r => rowI r.reverse) (l := T) rfl rfl (by unfold big; omega) fun r hr => ⟨[.val (encI A), .val (.int (w : Int)), .val (encI T), .val (.lst (natD hs)), .val (.int p), .un, .un, .val (rowI r), .un, .un], rfl, by
        show some (D.lst (r.map D.int).reverse, _) = _
        rw [rev], rfl⟩)
      rw [this]
      show some (D.lst _, _) = some (D.lst ((T.map _).map rowI), _)
      rw [List.map_map]
      rfl
    have c2 : sSet 5 (fFr (fLc (fSq (fV 2)) (gN 7) fYes (fFr (fRev (fV 7))) [7])) [.val (encI A), .val (.int (w : Int)), .val (encI T), .val (.lst (natD hs)), .val (.int p), .un, .un, .un, .un, .un] = some (.nx [.val (encI A), .val (.int (w : Int)), .val (encI T), .val (.lst (natD hs)), .val (.int p), .val (encI T'), .un, .un, .un, .un]) := set_eq m2
    have m3 : fFr (fLc (fSq (fV 3)) (gN 8) fYes (fBin (gI0 fun i j => .int (i - j)) (fBin (gI0 fun i j => .int (i - j)) (fV 1) (fC (.int 1))) (fV 8)) [8]) [.val (encI A), .val (.int (w : Int)), .val (encI T), .val (.lst (natD hs)), .val (.int p), .val (encI T'), .un, .un, .un, .un] = some (.lst (natD heads), [.val (encI A), .val (.int (w : Int)), .val (encI T), .val (.lst (natD hs)), .val (.int p), .val (encI T'), .un, .un, .un, .un]) := by
      have := fr_eq (flc_map (δ0 := [.val (encI A), .val (.int (w : Int)), .val (encI T), .val (.lst (natD hs)), .val (.int p), .val (encI T'), .un, .un, .un, .un]) (fI := fSq (fV 3)) (ft := gN 8) (fe := fBin (gI0 fun i j => .int (i - j)) (fBin (gI0 fun i j => .int (i - j)) (fV 1) (fC (.int 1))) (fV 8)) (vs := [8]) (f := fun h : Nat => D.int (h : Int)) (g := fun h => D.int ((w - 1 - h : Nat) : Int)) (l := hs) rfl rfl (by unfold big; omega) fun h hm => ⟨[.val (encI A), .val (.int (w : Int)), .val (encI T), .val (.lst (natD hs)), .val (.int p), .val (encI T'), .un, .un, .val (.int (h : Int)), .un], rfl, by
        have e : ((w - 1 - h : Nat) : Int) = (w : Int) - 1 - (h : Int) := by have := hx h hm; omega
        rw [e]; rfl, rfl⟩)
      rw [this]
      show some (D.lst _, _) = some (D.lst ((hs.map _).map _), _)
      rw [List.map_map]
      rfl
    have c3 : sSet 6 (fFr (fLc (fSq (fV 3)) (gN 8) fYes (fBin (gI0 fun i j => .int (i - j)) (fBin (gI0 fun i j => .int (i - j)) (fV 1) (fC (.int 1))) (fV 8)) [8])) [.val (encI A), .val (.int (w : Int)), .val (encI T), .val (.lst (natD hs)), .val (.int p), .val (encI T'), .un, .un, .un, .un] = some (.nx [.val (encI A), .val (.int (w : Int)), .val (encI T), .val (.lst (natD hs)), .val (.int p), .val (encI T'), .val (.lst (natD heads)), .un, .un, .un]) := set_eq m3
    generalize hh0 : heads = hz at *
    generalize hT0 : T' = Tz at *
    have rg := rg1_int (w : Int) (by omega) (by omega) (fa := fCons (fV 1) fNil) (δ := [.val (encI A), .val (.int (w : Int)), .val (encI T), .val (.lst (natD hs)), .val (.int p), .val (encI Tz), .val (.lst (natD hz)), .un, .un, .un]) (δ1 := [.val (encI A), .val (.int (w : Int)), .val (encI T), .val (.lst (natD hs)), .val (.int p), .val (encI Tz), .val (.lst (natD hz)), .un, .un, .un]) rfl
    have ri : intsD 0 (w : Int).toNat = (List.range w).map fun i : Nat => D.int (i : Int) := by
      unfold intsD
      rw [Int.toNat_natCast]
      exact List.map_congr_left fun i _ => by rw [Int.zero_add]
    rw [ri] at rg
    have m4 := fr_eq (flc_filt (fI := fRg1 (fCons (fV 1) fNil)) (ft := gN 9) (fc := fB (fBin gNotIn (fV 9) (fV 6))) (fe := fCall G_kernel_row (gPos []) (fCons (fV 5) (fCons (fV 6) (fCons (fV 4) (fCons (fV 9) (fCons (fV 1) fNil))))) fNil) (vs := [9]) (c := fun c => !decide (c ∈ hz)) (g := fun f => rowR p (krow (Tz.zip hz) f w p)) rg rfl (by unfold big; rw [List.length_range]; omega) fun f hf => ⟨[.val (encI A), .val (.int (w : Int)), .val (encI T), .val (.lst (natD hs)), .val (.int p), .val (encI Tz), .val (.lst (natD hz)), .un, .un, .val (.int (f : Int))], rfl, ?_, fun _ => ?_, rfl⟩)
    · show (g_kernel_rows [.val (encI A), .val (.int (w : Int)), .un, .un, .un, .un, .un, .un, .un, .un]).bind endD = _
      rw [gi, seq_nx c1, seq_nx c2, seq_nx c3, ret_eq m4]
      show some (D.lst _) = some (D.lst ((fl.map _).map _))
      rw [List.map_map]
      show some (D.lst (List.map _ (List.filter _ (List.range w)))) = some (D.lst (List.map _ (List.filter (fun c => !decide (c ∈ heads)) (List.range w))))
      rw [hh0]
      rfl
    · refine fB_eq (bin_eq rfl rfl ?_)
      have e : natD hz = (hz.map fun h : Nat => (h : Int)).map D.int := by rw [List.map_map]; rfl
      show (intsOf (natD hz)).map _ = _
      rw [e, intsOf_map, Option.map_some]
      have : (decide ((f : Int) ∈ hz.map fun h : Nat => (h : Int))) = decide (f ∈ hz) := by
        rw [Bool.eq_iff_iff, decide_eq_true_eq, decide_eq_true_eq, List.mem_map]
        exact ⟨fun ⟨x, hx, e⟩ => by have : x = f := by omega
                                    exact this ▸ hx, fun h => ⟨f, h, rfl⟩⟩
      rw [this]
    · exact call5 rfl rfl rfl rfl rfl (p_kernel_row pz bp (List.mem_range.mp hf) (by omega) Tz hz zl)
  · have flm : ∀ a, a < fl.length → fl[a]?.getD 0 ∈ fl := fun a ha => by
      rw [List.getElem?_eq_getElem ha]; exact List.getElem_mem ha
    have flp : ∀ f, f ∈ fl → f < w ∧ f ∉ heads := fun f hf => by
      have := List.mem_filter.mp hf
      exact ⟨List.mem_range.mp this.1, by simpa using this.2⟩
    have hg : ∀ i, i < hs.length → w - 1 - hd' hs i ∈ heads := fun i hi => by
      refine List.mem_map.mpr ⟨hd' hs i, ?_, rfl⟩
      show (hs[i]?).getD 0 ∈ hs
      rw [List.getElem?_eq_getElem hi]; exact List.getElem_mem hi
    have nd : heads.Nodup := by
      show (hs.map _).Nodup
      rw [List.nodup_iff_pairwise_ne, List.pairwise_map, List.pairwise_iff_getElem]
      intro i j hi hj hij
      have h1 := S.st.asc i j hij (by rw [lT]; exact hj)
      have h2 := hh j hj
      change (hs[i]?).getD 0 < (hs[j]?).getD 0 at h1
      change (hs[j]?).getD 0 < w at h2
      rw [List.getElem?_eq_getElem hi, List.getElem?_eq_getElem hj] at h1
      rw [List.getElem?_eq_getElem hj] at h2
      change hs[i] < hs[j] at h1
      change hs[j] < w at h2
      omega
    have rw1 : ∀ i, i < hs.length → rw' T' i = (rw' T i).reverse := fun i hi => by
      show ((T.map List.reverse)[i]?).getD [] = _
      rw [List.getElem?_map, get_rw (by omega)]
      rfl
    have rwN : ∀ a, a < fl.length → rw' (fl.map fun f => krow (T'.zip heads) f w p) a = krow (T'.zip heads) (fl[a]?.getD 0) w p := fun a ha => by
      show ((fl.map _)[a]?).getD [] = _
      rw [List.getElem?_map, List.getElem?_eq_getElem ha]
      rfl
    have lN : (fl.map fun f => krow (T'.zip heads) f w p).length = fl.length := List.length_map ..
    have l0 : ∀ f : Nat, ((List.replicate w (0 : Int)).set f p).length = w := fun f => by simp
    have cr : ∀ c, cf (List.replicate w (0 : Int)) c = 0 := fun c => by
      unfold cf
      rw [List.getElem?_replicate]
      split <;> rfl
    have out : ∀ f c, c ∉ heads → cf (krow (T'.zip heads) f w p) c = if f = c ∧ f < w then p else 0 := fun f c hc => by
      have e := cf_set (List.replicate w (0 : Int)) f p c
      rw [List.length_replicate, cr] at e
      exact (ks_ne (fr := f) (c := c) (T'.zip heads) _ (fun x hx e => hc (by rw [← e]; exact (List.of_mem_zip hx).2))).trans e
    have inn : ∀ f i, i < hs.length → cf (krow (T'.zip heads) f w p) (w - 1 - hd' hs i) = -(cf (rw' T' i) f) := fun f i hi => by
      refine ks_at _ _ ?_ ?_ (by rw [l0]; have := hh i hi; omega)
      · rw [List.map_snd_zip (by omega)]
        exact nd
      · have lz : i < (T'.zip heads).length := by rw [List.length_zip]; omega
        have e : (T'.zip heads)[i] = (rw' T' i, w - 1 - hd' hs i) := by
          have i1 : i < T'.length := by rw [lT']; exact hi
          have i2 : i < heads.length := by rw [lh]; exact hi
          have e1 : T'[i] = rw' T' i := by
            show _ = (T'[i]?).getD []
            rw [List.getElem?_eq_getElem i1]; rfl
          have e2 : heads[i] = w - 1 - hd' hs i := by
            show (hs.map fun h => w - 1 - h)[i]'_ = w - 1 - (hs[i]?).getD 0
            rw [List.getElem_map, List.getElem?_eq_getElem hi]; rfl
          rw [List.getElem_zip, e1, e2]
        rw [← e]
        exact List.getElem_mem lz
    have rvq : ∀ r, r ∈ A → ∀ j, rvV w (vq r.reverse) j = vq r j := fun r hr j => rv_rev (hw r hr) j
    refine ⟨fun r hr => ?_, pz, S.bp, fun r hr => ?_, ⟨⟨fun i hi => ?_, fun i j hi hj ne => ?_⟩, fun i hi => ?_, fun i hi c hc => ?_, fun a ha => ?_, fun a b' hab hb' => ?_, fun a ha i hi e => ?_, fun c hc n => ?_, fun a ha => ?_, fun a ha i hi => ?_, fun a ha c hc n => ?_⟩, fun i hi => ?_, fun r hr => ?_⟩
    · obtain ⟨f, hf, rfl⟩ := List.mem_map.mp hr
      rw [krow, ks_len, l0]
    · obtain ⟨f, hf, rfl⟩ := List.mem_map.mp hr
      refine ks_bd _ _ (fun x hx => ?_) fun t ht => ?_
      · obtain ⟨y, hy, e⟩ := List.mem_map.mp (List.of_mem_zip hx).1
        rw [← e]
        exact fun t ht => S.bd y hy t (List.mem_reverse.mp ht)
      · rcases List.mem_or_eq_of_mem_set ht with h | rfl
        · rw [List.eq_of_mem_replicate h]; exact bd0
        · exact S.bp
    · have := hh i hi
      show (if _ then vE T p i (w - 1 - (w - 1 - hd' hs i)) else 0) = 1
      rw [if_pos (by omega), show w - 1 - (w - 1 - hd' hs i) = hd' hs i by omega]
      exact S.st.hd.one i (by rw [lT]; exact hi)
    · have := hh j hj
      show (if _ then vE T p i (w - 1 - (w - 1 - hd' hs j)) else 0) = 0
      rw [if_pos (by omega), show w - 1 - (w - 1 - hd' hs j) = hd' hs j by omega]
      exact S.st.hd.zer i j (by rw [lT]; exact hi) (by rw [lT]; exact hj) ne
    · show w - 1 - hd' hs i < w
      omega
    · show (if c < w then vE T p i (w - 1 - c) else 0) = 0
      by_cases cw : c < w
      · rw [if_pos cw]
        exact S.st.lo i (by rw [lT]; exact hi) _ (by omega)
      · rw [if_neg cw]
    · rw [lN] at ha
      exact (flp _ (flm a ha)).1
    · rw [lN] at hb'
      have pw : fl.Pairwise (· < ·) := (List.pairwise_lt_range (n := w)).filter _
      have := List.pairwise_iff_getElem.mp pw a b' (by omega) hb' hab
      show (fl[a]?).getD 0 < (fl[b']?).getD 0
      rw [List.getElem?_eq_getElem (show a < fl.length by omega), List.getElem?_eq_getElem hb']
      exact this
    · rw [lN] at ha
      exact (flp _ (flm a ha)).2 (by rw [← show w - 1 - hd' hs i = _ from e]; exact hg i hi)
    · have hm : c ∈ fl := List.mem_filter.mpr ⟨List.mem_range.mpr hc, by
        have : c ∉ heads := fun hm => by
          obtain ⟨x, hx, e⟩ := List.mem_map.mp hm
          obtain ⟨i, hi, e2⟩ := List.mem_iff_getElem.mp hx
          refine n i hi ?_
          show w - 1 - (hs[i]?).getD 0 = c
          rw [List.getElem?_eq_getElem hi, ← e, ← e2]; rfl
        simpa using this⟩
      obtain ⟨a, ha, e⟩ := List.mem_iff_getElem.mp hm
      refine ⟨a, by rw [lN]; exact ha, ?_⟩
      show (fl[a]?).getD 0 = c
      rw [List.getElem?_eq_getElem ha, e]; rfl
    · rw [lN] at ha
      have f := flp _ (flm a ha)
      show ((cf (rw' _ a) _ : Int) : Rat) / p = 1
      rw [rwN a ha, out _ _ f.2, if_pos ⟨rfl, f.1⟩]
      grind
    · rw [lN] at ha
      have f := flp _ (flm a ha)
      show ((cf (rw' _ a) (w - 1 - hd' hs i) : Int) : Rat) / p = -(if _ then ((cf (rw' T i) (w - 1 - fl[a]?.getD 0) : Int) : Rat) / p else 0)
      rw [rwN a ha, inn _ i hi, rw1 i hi, cf_rev (S.lw _ (rw_mem (by omega))), if_pos f.1, if_pos f.1, Rat.intCast_neg]
      grind
    · rw [lN] at ha
      show ((cf (rw' _ a) c : Int) : Rat) / p = 0
      have hc2 : c ∉ heads := fun hm => by
        obtain ⟨x, hx, e⟩ := List.mem_map.mp hm
        obtain ⟨i, hi, e2⟩ := List.mem_iff_getElem.mp hx
        refine n i hi ?_
        show w - 1 - (hs[i]?).getD 0 = c
        rw [List.getElem?_eq_getElem hi, ← e, ← e2]; rfl
      rw [rwN a ha, out _ _ hc2, if_neg (fun z => hc z.1.symm)]
      grind
    · refine Sp.rv w (S.s1 i (by rw [lT]; exact hi)) ?_
      rintro v ⟨y, hy, rfl⟩
      obtain ⟨r, hr, rfl⟩ := List.mem_map.mp hy
      exact (Sp.mem (A := Rq A) ⟨r, hr, rfl⟩).of_eq fun j => (rvq r hr j).symm
    · refine (Sp.rv w (S.s2 r.reverse (List.mem_map_of_mem hr)) (C := Ro hs.length fun i => rvV w (vE T p i)) ?_).of_eq (rvq r hr)
      rintro v ⟨i, hi, rfl⟩
      exact Sp.mem ⟨i, by rw [← lT]; exact hi, rfl⟩
end My
namespace My
open PySem PySem.Spec PyProof.Rows L2 ClX Dl PyProof
theorem p_kernel {Q : Int} (hQ : Q ≠ 0) (bQ : Bd Q 8900) {A : List (List Int)} {d : D} {w b : Nat} (h : Rs Q A d) (hn : A.length ≤ 60) (hw : ∀ r, r ∈ A → r.length = w) (h0 : 1 ≤ w) (h1 : w ≤ 5) (hb1 : 1 ≤ b) (hb : b ≤ 383) (bd : ∀ r, r ∈ A → BdR r b) :
    ∃ N p k g F fr, G_kernel [d, .int (w : Int)] = some (.lst (N.map (rowR p))) ∧ Knl w (bt b (w - 1)) A N p k g F fr := by
  have wr := p_whole_rows hQ bQ h (by omega) (fun r hr => by rw [hw r hr]; omega) (fun r hr => (bd r hr).mono (by omega))
  obtain ⟨N, p, k, g, F, fr, e, K⟩ := p_kernel_rows (A := A.map (Wf Q)) (w := w) (b := b) (by rw [List.length_map]; exact hn) (fun r hr => by
    obtain ⟨x, hx, rfl⟩ := List.mem_map.mp hr
    rw [Wf_len]; exact hw x hx) h0 h1 hb1 hb (fun r hr => by
    obtain ⟨x, hx, rfl⟩ := List.mem_map.mp hr
    exact Wf_bd hQ (bd x hx))
  have sw := sp_whole hQ A
  refine ⟨N, p, k, g, F, fr, ?_, K.lw, K.pz, K.bp, K.bd, K.kr, fun i hi => (K.s1 i hi).mono (by rintro v ⟨r, hr, rfl⟩; exact sw.2 r hr), fun r hr => (sw.1 r hr).mono (by rintro v ⟨x, hx, rfl⟩; exact K.s2 x hx)⟩
  have gi : g_kernel = sSeq (sExpr (fCall G_check_rows (gPos []) (fCons (fV 0) fNil) fNil)) (sSeq (sIf (fNot (fB (fCall G_is_width (gPos []) (fCons (fV 1) fNil) fNil))) sNo sNil) (sSeq (sIf (fAnd (fB (fBin (gI0 fun i j => .bl (decide (j < i))) (fLenN 0) (fC (.int 0)))) (fB (fBin gNeF (fFun funLen (fCons (fIxN 0 (fC (.int 0))) fNil)) (fV 1)))) sNo sNil) (sRet (fCall G_kernel_rows (gPos []) (fCons (fCall G_whole_rows (gPos []) (fCons (fV 0) fNil) fNil) (fCons (fV 1) fNil)) fNil)))) := rfl
  have c0 : sExpr (fCall G_check_rows (gPos []) (fCons (fV 0) fNil) fNil) [.val d, .val (.int (w : Int))] = some (.nx [.val d, .val (.int (w : Int))]) := expr_eq (call1 rfl (p_check h hn hw h0 (by omega)))
  have c1 : sIf (fNot (fB (fCall G_is_width (gPos []) (fCons (fV 1) fNil) fNil))) sNo sNil [.val d, .val (.int (w : Int))] = some (.nx [.val d, .val (.int (w : Int))]) := sIf_f (not_f (fB_eq (call1 rfl (p_is_width h0 (by omega)))))
  have g3 : (gI0 fun i j => D.bl (decide (j < i))) (.int (A.length : Int)) (.int 0) = some (.bl (decide ((0 : Int) < (A.length : Int)))) := rfl
  have b1 : fB (fBin (gI0 fun i j => .bl (decide (j < i))) (fLenN 0) (fC (.int 0))) [.val d, .val (.int (w : Int))] = some (decide ((0 : Int) < (A.length : Int)), [.val d, .val (.int (w : Int))]) := fB_eq (bin_eq (len_rs h rfl) rfl g3)
  have c2 : sIf (fAnd (fB (fBin (gI0 fun i j => .bl (decide (j < i))) (fLenN 0) (fC (.int 0)))) (fB (fBin gNeF (fFun funLen (fCons (fIxN 0 (fC (.int 0))) fNil)) (fV 1)))) sNo sNil [.val d, .val (.int (w : Int))] = some (.nx [.val d, .val (.int (w : Int))]) := by
    refine sIf_f ?_
    by_cases e : A = []
    · rw [decide_eq_false (by rw [e]; simp)] at b1
      exact and_ff b1
    · have : 0 < A.length := List.length_pos_iff.mpr e
      rw [decide_eq_true (by omega)] at b1
      have g4 := neF_int (w : Int) (w : Int)
      rw [decide_eq_true rfl] at g4
      exact (and_tt b1).trans (fB_eq (bin_eq (len0_eq h e hw rfl) rfl g4))
  have c3 : fCall G_kernel_rows (gPos []) (fCons (fCall G_whole_rows (gPos []) (fCons (fV 0) fNil) fNil) (fCons (fV 1) fNil)) fNil [.val d, .val (.int (w : Int))] = some (.lst (N.map (rowR p)), [.val d, .val (.int (w : Int))]) := call2 (call1 rfl wr) rfl e
  show (g_kernel [.val d, .val (.int (w : Int))]).bind endD = _
  rw [gi, seq_nx c0, seq_nx c1, seq_nx c2, ret_eq c3]
  rfl
theorem enc_same {w : Nat} {T T' : List (List Int)} {p p' : Int} {h h' : Nat → Nat} (lw : ∀ r, r ∈ T → r.length = w) (lw' : ∀ r, r ∈ T' → r.length = w) (pz : p ≠ 0) (pz' : p' ≠ 0) (st : St T.length h (vE T p)) (st' : St T'.length h' (vE T' p')) (a : ∀ i, i < T.length → Sp (Ro T'.length (vE T' p')) (vE T p i)) (b : ∀ i, i < T'.length → Sp (Ro T.length (vE T p)) (vE T' p' i)) : T.map (rowR p) = T'.map (rowR p') := by
  have u := st.uniq st' a b
  have pq : (p : Rat) ≠ 0 := by exact_mod_cast pz
  have pq' : (p' : Rat) ≠ 0 := by exact_mod_cast pz'
  refine List.ext_getElem (by rw [List.length_map, List.length_map]; exact u.1) fun i h1 h2 => ?_
  rw [List.length_map] at h1 h2
  rw [List.getElem_map, List.getElem_map]
  have e1 : rw' T i = T[i] := by show (T[i]?).getD [] = _; rw [List.getElem?_eq_getElem h1]; rfl
  have e2 : rw' T' i = T'[i] := by show (T'[i]?).getD [] = _; rw [List.getElem?_eq_getElem h2]; rfl
  have l1 := lw T[i] (List.getElem_mem _)
  have l2 := lw' T'[i] (List.getElem_mem _)
  show D.lst _ = D.lst _
  congr 1
  refine List.ext_getElem ((List.length_map ..).trans ((l1.trans l2.symm).trans (List.length_map ..).symm)) fun j g1 g2 => ?_
  rw [List.length_map] at g1 g2
  rw [List.getElem_map, List.getElem_map]
  refine mk_eq pz pz' ?_
  have v := u.2 i h1 j
  have f1 : cf (rw' T i) j = (T[i])[j] := by rw [e1]; unfold cf; rw [List.getElem?_eq_getElem g1]; rfl
  have f2 : cf (rw' T' i) j = (T'[i])[j] := by rw [e2]; unfold cf; rw [List.getElem?_eq_getElem g2]; rfl
  change ((cf (rw' T i) j : Int) : Rat) / p = ((cf (rw' T' i) j : Int) : Rat) / p' at v
  rw [f1, f2] at v
  have : (((T[i])[j] : Int) : Rat) * (p' : Rat) = (((T'[i])[j] : Int) : Rat) * (p : Rat) := by grind
  exact_mod_cast this
theorem vE_over {w : Nat} {T : List (List Int)} {p : Int} (lw : ∀ r, r ∈ T → r.length = w) {i c : Nat} (hi : i < T.length) (hc : w ≤ c) : vE T p i c = 0 := by
  show ((cf (rw' T i) c : Int) : Rat) / p = 0
  rw [cf_over (by rw [lw _ (rw_mem hi)]; exact hc)]
  grind
theorem vE_sp {T : List (List Int)} {p : Int} {i : Nat} (hi : i < T.length) : Sp (Rq T) (vE T p i) := ((Sp.mem (A := Rq T) ⟨rw' T i, rw_mem hi, rfl⟩).smul (1 / (p : Rat))).of_eq fun j => by
  show 1 / (p : Rat) * ((cf (rw' T i) j : Int) : Rat) = ((cf (rw' T i) j : Int) : Rat) / p
  grind
theorem vq_sp {T : List (List Int)} {p : Int} (hp : p ≠ 0) {r : List Int} (hr : r ∈ T) : Sp (Ro T.length (vE T p)) (vq r) := by
  obtain ⟨i, hi, e⟩ := List.mem_iff_getElem.mp hr
  have pq : (p : Rat) ≠ 0 := by exact_mod_cast hp
  refine ((Sp.mem (A := Ro T.length (vE T p)) ⟨i, hi, rfl⟩).smul (p : Rat)).of_eq fun j => ?_
  show (p : Rat) * (((cf (rw' T i) j : Int) : Rat) / p) = ((cf r j : Int) : Rat)
  have e1 : rw' T i = r := by show (T[i]?).getD [] = _; rw [List.getElem?_eq_getElem hi, e]; rfl
  rw [e1]
  grind
section
variable {w b b1 b2 k k' : Nat} {A T N N' : List (List Int)} {p0 p p' : Int} {h g g' fr fr' : Nat → Nat} {F F' : Nat → Vec}
theorem kn_many (S : Stp w b A T p0 h) (K : Knl w b1 A N p k g F fr) : N.length + T.length = w := by
  have e := K.kr.hd.count S.st.hd (fun i hi => (K.s1 i hi).mono (by rintro v ⟨r, hr, rfl⟩; exact S.s2 r hr)) (fun i hi => (S.s1 i hi).mono (by rintro v ⟨r, hr, rfl⟩; exact K.s2 r hr))
  have := K.kr.many
  omega
theorem kn_orth (K : Knl w b1 A N p k g F fr) {r : List Int} (hr : r ∈ A) {a : Nat} (ha : a < N.length) : dot w (vq r) (vE N p a) = 0 := K.kr.orth (K.s2 r hr) ha
/-- the kernel of the kernel is the steps -/
theorem kn_kn (S : Stp w b A T p0 h) (K : Knl w b1 A N p k g F fr) (K2 : Knl w b2 N N' p' k' g' F' fr') : N'.map (rowR p') = T.map (rowR p0) := by
  refine enc_same K2.lw S.lw K2.pz S.pz K2.kr.st S.st (fun i hi => ?_) (fun i hi => ?_)
  · have o : ∀ r, r ∈ N → dot w (vq r) (vE N' p' i) = 0 := fun r hr => kn_orth K2 hr hi
    have o2 : ∀ a, a < N.length → dot w (vE N' p' i) (vE N p a) = 0 := fun a ha => by
      rw [dot_comm]
      exact dot_lin w _ (vE_sp ha) (by rintro v ⟨r, hr, rfl⟩; exact o r hr)
    refine (K.kr.back (fun c hc => vE_over K2.lw hi hc) o2).mono ?_
    rintro v ⟨j, hj, rfl⟩
    exact (K.s1 j hj).mono (by rintro v ⟨r, hr, rfl⟩; exact S.s2 r hr)
  · refine K2.kr.full (fun a ha c hc => vE_over K2.lw ha hc) (fun c hc => vE_over S.lw hi hc) fun j hj => ?_
    refine dot_lin w _ (K2.s1 j hj) ?_
    rintro v ⟨r, hr, rfl⟩
    refine dot_lin w _ (vq_sp K.pz hr) ?_
    rintro v ⟨a, ha, rfl⟩
    rw [dot_comm]
    exact dot_lin w _ (S.s1 i hi) (by rintro v ⟨r, hr, rfl⟩; exact kn_orth K hr ha)
/-- the steps of the steps are the steps -/
theorem st_st (S : Stp w b A T p0 h) (S2 : Stp w b2 T N' p' g') : N'.map (rowR p') = T.map (rowR p0) := by
  refine enc_same S2.lw S.lw S2.pz S.pz S2.st S.st (fun i hi => ?_) (fun i hi => ?_)
  · exact (S2.s1 i hi).mono (by rintro v ⟨r, hr, rfl⟩; exact vq_sp S.pz hr)
  · exact (vE_sp hi).mono (by rintro v ⟨r, hr, rfl⟩; exact S2.s2 r hr)
end
end My
namespace My
open PySem PySem.Spec PyProof.Rows L2 ClX Dl PyProof
/-! pairs -/
abbrev P2 := Int × Int
abbrev encp (x : P2) : D := .tup [.int x.1, .int x.2]
abbrev encR (r : List P2) : D := .lst (r.map encp)
abbrev encRR (rs : List (List P2)) : D := .lst (rs.map encR)
structure PB (n : Nat) (x : P2) : Prop where
  t : Bd x.1 n
  d : Bd x.2 n
  z : x.2 ≠ 0
theorem PB.mono {n m : Nat} {x : P2} (h : PB n x) (k : n ≤ m) : PB m x := ⟨h.t.mono k, h.d.mono k, h.z⟩
def sumP (x y : P2) : P2 := (x.1 * y.2 + y.1 * x.2, x.2 * y.2)
def proP (x y : P2) : P2 := (x.1 * y.1, x.2 * y.2)
abbrev vp (x : P2) : Rat := (x.1 : Rat) / (x.2 : Rat)
theorem PB.q {n : Nat} {x : P2} (h : PB n x) : (x.2 : Rat) ≠ 0 := by exact_mod_cast h.z
theorem vp_sum {n m : Nat} {x y : P2} (hx : PB n x) (hy : PB m y) : vp (sumP x y) = vp x + vp y := by
  have a := hx.q
  have b := hy.q
  show (((x.1 * y.2 + y.1 * x.2 : Int)) : Rat) / ((x.2 * y.2 : Int) : Rat) = (x.1 : Rat) / x.2 + (y.1 : Rat) / y.2
  rw [Rat.intCast_add, Rat.intCast_mul, Rat.intCast_mul, Rat.intCast_mul]
  grind
theorem vp_pro {n m : Nat} {x y : P2} (hx : PB n x) (hy : PB m y) : vp (proP x y) = vp x * vp y := by
  have a := hx.q
  have b := hy.q
  show ((x.1 * y.1 : Int) : Rat) / ((x.2 * y.2 : Int) : Rat) = (x.1 : Rat) / x.2 * ((y.1 : Rat) / y.2)
  rw [Rat.intCast_mul, Rat.intCast_mul]
  grind
theorem PB.sum {n m : Nat} {x y : P2} (hx : PB n x) (hy : PB m y) : PB (n + m + 1) (sumP x y) := ⟨((hx.t.mul hy.d).add ((hy.t.mul hx.d).mono (by omega))), (hx.d.mul hy.d).mono (by omega), fun z => (Int.mul_eq_zero.mp z).elim hx.z hy.z⟩
theorem PB.pro {n m : Nat} {x y : P2} (hx : PB n x) (hy : PB m y) : PB (n + m) (proP x y) := ⟨hx.t.mul hy.t, hx.d.mul hy.d, fun z => (Int.mul_eq_zero.mp z).elim hx.z hy.z⟩
theorem vp0 {n : Nat} {x : P2} (h : PB n x) : vp x = 0 ↔ x.1 = 0 := by
  have a := h.q
  constructor
  · intro e
    have : (x.1 : Rat) = 0 := by
      have e2 : (x.1 : Rat) / x.2 = 0 := e
      grind
    exact_mod_cast this
  · intro e
    show (x.1 : Rat) / x.2 = 0
    rw [e]
    grind
theorem ix_0 (a b : D) : gIx (.tup [a, b]) (.int 0) = some a := rfl
theorem ix_1 (a b : D) : gIx (.tup [a, b]) (.int 1) = some b := rfl
theorem p_sum {x y : P2} (hx : PB 400000 x) (hy : PB 400000 y) : G_law_sum [encp x, encp y] = some (encp (sumP x y)) := by
  refine out1 (d := some (encp (sumP x y))) (δ := [.val (encp x), .val (encp y)]) ?_
  have i0 : fIxN 0 (fC (.int 0)) [.val (encp x), .val (encp y)] = some (.int x.1, [.val (encp x), .val (encp y)]) := ixN_val rfl rfl (ix_0 _ _)
  have i1 : fIxN 0 (fC (.int 1)) [.val (encp x), .val (encp y)] = some (.int x.2, [.val (encp x), .val (encp y)]) := ixN_val rfl rfl (ix_1 _ _)
  have j0 : fIxN 1 (fC (.int 0)) [.val (encp x), .val (encp y)] = some (.int y.1, [.val (encp x), .val (encp y)]) := ixN_val rfl rfl (ix_0 _ _)
  have j1 : fIxN 1 (fC (.int 1)) [.val (encp x), .val (encp y)] = some (.int y.2, [.val (encp x), .val (encp y)]) := ixN_val rfl rfl (ix_1 _ _)
  exact tup_eq (cons2 (bin_eq (bin_eq i0 j1 (gMB_int hx.t hy.d)) (bin_eq j0 i1 (gMB_int hy.t hx.d)) (add0_int _ _)) (bin_eq i1 j1 (gMB_int hx.d hy.d))) (by show 2 ≤ big; decide)
theorem p_pro {x y : P2} (hx : PB 400000 x) (hy : PB 400000 y) : G_law_product [encp x, encp y] = some (encp (proP x y)) := by
  refine out1 (d := some (encp (proP x y))) (δ := [.val (encp x), .val (encp y)]) ?_
  have i0 : fIxN 0 (fC (.int 0)) [.val (encp x), .val (encp y)] = some (.int x.1, [.val (encp x), .val (encp y)]) := ixN_val rfl rfl (ix_0 _ _)
  have i1 : fIxN 0 (fC (.int 1)) [.val (encp x), .val (encp y)] = some (.int x.2, [.val (encp x), .val (encp y)]) := ixN_val rfl rfl (ix_1 _ _)
  have j0 : fIxN 1 (fC (.int 0)) [.val (encp x), .val (encp y)] = some (.int y.1, [.val (encp x), .val (encp y)]) := ixN_val rfl rfl (ix_0 _ _)
  have j1 : fIxN 1 (fC (.int 1)) [.val (encp x), .val (encp y)] = some (.int y.2, [.val (encp x), .val (encp y)]) := ixN_val rfl rfl (ix_1 _ _)
  exact tup_eq (cons2 (bin_eq i0 j0 (gMB_int hx.t hy.t)) (bin_eq i1 j1 (gMB_int hx.d hy.d))) (by show 2 ≤ big; decide)
/-! heads -/
def hdP : List P2 → Nat
  | [] => 0
  | x :: r => if x.1 ≠ 0 then 0 else hdP r + 1
theorem enP_zip (f : P2 → D) : ∀ (r : List P2) (s : Nat), enP s (r.map f) = (r.zipIdx s).map fun p => .tup [.int (p.2 : Int), f p.1]
  | [], _ => rfl
  | x :: r, s => by
    rw [List.map_cons, enP, List.zipIdx_cons, List.map_cons, enP_zip f r (s + 1)]
theorem head_at : ∀ (r : List P2) (s : Nat), ((((r.zipIdx s).filter fun p => !decide (p.1.1 = 0)).map fun p => D.int (p.2 : Int)) ++ [.int ((s + r.length : Nat) : Int)])[0]? = some (.int ((s + hdP r : Nat) : Int))
  | [], s => by simp [hdP]
  | x :: r, s => by
    rw [List.zipIdx_cons]
    by_cases c : x.1 = 0
    · rw [List.filter_cons_of_neg (by simp [c]), hdP, if_neg (by simp [c])]
      have := head_at r (s + 1)
      rw [show s + 1 + r.length = s + (r.length + 1) by omega, show s + 1 + hdP r = s + (hdP r + 1) by omega] at this
      exact this
    · rw [List.filter_cons_of_pos (by simp [c]), hdP, if_pos c]
      rfl
theorem p_head {r : List P2} (hl : r.length ≤ 1000) : G_law_head [encR r] = some (.int (hdP r : Int)) := by
  refine out1 (d := some (.int (hdP r : Int))) (δ := [.val (encR r), .un, .un]) ?_
  have e0 : fEnum (fCons (fV 0) fNil) [.val (encR r), .un, .un] = some ((r.zipIdx 0).map fun p => .tup [.int (p.2 : Int), encp p.1], [.val (encR r), .un, .un]) := by
    have : fEnum (fCons (fV 0) fNil) [.val (encR r), .un, .un] = some (enumD (r.map encp), [.val (encR r), .un, .un]) := rfl
    rw [this, enumD_enP, enP_zip]
  have m := fr_eq (flc_filt (fI := fEnum (fCons (fV 0) fNil)) (ft := gT 2 (gsCons (gN 1) (gsCons (gN 2) gsNil))) (fc := fB (fBin gNeF (fIxN 2 (fC (.int 0))) (fC (.int 0)))) (fe := fV 1) (vs := [1, 2]) (c := fun p => !decide (p.1.1 = 0)) (g := fun p : P2 × Nat => D.int (p.2 : Int)) e0 rfl (by unfold big; simp; omega) fun p hp => ⟨[.val (encR r), .val (.int (p.2 : Int)), .val (encp p.1)], rfl, fB_eq (bin_eq (ixN_val rfl rfl (ix_0 _ _)) rfl (neF_int _ _)), fun _ => rfl, rfl⟩)
  have n : fFr (fLst (fCons (fLenN 0) fNil)) [.val (encR r), .un, .un] = some (.lst [.int ((0 + r.length : Nat) : Int)], [.val (encR r), .un, .un]) := by
    refine lst1 ?_
    have : fLenN 0 [.val (encR r), .un, .un] = some (.int ((r.map encp).length : Int), [.val (encR r), .un, .un]) := rfl
    rw [this, List.length_map, Nat.zero_add]
  have h := head_at r 0
  generalize hL : ((r.zipIdx 0).filter fun p => !decide (p.1.1 = 0)).map (fun p : P2 × Nat => D.int (p.2 : Int)) = Ls at *
  have lL : Ls.length ≤ 1000 := by
    rw [← hL, List.length_map]
    have := List.length_filter_le (fun p : P2 × Nat => !decide (p.1.1 = 0)) (r.zipIdx 0)
    rw [List.length_zipIdx] at this
    omega
  have g : gAdd0 (.lst Ls) (.lst [.int ((0 + r.length : Nat) : Int)]) = some (.lst (Ls ++ [.int ((0 + r.length : Nat) : Int)])) := by
    show (if Ls.length + 1 ≤ big then some (D.lst _) else none) = _
    rw [if_pos (by unfold big; omega)]
  have i : gIx (.lst (Ls ++ [.int ((0 + r.length : Nat) : Int)])) (.int 0) = some (.int (hdP r : Int)) := by
    rw [Nat.zero_add] at h
    exact (atI_nat _ 0 (by simp)).trans (by rw [Nat.zero_add] at h ⊢; exact h)
  exact bin_eq (bin_eq m n g) rfl i
theorem hdP_le : ∀ (r : List P2), hdP r ≤ r.length
  | [] => Nat.le_refl _
  | x :: r => by
    have := hdP_le r
    rw [hdP, List.length_cons]
    split <;> omega
theorem hdP_lt : ∀ (r : List P2) (c : Nat), c < hdP r → (r[c]?.getD (0, 1)).1 = 0
  | x :: r, 0, h => by
    rw [hdP] at h
    by_cases z : x.1 ≠ 0
    · rw [if_pos z] at h; omega
    · exact Classical.byContradiction z
  | x :: r, c + 1, h => by
    rw [hdP] at h
    by_cases z : x.1 ≠ 0
    · rw [if_pos z] at h; omega
    · rw [if_neg z] at h
      rw [List.getElem?_cons_succ]
      exact hdP_lt r c (by omega)
theorem hdP_at : ∀ (r : List P2), hdP r < r.length → (r[hdP r]?.getD (0, 1)).1 ≠ 0
  | [], h => by cases h
  | x :: r, h => by
    rw [hdP] at h ⊢
    by_cases z : x.1 ≠ 0
    · rw [if_pos z]; exact z
    · rw [if_neg z] at h ⊢
      rw [List.length_cons] at h
      rw [List.getElem?_cons_succ]
      exact hdP_at r (by omega)
def nouP (r : List P2) : Bool := r.all fun x => decide (x.1 = 0)
theorem filt_nil {r : List P2} : ((r.filter fun x => !decide (x.1 = 0)).map fun _ => D.int 1) = [] ↔ nouP r = true := by
  rw [List.map_eq_nil_iff, List.filter_eq_nil_iff, nouP, List.all_eq_true]
  exact ⟨fun h x hx => by have := h x hx; simpa using this, fun h x hx => by have := h x hx; simpa using this⟩
theorem p_nought {r : List P2} (hl : r.length ≤ 1000) : G_law_is_nought [encR r] = some (.bl (nouP r)) := by
  refine out1 (d := some (.bl (nouP r))) (δ := [.val (encR r), .un]) ?_
  have m := fr_eq (flc_filt (δ0 := [.val (encR r), .un]) (fI := fSq (fV 0)) (ft := gN 1) (fc := fB (fBin gN3 (fIxN 1 (fC (.int 0))) (fC (.int 0)))) (fe := fC (.int 1)) (vs := [1]) (f := encp) (c := fun x => !decide (x.1 = 0)) (g := fun _ => D.int 1) (l := r) rfl rfl (by unfold big; omega) fun x hx => ⟨[.val (encR r), .val (encp x)], rfl, fB_eq (bin_eq (ixN_val rfl rfl (ix_0 _ _)) rfl (gN3_int _ _)), fun _ => rfl, rfl⟩)
  have q := gE3_lst (eqLs_nil ((r.filter fun x => !decide (x.1 = 0)).map fun _ => D.int 1))
  have e : (decide (((r.filter fun x => !decide (x.1 = 0)).map fun _ => D.int 1) = [])) = nouP r := by
    rw [Bool.eq_iff_iff, decide_eq_true_eq]
    exact filt_nil
  rw [e] at q
  exact bin_eq m rfl q
end My
namespace My
open PySem PySem.Spec PyProof.Rows L2 ClX Dl PyProof
/-! rows of pairs -/
abbrev atp (r : List P2) (h : Nat) : P2 := r[h]?.getD (0, 1)
abbrev vr (r : List P2) : Vec := fun j => vp (atp r j)
abbrev PBr (n : Nat) (r : List P2) : Prop := ∀ x, x ∈ r → PB n x
theorem atp_mem {r : List P2} {h : Nat} (hh : h < r.length) : atp r h ∈ r := by
  show r[h]?.getD (0, 1) ∈ r
  rw [List.getElem?_eq_getElem hh]
  exact List.getElem_mem hh
theorem atp_get {r : List P2} {h : Nat} (hh : h < r.length) : r[h]? = some (atp r h) := by
  show _ = some (r[h]?.getD (0, 1))
  rw [List.getElem?_eq_getElem hh]
  rfl
def offT (r o : List P2) : P2 := proP (atp r (hdP o)) ((atp o (hdP o)).2, (atp o (hdP o)).1)
def offP (r o : List P2) : List P2 := (r.zip o).map fun p => sumP p.1 (proP (0 - (offT r o).1, (offT r o).2) p.2)
theorem off_len {r o : List P2} {w : Nat} (h : r.length = w) (h' : o.length = w) : (offP r o).length = w := by
  unfold offP
  rw [List.length_map, List.length_zip, h, h', Nat.min_self]
theorem offT_pb {r o : List P2} {w n m : Nat} (lr : r.length = w) (lo : o.length = w) (hh : hdP o < w) (br : PBr n r) (bo : PBr m o) : PB (n + m) (offT r o) := by
  have a := br _ (atp_mem (r := r) (h := hdP o) (by omega))
  have b := bo _ (atp_mem (r := o) (h := hdP o) (by omega))
  have c := hdP_at o (by omega)
  exact a.pro ⟨b.d, b.t, c⟩
theorem PB.neg0 {n : Nat} {x : P2} (h : PB n x) : PB n (0 - x.1, x.2) := ⟨by show Bd (0 - x.1) n; rw [Int.zero_sub]; exact h.t.neg, h.d, h.z⟩
theorem off_pb {r o : List P2} {w n m : Nat} (lr : r.length = w) (lo : o.length = w) (hh : hdP o < w) (br : PBr n r) (bo : PBr m o) : PBr (2 * n + 2 * m + 1) (offP r o) := fun x hx => by
  obtain ⟨p, hp, rfl⟩ := List.mem_map.mp hx
  have t := offT_pb lr lo hh br bo
  exact ((br p.1 (List.of_mem_zip hp).1).sum (t.neg0.pro (bo p.2 (List.of_mem_zip hp).2))).mono (by omega)
theorem ix_encR {r : List P2} {h : Nat} (hh : h < r.length) : gIx (encR r) (.int (h : Int)) = some (encp (atp r h)) := by
  show atI (r.map encp) (h : Int) = _
  rw [atI_nat _ _ (by simpa using hh), List.getElem?_map, atp_get hh]
  rfl
def toB : FS := sSeq (sSet 4 (fCall G_law_head (gPos []) (fCons (fV 3) fNil) fNil)) (sSeq (sSet 5 (fCall G_law_product (gPos []) (fCons (fIxN 2 (fV 4)) (fCons (fTup (fCons (fBin gIx (fIxN 3 (fV 4)) (fC (.int 1))) (fCons (fBin gIx (fIxN 3 (fV 4)) (fC (.int 0))) fNil))) fNil)) fNil)) (sOwn 2 (fLc (fZip (fCons (fV 2) (fCons (fV 3) fNil))) (gT 2 (gsCons (gN 6) (gsCons (gN 7) gsNil))) fYes (fCall G_law_sum (gPos []) (fCons (fV 6) (fCons (fCall G_law_product (gPos []) (fCons (fTup (fCons (fBin (gI0 fun i j => .int (i - j)) (fC (.int 0)) (fIxN 5 (fC (.int 0)))) (fCons (fIxN 5 (fC (.int 1))) fNil))) (fCons (fV 7) fNil)) fNil) fNil)) fNil) [6, 7])))
theorem to_turn {s0 s1 s2 s4 s5 : Sl} {r o : List P2} {w n m : Nat} (hs : s2 = .val (encR r) ∨ s2 = .own .mine (r.map encp)) (lr : r.length = w) (lo : o.length = w) (hw : w ≤ 1000) (hh : hdP o < w) (br : PBr n r) (bo : PBr m o) (hn : n ≤ 100000) (hm : m ≤ 100000) : ∃ s4' s5', toB [s0, s1, s2, .val (encR o), s4, s5, .un, .un] = some (.nx [s0, s1, .own .mine ((offP r o).map encp), .val (encR o), s4', s5', .un, .un]) := by
  have t := offT_pb lr lo hh br bo
  have bA := br _ (atp_mem (r := r) (h := hdP o) (by omega))
  have bB := bo _ (atp_mem (r := o) (h := hdP o) (by omega))
  have bC := hdP_at o (by omega)
  refine ⟨.val (.int (hdP o : Int)), .val (encp (offT r o)), ?_⟩
  have c1 : sSet 4 (fCall G_law_head (gPos []) (fCons (fV 3) fNil) fNil) [s0, s1, s2, .val (encR o), s4, s5, .un, .un] = some (.nx [s0, s1, s2, .val (encR o), .val (.int (hdP o : Int)), s5, .un, .un]) := set_eq (call1 rfl (p_head (by omega)))
  have i2 : fIxN 2 (fV 4) [s0, s1, s2, .val (encR o), .val (.int (hdP o : Int)), s5, .un, .un] = some (encp (atp r (hdP o)), [s0, s1, s2, .val (encR o), .val (.int (hdP o : Int)), s5, .un, .un]) := by
    have g := ix_encR (r := r) (h := hdP o) (by omega)
    rcases hs with rfl | rfl
    · exact ixN_val rfl rfl g
    · exact ixO_val rfl rfl g
  have i3 : fIxN 3 (fV 4) [s0, s1, s2, .val (encR o), .val (.int (hdP o : Int)), s5, .un, .un] = some (encp (atp o (hdP o)), [s0, s1, s2, .val (encR o), .val (.int (hdP o : Int)), s5, .un, .un]) := ixN_val rfl rfl (ix_encR (r := o) (h := hdP o) (by omega))
  have tp : fTup (fCons (fBin gIx (fIxN 3 (fV 4)) (fC (.int 1))) (fCons (fBin gIx (fIxN 3 (fV 4)) (fC (.int 0))) fNil)) [s0, s1, s2, .val (encR o), .val (.int (hdP o : Int)), s5, .un, .un] = some (encp ((atp o (hdP o)).2, (atp o (hdP o)).1), [s0, s1, s2, .val (encR o), .val (.int (hdP o : Int)), s5, .un, .un]) := tup_eq (cons2 (bin_eq i3 rfl (ix_1 _ _)) (bin_eq i3 rfl (ix_0 _ _))) (by show 2 ≤ big; decide)
  have c2 : sSet 5 (fCall G_law_product (gPos []) (fCons (fIxN 2 (fV 4)) (fCons (fTup (fCons (fBin gIx (fIxN 3 (fV 4)) (fC (.int 1))) (fCons (fBin gIx (fIxN 3 (fV 4)) (fC (.int 0))) fNil))) fNil)) fNil) [s0, s1, s2, .val (encR o), .val (.int (hdP o : Int)), s5, .un, .un] = some (.nx [s0, s1, s2, .val (encR o), .val (.int (hdP o : Int)), .val (encp (offT r o)), .un, .un]) := set_eq (call2 i2 tp (p_pro (bA.mono (by omega)) ⟨bB.d.mono (by omega), bB.t.mono (by omega), bC⟩))
  have z : fZip (fCons (fV 2) (fCons (fV 3) fNil)) [s0, s1, s2, .val (encR o), .val (.int (hdP o : Int)), .val (encp (offT r o)), .un, .un] = some ((r.zip o).map fun p => .tup [encp p.1, encp p.2], [s0, s1, .val (encR r), .val (encR o), .val (.int (hdP o : Int)), .val (encp (offT r o)), .un, .un]) := by
    rw [← pairs_zip encp encp r o]
    rcases hs with rfl | rfl <;> rfl
  have lz : (r.zip o).length ≤ big := by rw [List.length_zip]; unfold big; omega
  have m1 := flc_map (ft := gT 2 (gsCons (gN 6) (gsCons (gN 7) gsNil))) (fe := fCall G_law_sum (gPos []) (fCons (fV 6) (fCons (fCall G_law_product (gPos []) (fCons (fTup (fCons (fBin (gI0 fun i j => .int (i - j)) (fC (.int 0)) (fIxN 5 (fC (.int 0)))) (fCons (fIxN 5 (fC (.int 1))) fNil))) (fCons (fV 7) fNil)) fNil) fNil)) fNil) (vs := [6, 7]) (g := fun p => encp (sumP p.1 (proP (0 - (offT r o).1, (offT r o).2) p.2))) z rfl lz fun p hp => ⟨[s0, s1, .val (encR r), .val (encR o), .val (.int (hdP o : Int)), .val (encp (offT r o)), .val (encp p.1), .val (encp p.2)], rfl, by
    have b1 := br p.1 (List.of_mem_zip hp).1
    have b2 := bo p.2 (List.of_mem_zip hp).2
    have tq : fTup (fCons (fBin (gI0 fun i j => .int (i - j)) (fC (.int 0)) (fIxN 5 (fC (.int 0)))) (fCons (fIxN 5 (fC (.int 1))) fNil)) [s0, s1, .val (encR r), .val (encR o), .val (.int (hdP o : Int)), .val (encp (offT r o)), .val (encp p.1), .val (encp p.2)] = some (encp (0 - (offT r o).1, (offT r o).2), [s0, s1, .val (encR r), .val (encR o), .val (.int (hdP o : Int)), .val (encp (offT r o)), .val (encp p.1), .val (encp p.2)]) := tup_eq (cons2 (bin_eq rfl (ixN_val rfl rfl (ix_0 _ _)) rfl) (ixN_val rfl rfl (ix_1 _ _))) (by show 2 ≤ big; decide)
    exact call2 rfl (call2 tq rfl (p_pro (t.neg0.mono (by omega)) (b2.mono (by omega)))) (p_sum (b1.mono (by omega)) ((t.neg0.pro b2).mono (by omega))), rfl⟩
  have c3 := own_eq (i := 2) m1
  simp only [List.set_cons_succ, List.set_cons_zero] at c3
  rw [toB, seq_nx c1, seq_nx c2, c3]
  show some (Fl.nx [s0, s1, .own .mine _, _, _, _, _, _]) = some (Fl.nx [s0, s1, .own .mine ((List.map _ _).map encp), _, _, _, _, _])
  rw [List.map_map]
  rfl
theorem to_loop {s0 s1 : Sl} {w m : Nat} (hw : w ≤ 1000) (hm : m ≤ 100000) : ∀ (os : List (List P2)) (r : List P2) (n : Nat) (s2 s3 s4 s5 : Sl), (s2 = .val (encR r) ∨ s2 = .own .mine (r.map encp)) → r.length = w → PBr n r → (n + 2 * m + 1) * 2 ^ os.length ≤ 100000 → (∀ o, o ∈ os → o.length = w ∧ hdP o < w ∧ PBr m o) → ∃ s2' s3' s4' s5', loopF (gN 3) toB (os.map encR) [s0, s1, s2, s3, s4, s5, .un, .un] = some (.nx [s0, s1, s2', s3', s4', s5', .un, .un]) ∧ (s2' = .val (encR (os.foldl offP r)) ∨ s2' = .own .mine ((os.foldl offP r).map encp))
  | [], r, n, s2, s3, s4, s5, h, _, _, _, _ => ⟨s2, s3, s4, s5, rfl, h⟩
  | o :: os, r, n, s2, s3, s4, s5, h, lr, br, hn, ho => by
    obtain ⟨lo, hh, bo⟩ := ho o (List.mem_cons_self ..)
    have p1 : 0 < 2 ^ os.length := Nat.two_pow_pos _
    have e2 : (2 * n + 2 * m + 1 + 2 * m + 1) * 2 ^ os.length = (n + 2 * m + 1) * 2 ^ (o :: os).length := by
      rw [List.length_cons, Nat.pow_succ]
      have : 2 * n + 2 * m + 1 + 2 * m + 1 = 2 * (n + 2 * m + 1) := by omega
      rw [this, Nat.mul_comm 2, Nat.mul_assoc, Nat.mul_comm 2 (2 ^ os.length)]
    have n1 : n ≤ 100000 := by
      have : (n + 2 * m + 1) * 1 ≤ (n + 2 * m + 1) * 2 ^ (o :: os).length := Nat.mul_le_mul_left _ (Nat.two_pow_pos _)
      omega
    obtain ⟨s4', s5', e⟩ := to_turn (s0 := s0) (s1 := s1) (s4 := s4) (s5 := s5) h lr lo hw hh br bo n1 hm
    obtain ⟨t2, t3, t4, t5, e3, h3⟩ := to_loop hw hm os (offP r o) (2 * n + 2 * m + 1) (.own .mine ((offP r o).map encp)) (.val (encR o)) s4' s5' (.inr rfl) (off_len lr lo) (off_pb lr lo hh br bo) (by rw [e2]; exact hn) (fun x hx => ho x (List.mem_cons_of_mem _ hx)) (s0 := s0) (s1 := s1)
    exact ⟨t2, t3, t4, t5, by rw [List.map_cons, loop_nx (δ1 := [s0, s1, s2, .val (encR o), s4, s5, .un, .un]) rfl e, e3], h3⟩
theorem p_taken {w n m : Nat} {r : List P2} {os : List (List P2)} (hw : w ≤ 1000) (hm : m ≤ 100000) (lr : r.length = w) (br : PBr n r) (hn : (n + 2 * m + 1) * 2 ^ os.length ≤ 100000) (ho : ∀ o, o ∈ os → o.length = w ∧ hdP o < w ∧ PBr m o) : G_law_taken_off [encR r, encRR os] = some (encR (os.foldl offP r)) := by
  have gi : g_law_taken_off = sSeq (sSet 2 (fFun funList (fCons (fV 0) fNil))) (sSeq (sFor (fSq (fV 1)) (gN 3) toB) (sRet (fV 2))) := rfl
  have c1 : sSet 2 (fFun funList (fCons (fV 0) fNil)) [.val (encR r), .val (encRR os), .un, .un, .un, .un, .un, .un] = some (.nx [.val (encR r), .val (encRR os), .val (encR r), .un, .un, .un, .un, .un]) := rfl
  obtain ⟨s2, s3, s4, s5, e, h⟩ := to_loop (s0 := .val (encR r)) (s1 := .val (encRR os)) hw hm os r n (.val (encR r)) .un .un .un (.inl rfl) lr br hn ho
  have c2 := for_eq (fI := fSq (fV 1)) (δ := [.val (encR r), .val (encRR os), .val (encR r), .un, .un, .un, .un, .un]) (δ1 := [.val (encR r), .val (encRR os), .val (encR r), .un, .un, .un, .un, .un]) rfl e
  show (g_law_taken_off [.val (encR r), .val (encRR os), .un, .un, .un, .un, .un, .un]).bind endD = _
  rw [gi, seq_nx c1, seq_nx c2]
  rcases h with rfl | rfl <;> rfl
/-! led, own, bare -/
def ledP (r o : List P2) (f : P2) : P2 := (r.zip o).foldl (fun f p => sumP f (proP p.1 p.2)) f
theorem led_loop {s0 s1 : Sl} {a b : Nat} : ∀ (l : List (P2 × P2)) (f : P2) (n : Nat) (s3 s4 : Sl), PB n f → n + l.length * (a + b + 1) ≤ 400000 → a + b ≤ 400000 → (∀ p, p ∈ l → PB a p.1 ∧ PB b p.2) → ∃ s3' s4', loopF (gT 2 (gsCons (gN 3) (gsCons (gN 4) gsNil))) (sSet 2 (fCall G_law_sum (gPos []) (fCons (fV 2) (fCons (fCall G_law_product (gPos []) (fCons (fV 3) (fCons (fV 4) fNil)) fNil) fNil)) fNil)) (l.map fun p => .tup [encp p.1, encp p.2]) [s0, s1, .val (encp f), s3, s4] = some (.nx [s0, s1, .val (encp (l.foldl (fun f p => sumP f (proP p.1 p.2)) f)), s3', s4'])
  | [], f, n, s3, s4, _, _, _, _ => ⟨s3, s4, rfl⟩
  | p :: l, f, n, s3, s4, bf, hn, hab, hl => by
    obtain ⟨b1, b2⟩ := hl p (List.mem_cons_self ..)
    rw [List.length_cons, Nat.add_mul, Nat.one_mul] at hn
    obtain ⟨t3, t4, e⟩ := led_loop l (sumP f (proP p.1 p.2)) (n + (a + b) + 1) (.val (encp p.1)) (.val (encp p.2)) (bf.sum (b1.pro b2)) (by omega) hab (fun x hx => hl x (List.mem_cons_of_mem _ hx)) (s0 := s0) (s1 := s1)
    refine ⟨t3, t4, ?_⟩
    have c : fCall G_law_sum (gPos []) (fCons (fV 2) (fCons (fCall G_law_product (gPos []) (fCons (fV 3) (fCons (fV 4) fNil)) fNil) fNil)) fNil [s0, s1, .val (encp f), .val (encp p.1), .val (encp p.2)] = some (encp (sumP f (proP p.1 p.2)), [s0, s1, .val (encp f), .val (encp p.1), .val (encp p.2)]) := call2 rfl (call2 rfl rfl (p_pro (b1.mono (by omega)) (b2.mono (by omega)))) (p_sum (bf.mono (by omega)) ((b1.pro b2).mono hab))
    rw [List.map_cons, loop_nx (δ1 := [s0, s1, .val (encp f), .val (encp p.1), .val (encp p.2)]) rfl (set_eq c)]
    exact e
theorem p_led {r o : List P2} {a b : Nat} (br : PBr a r) (bo : PBr b o) (hr : r.length ≤ 5) (hab : a + b ≤ 40000) : G_law_led [encR r, encR o] = some (encp (ledP r o (0, 1))) := by
  have gi : g_law_led = sSeq (sSet 2 (fTup (fCons (fC (.int 0)) (fCons (fC (.int 1)) fNil)))) (sSeq (sFor (fZip (fCons (fV 0) (fCons (fV 1) fNil))) (gT 2 (gsCons (gN 3) (gsCons (gN 4) gsNil))) (sSet 2 (fCall G_law_sum (gPos []) (fCons (fV 2) (fCons (fCall G_law_product (gPos []) (fCons (fV 3) (fCons (fV 4) fNil)) fNil) fNil)) fNil))) (sRet (fV 2))) := rfl
  have c1 : sSet 2 (fTup (fCons (fC (.int 0)) (fCons (fC (.int 1)) fNil))) [.val (encR r), .val (encR o), .un, .un, .un] = some (.nx [.val (encR r), .val (encR o), .val (encp (0, 1)), .un, .un]) := rfl
  have lz : (r.zip o).length ≤ 5 := by rw [List.length_zip]; omega
  have hm : (r.zip o).length * (a + b + 1) ≤ 5 * (a + b + 1) := Nat.mul_le_mul_right _ lz
  obtain ⟨s3, s4, e⟩ := led_loop (a := a) (b := b) (s0 := .val (encR r)) (s1 := .val (encR o)) (r.zip o) (0, 1) 1 .un .un ⟨bd0, bdOne (by decide), by decide⟩ (by omega) (by omega) (fun p hp => ⟨br _ (List.of_mem_zip hp).1, bo _ (List.of_mem_zip hp).2⟩)
  have z : fZip (fCons (fV 0) (fCons (fV 1) fNil)) [.val (encR r), .val (encR o), .val (encp (0, 1)), .un, .un] = some ((r.zip o).map fun p => .tup [encp p.1, encp p.2], [.val (encR r), .val (encR o), .val (encp (0, 1)), .un, .un]) := by
    rw [← pairs_zip encp encp r o]
    rfl
  have c2 := for_eq z e
  show (g_law_led [.val (encR r), .val (encR o), .un, .un, .un]).bind endD = _
  rw [gi, seq_nx c1, seq_nx c2]
  rfl
abbrev bareR (p : Int) (ts : List Int) : List P2 := ts.map fun t => nrm t p
theorem p_own {p : Int} {ts : List Int} (hl : ts.length ≤ 1000) : G_law_own [rowR p ts] = some (encR (bareR p ts)) := by
  refine out1 (d := some (encR (bareR p ts))) (δ := [.val (rowR p ts), .un]) ?_
  have m := fr_eq (flc_map (δ0 := [.val (rowR p ts), .un]) (fI := fSq (fV 0)) (ft := gN 1) (fe := fIf (fB (fIsi (pObj 0) (fV 1))) (fTup (fCons (fProp 0 G_Ratio_top (fV 1)) (fCons (fProp 0 G_Ratio_bottom (fV 1)) fNil))) (fTup (fCons (fV 1) (fCons (fC (.int 1)) fNil)))) (vs := [1]) (f := mk p) (g := fun t => encp (nrm t p)) (l := ts) rfl rfl (by unfold big; omega) fun t ht => ⟨[.val (rowR p ts), .val (mk p t)], rfl, by
    rw [if_eq (b := true) (δ1 := [.val (rowR p ts), .val (mk p t)]) rfl, if_pos rfl]
    exact tup_eq (cons2 (prop_eq rfl (p_top _ _)) (prop_eq rfl (p_bottom _ _))) (by show 2 ≤ big; decide), rfl⟩)
  have e : encR (bareR p ts) = .lst (ts.map fun t => encp (nrm t p)) := by
    show D.lst ((ts.map _).map encp) = _
    rw [List.map_map]; rfl
  rw [e]
  exact m
theorem p_bare {p : Int} {T : List (List Int)} (hn : T.length ≤ 1000) (hl : ∀ r, r ∈ T → r.length ≤ 1000) : G_law_bare [.lst (T.map (rowR p))] = some (encRR (T.map (bareR p))) := by
  refine out1 (d := some (encRR (T.map (bareR p)))) (δ := [.val (.lst (T.map (rowR p))), .un]) ?_
  have m := fr_eq (flc_map (δ0 := [.val (.lst (T.map (rowR p))), .un]) (fI := fSq (fV 0)) (ft := gN 1) (fe := fCall G_law_own (gPos []) (fCons (fV 1) fNil) fNil) (vs := [1]) (f := rowR p) (g := fun r => encR (bareR p r)) (l := T) rfl rfl (by unfold big; omega) fun r hr => ⟨[.val (.lst (T.map (rowR p))), .val (rowR p r)], rfl, call1 rfl (p_own (hl r hr)), rfl⟩)
  have e : encRR (T.map (bareR p)) = .lst (T.map fun r => encR (bareR p r)) := by
    show D.lst ((T.map _).map encR) = _
    rw [List.map_map]; rfl
  rw [e]
  exact m
theorem p_are_ratios {p : Int} {ts : List Int} (hl : ts.length ≤ 1000) : G_law_are_ratios [rowR p ts] = some (.bl true) := by
  refine out1 (d := some (.bl true)) (δ := [.val (rowR p ts), .un]) ?_
  have m := fr_eq (flc_filt (δ0 := [.val (rowR p ts), .un]) (fI := fSq (fV 0)) (ft := gN 1) (fc := fNot (fB (fIsi (pObj 0) (fV 1)))) (fe := fV 1) (vs := [1]) (f := mk p) (c := fun _ => false) (g := fun _ => D.non) (l := ts) rfl rfl (by unfold big; omega) fun t ht => ⟨[.val (rowR p ts), .val (mk p t)], rfl, rfl, fun z => (by cases z), rfl⟩)
  rw [List.filter_eq_nil_iff.mpr (fun _ _ => by simp)] at m
  exact bin_eq m rfl (gE3_lst (eqLs_nil []))
end My
namespace My
open PySem PySem.Spec PyProof.Rows L2 ClX Dl PyProof
theorem nou_lt : ∀ (r : List P2), nouP r = false → hdP r < r.length
  | [], h => by cases h
  | x :: r, h => by
    rw [hdP]
    by_cases z : x.1 ≠ 0
    · rw [if_pos z]; simp
    · rw [if_neg z, List.length_cons]
      have : nouP r = false := by
        have z' : x.1 = 0 := Classical.byContradiction z
        rw [nouP, List.all_cons, decide_eq_true z', Bool.true_and] at h
        exact h
      have := nou_lt r this
      omega
theorem zip_drop {l : List Nat} (h : l.Pairwise (· < ·)) : ∀ p, p ∈ l.zip (l.drop 1) → p.1 < p.2 := fun p hp => by
  obtain ⟨i, hi, e⟩ := List.mem_iff_getElem.mp hp
  rw [List.getElem_zip, List.getElem_drop] at e
  rw [List.length_zip, List.length_drop] at hi
  have := List.pairwise_iff_getElem.mp h i (1 + i) (by omega) (by omega) (by omega)
  rw [← e]
  exact this
def isB : FS := sSeq (sSet 4 (fFun funInt (fCons (fBin gE3 (fV 3) (fCall G_law_head (gPos []) (fCons (fV 2) fNil) fNil)) fNil))) (sIf (fB (fBin gN3 (fBin gIx (fIxN 2 (fV 3)) (fC (.int 0))) (fBin gMB (fV 4) (fBin gIx (fIxN 2 (fV 3)) (fC (.int 1)))))) (sRet (fC (.bl false))) sNil)
theorem is_turn {s0 s1 s4 : Sl} {r : List P2} {h : Nat} {n : Nat} (hl : r.length ≤ 1000) (hh : h < r.length) (br : PBr n r) (hn : n ≤ 400000) (due : (atp r h).1 = (if h = hdP r then 1 else 0) * (atp r h).2) : ∃ s4', isB [s0, s1, .val (encR r), .val (.int (h : Int)), s4, .un, .un] = some (.nx [s0, s1, .val (encR r), .val (.int (h : Int)), s4', .un, .un]) := by
  have q : (decide ((h : Int) = (hdP r : Int))) = decide (h = hdP r) := by
    rw [Bool.eq_iff_iff, decide_eq_true_eq, decide_eq_true_eq]; omega
  have b1 : fBin gE3 (fV 3) (fCall G_law_head (gPos []) (fCons (fV 2) fNil) fNil) [s0, s1, .val (encR r), .val (.int (h : Int)), s4, .un, .un] = some (.bl (decide (h = hdP r)), [s0, s1, .val (encR r), .val (.int (h : Int)), s4, .un, .un]) := by
    rw [← q]
    exact bin_eq rfl (call1 rfl (p_head hl)) (gE3_int _ _)
  have f : fFun funInt (fCons (fBin gE3 (fV 3) (fCall G_law_head (gPos []) (fCons (fV 2) fNil) fNil)) fNil) [s0, s1, .val (encR r), .val (.int (h : Int)), s4, .un, .un] = some (.int (if h = hdP r then 1 else 0), [s0, s1, .val (encR r), .val (.int (h : Int)), s4, .un, .un]) := by
    refine fun_eq b1 ?_
    by_cases e : h = hdP r
    · rw [if_pos e, decide_eq_true e]; rfl
    · rw [if_neg e, decide_eq_false e]; rfl
  refine ⟨.val (.int (if h = hdP r then 1 else 0)), ?_⟩
  have bd : Bd (if h = hdP r then (1 : Int) else 0) 400000 := by
    split
    · exact bdOne (by decide)
    · exact bd0
  have bA := br _ (atp_mem hh)
  generalize (if h = hdP r then (1 : Int) else 0) = due' at *
  have c1 : sSet 4 (fFun funInt (fCons (fBin gE3 (fV 3) (fCall G_law_head (gPos []) (fCons (fV 2) fNil) fNil)) fNil)) [s0, s1, .val (encR r), .val (.int (h : Int)), s4, .un, .un] = some (.nx [s0, s1, .val (encR r), .val (.int (h : Int)), .val (.int due'), .un, .un]) := set_eq f
  have i2 : fIxN 2 (fV 3) [s0, s1, .val (encR r), .val (.int (h : Int)), .val (.int due'), .un, .un] = some (encp (atp r h), [s0, s1, .val (encR r), .val (.int (h : Int)), .val (.int due'), .un, .un]) := ixN_val rfl rfl (ix_encR hh)
  have g := gN3_int (atp r h).1 (due' * (atp r h).2)
  rw [decide_eq_true due] at g
  have t : fB (fBin gN3 (fBin gIx (fIxN 2 (fV 3)) (fC (.int 0))) (fBin gMB (fV 4) (fBin gIx (fIxN 2 (fV 3)) (fC (.int 1))))) [s0, s1, .val (encR r), .val (.int (h : Int)), .val (.int due'), .un, .un] = some (false, [s0, s1, .val (encR r), .val (.int (h : Int)), .val (.int due'), .un, .un]) := fB_eq (bin_eq (bin_eq i2 rfl (ix_0 _ _)) (bin_eq rfl (bin_eq i2 rfl (ix_1 _ _)) (gMB_int bd (bA.d.mono hn))) g)
  rw [isB, seq_nx c1]
  exact sIf_f t
theorem p_in_steps {rs : List (List P2)} {w n : Nat} (hw : w ≤ 1000) (hl : rs.length ≤ 1000) (lr : ∀ r, r ∈ rs → r.length = w) (br : ∀ r, r ∈ rs → PBr n r) (hn : n ≤ 400000) (asc : (rs.map hdP).Pairwise (· < ·)) (nn : ∀ r, r ∈ rs → nouP r = false) (due : ∀ r, r ∈ rs → ∀ q, q ∈ rs → (atp r (hdP q)).1 = (if hdP q = hdP r then 1 else 0) * (atp r (hdP q)).2) : G_law_is_in_steps [encRR rs] = some (.bl true) := by
  have gi : g_law_is_in_steps = sSeq (sOwn 1 (fLc (fSq (fV 0)) (gN 2) fYes (fCall G_law_head (gPos []) (fCons (fV 2) fNil) fNil) [2])) (sSeq (sIf (fOr (fB (fBin gN3 (fFr (fLc (fZip (fCons (fV 1) (fCons (fFr (fSlice (fV 1) (fPart (fC (.int 1))) fNoPart)) fNil))) (gT 2 (gsCons (gN 5) (gsCons (gN 6) gsNil))) (fB (fBin (gI0 fun i j => .bl (decide (j ≤ i))) (fV 5) (fV 6))) (fC (.int 1)) [5, 6])) (fFr (fLst fNil)))) (fB (fBin gN3 (fFr (fLc (fSq (fV 0)) (gN 2) (fB (fCall G_law_is_nought (gPos []) (fCons (fV 2) fNil) fNil)) (fC (.int 1)) [2])) (fFr (fLst fNil))))) (sRet (fC (.bl false))) sNil) (sSeq (sFor (fSq (fV 0)) (gN 2) (sFor (fSq (fV 1)) (gN 3) isB)) (sRet (fC (.bl true))))) := rfl
  have m1 := flc_map (δ0 := [.val (encRR rs), .un, .un, .un, .un, .un, .un]) (fI := fSq (fV 0)) (ft := gN 2) (fe := fCall G_law_head (gPos []) (fCons (fV 2) fNil) fNil) (vs := [2]) (f := encR) (g := fun r => D.int (hdP r : Int)) (l := rs) rfl rfl (by unfold big; omega) fun r hr => ⟨[.val (encRR rs), .un, .val (encR r), .un, .un, .un, .un], rfl, call1 rfl (p_head (by rw [lr r hr]; exact hw)), rfl⟩
  have e1 : (rs.map fun r => D.int (hdP r : Int)) = natD (rs.map hdP) := by
    show _ = (rs.map hdP).map _
    rw [List.map_map]; rfl
  rw [e1] at m1
  have c1 := own_eq (i := 1) m1
  simp only [List.set_cons_succ, List.set_cons_zero] at c1
  have sl : fSlice (fV 1) (fPart (fC (.int 1))) fNoPart [.val (encRR rs), .val (.lst (natD (rs.map hdP))), .un, .un, .un, .un, .un] = some ((natD (rs.map hdP)).drop 1, [.val (encRR rs), .val (.lst (natD (rs.map hdP))), .un, .un, .un, .un, .un]) := by
    show some (Dl.cutD (natD (rs.map hdP)) (some 1) none, _) = _
    rw [cut_drop1]
  have z : fZip (fCons (fV 1) (fCons (fFr (fSlice (fV 1) (fPart (fC (.int 1))) fNoPart)) fNil)) [.val (encRR rs), .own .mine (natD (rs.map hdP)), .un, .un, .un, .un, .un] = some (((rs.map hdP).zip ((rs.map hdP).drop 1)).map fun p => .tup [.int (p.1 : Int), .int (p.2 : Int)], [.val (encRR rs), .val (.lst (natD (rs.map hdP))), .un, .un, .un, .un, .un]) := by
    rw [← pairs_zip (fun h : Nat => D.int (h : Int)) (fun h : Nat => D.int (h : Int))]
    rw [fZip, cons2 (δ1 := [.val (encRR rs), .val (.lst (natD (rs.map hdP))), .un, .un, .un, .un, .un]) rfl (fr_eq sl), Option.bind_some]
    show some (pairsD _ _, _) = some (pairsD _ _, _)
    rw [List.map_drop]
  have lz : ((rs.map hdP).zip ((rs.map hdP).drop 1)).length ≤ big := by
    rw [List.length_zip, List.length_map]; unfold big; omega
  have m2 := fr_eq (flc_filt (ft := gT 2 (gsCons (gN 5) (gsCons (gN 6) gsNil))) (fc := fB (fBin (gI0 fun i j => .bl (decide (j ≤ i))) (fV 5) (fV 6))) (fe := fC (.int 1)) (vs := [5, 6]) (c := fun p : Nat × Nat => decide ((p.2 : Int) ≤ (p.1 : Int))) (g := fun _ => D.int 1) z rfl lz fun p hp => ⟨[.val (encRR rs), .val (.lst (natD (rs.map hdP))), .un, .un, .un, .val (.int (p.1 : Int)), .val (.int (p.2 : Int))], rfl, rfl, fun _ => rfl, rfl⟩)
  rw [List.filter_eq_nil_iff.mpr (fun p hp => by
    have := zip_drop asc p hp
    simp; omega)] at m2
  have a1 : fB (fBin gN3 (fFr (fLc (fZip (fCons (fV 1) (fCons (fFr (fSlice (fV 1) (fPart (fC (.int 1))) fNoPart)) fNil))) (gT 2 (gsCons (gN 5) (gsCons (gN 6) gsNil))) (fB (fBin (gI0 fun i j => .bl (decide (j ≤ i))) (fV 5) (fV 6))) (fC (.int 1)) [5, 6])) (fFr (fLst fNil))) [.val (encRR rs), .own .mine (natD (rs.map hdP)), .un, .un, .un, .un, .un] = some (false, [.val (encRR rs), .val (.lst (natD (rs.map hdP))), .un, .un, .un, .un, .un]) := fB_eq (bin_eq m2 rfl (gN3_lst (eqLs_nil [])))
  have m3 := fr_eq (flc_filt (δ0 := [.val (encRR rs), .val (.lst (natD (rs.map hdP))), .un, .un, .un, .un, .un]) (fI := fSq (fV 0)) (ft := gN 2) (fc := fB (fCall G_law_is_nought (gPos []) (fCons (fV 2) fNil) fNil)) (fe := fC (.int 1)) (vs := [2]) (f := encR) (c := fun r => nouP r) (g := fun _ => D.int 1) (l := rs) rfl rfl (by unfold big; omega) fun r hr => ⟨[.val (encRR rs), .val (.lst (natD (rs.map hdP))), .val (encR r), .un, .un, .un, .un], rfl, fB_eq (call1 rfl (p_nought (by rw [lr r hr]; exact hw))), fun _ => rfl, rfl⟩)
  rw [List.filter_eq_nil_iff.mpr (fun r hr => by rw [nn r hr]; simp)] at m3
  have a2 : fB (fBin gN3 (fFr (fLc (fSq (fV 0)) (gN 2) (fB (fCall G_law_is_nought (gPos []) (fCons (fV 2) fNil) fNil)) (fC (.int 1)) [2])) (fFr (fLst fNil))) [.val (encRR rs), .val (.lst (natD (rs.map hdP))), .un, .un, .un, .un, .un] = some (false, [.val (encRR rs), .val (.lst (natD (rs.map hdP))), .un, .un, .un, .un, .un]) := fB_eq (bin_eq m3 rfl (gN3_lst (eqLs_nil [])))
  have c2 := sIf_f (a := sRet (fC (.bl false))) ((or_f a1).trans a2)
  have inner : ∀ r, r ∈ rs → ∀ s3 s4 : Sl, ∃ s3' s4', sFor (fSq (fV 1)) (gN 3) isB [.val (encRR rs), .val (.lst (natD (rs.map hdP))), .val (encR r), s3, s4, .un, .un] = some (.nx [.val (encRR rs), .val (.lst (natD (rs.map hdP))), .val (encR r), s3', s4', .un, .un]) := fun r hr s3 s4 => by
    obtain ⟨δ', e, hI⟩ := loop_inv (f := fun h : Nat => D.int (h : Int)) (ft := gN 3) (g := isB) (fun l δ => (∀ h, h ∈ l → h ∈ rs.map hdP) ∧ ∃ s3 s4, δ = [.val (encRR rs), .val (.lst (natD (rs.map hdP))), .val (encR r), s3, s4, .un, .un]) (rs.map hdP) [.val (encRR rs), .val (.lst (natD (rs.map hdP))), .val (encR r), s3, s4, .un, .un] (fun h l δ ⟨hm, s3, s4, e⟩ => by
      obtain ⟨q, hq, eq⟩ := List.mem_map.mp (hm h (List.mem_cons_self ..))
      subst e
      have hlt : h < r.length := by
        rw [← eq, lr r hr, ← lr q hq]
        exact nou_lt q (nn q hq)
      obtain ⟨s4', e2⟩ := is_turn (s0 := .val (encRR rs)) (s1 := .val (.lst (natD (rs.map hdP)))) (s4 := s4) (h := h) (by rw [lr r hr]; exact hw) hlt (br r hr) hn (by rw [← eq]; exact due r hr q hq)
      exact ⟨_, _, rfl, e2, fun x hx => hm x (List.mem_cons_of_mem _ hx), _, _, rfl⟩) ⟨fun h hh => hh, s3, s4, rfl⟩
    obtain ⟨_, s3', s4', rfl⟩ := hI
    exact ⟨s3', s4', for_eq rfl e⟩
  obtain ⟨δ', e, hI⟩ := loop_inv (f := encR) (ft := gN 2) (g := sFor (fSq (fV 1)) (gN 3) isB) (fun l δ => (∀ r, r ∈ l → r ∈ rs) ∧ ∃ s2 s3 s4, δ = [.val (encRR rs), .val (.lst (natD (rs.map hdP))), s2, s3, s4, .un, .un]) rs [.val (encRR rs), .val (.lst (natD (rs.map hdP))), .un, .un, .un, .un, .un] (fun r l δ ⟨hm, s2, s3, s4, e⟩ => by
    subst e
    obtain ⟨s3', s4', e2⟩ := inner r (hm r (List.mem_cons_self ..)) s3 s4
    exact ⟨_, _, rfl, e2, fun x hx => hm x (List.mem_cons_of_mem _ hx), _, _, _, rfl⟩) ⟨fun r hr => hr, .un, .un, .un, rfl⟩
  obtain ⟨_, s2', s3', s4', rfl⟩ := hI
  have c3 := for_eq (fI := fSq (fV 0)) (δ := [.val (encRR rs), .val (.lst (natD (rs.map hdP))), .un, .un, .un, .un, .un]) (δ1 := [.val (encRR rs), .val (.lst (natD (rs.map hdP))), .un, .un, .un, .un, .un]) rfl e
  show (g_law_is_in_steps [.val (encRR rs), .un, .un, .un, .un, .un, .un]).bind endD = _
  rw [gi, seq_nx c1, seq_nx c2, seq_nx c3]
  rfl
/-! the rows that are free -/
def byB : Nat → Nat
  | 0 => 80
  | i + 1 => 4 * byB i + 1
def frS (fs : List (List P2)) (r : List P2) : List (List P2) := if nouP (fs.foldl offP r) = true then fs else fs ++ [fs.foldl offP r]
structure FB (w : Nat) (fs : List (List P2)) : Prop where
  ln : ∀ i, i < fs.length → (fs[i]?.getD []).length = w
  hd : ∀ i, i < fs.length → hdP (fs[i]?.getD []) < w
  pb : ∀ i, i < fs.length → PBr (byB i) (fs[i]?.getD [])
theorem byB_le : ∀ i, i ≤ 3 → byB i ≤ 5141
  | 0, _ => by decide
  | 1, _ => by decide
  | 2, _ => by decide
  | 3, _ => by decide
  | i + 4, h => by omega
theorem fold_pb {w : Nat} : ∀ (os : List (List P2)) (k : Nat) (r : List P2), r.length = w → PBr (byB k) r → (∀ i, i < os.length → (os[i]?.getD []).length = w ∧ hdP (os[i]?.getD []) < w ∧ PBr (byB (k + i)) (os[i]?.getD [])) → (os.foldl offP r).length = w ∧ PBr (byB (k + os.length)) (os.foldl offP r)
  | [], k, r, lr, br, _ => ⟨lr, br⟩
  | o :: os, k, r, lr, br, h => by
    obtain ⟨a, b, c⟩ := h 0 (by simp)
    have p := off_pb lr a b br c
    have e : 2 * byB k + 2 * byB (k + 0) + 1 = byB (k + 1) := by show 2 * byB k + 2 * byB k + 1 = 4 * byB k + 1; omega
    rw [e] at p
    have := fold_pb os (k + 1) (offP r o) (off_len lr a) p (fun i hi => by
      have := h (i + 1) (by simp; omega)
      rw [List.getElem?_cons_succ] at this
      rw [show k + 1 + i = k + (i + 1) by omega]
      exact this)
    rw [List.length_cons, show k + (os.length + 1) = k + 1 + os.length by omega]
    exact this
theorem FB.step {w : Nat} {fs : List (List P2)} (F : FB w fs) {r : List P2} (lr : r.length = w) (br : PBr 80 r) : FB w (frS fs r) ∧ (fs.foldl offP r).length = w := by
  have p := fold_pb fs 0 r lr br (fun i hi => ⟨F.ln i hi, F.hd i hi, by rw [Nat.zero_add]; exact F.pb i hi⟩)
  rw [Nat.zero_add] at p
  refine ⟨?_, p.1⟩
  unfold frS
  cases e : nouP (fs.foldl offP r) with
  | true => rw [if_pos rfl]; exact F
  | false =>
    rw [if_neg (by simp)]
    have lt := nou_lt _ e
    have g : ∀ i, i < (fs ++ [fs.foldl offP r]).length → (i < fs.length ∧ (fs ++ [fs.foldl offP r])[i]?.getD [] = fs[i]?.getD []) ∨ (i = fs.length ∧ (fs ++ [fs.foldl offP r])[i]?.getD [] = fs.foldl offP r) := fun i hi => by
      rw [List.length_append, List.length_singleton] at hi
      by_cases c : i < fs.length
      · exact .inl ⟨c, by rw [List.getElem?_append_left c]⟩
      · have : i = fs.length := by omega
        subst this
        exact .inr ⟨rfl, by rw [List.getElem?_append_right (Nat.le_refl _)]; simp⟩
    refine ⟨fun i hi => ?_, fun i hi => ?_, fun i hi => ?_⟩
    · rcases g i hi with ⟨a, b⟩ | ⟨a, b⟩
      · rw [b]; exact F.ln i a
      · rw [b]; exact p.1
    · rcases g i hi with ⟨a, b⟩ | ⟨a, b⟩
      · rw [b]; exact F.hd i a
      · rw [b]; omega
    · rcases g i hi with ⟨a, b⟩ | ⟨a, b⟩
      · rw [b]; exact F.pb i a
      · rw [b, a]; exact p.2
def frT : FS := sSet 3 (fCall G_law_taken_off (gPos []) (fCons (fV 3) (fCons (fFr (fLst (fCons (fV 4) fNil))) fNil)) fNil)
theorem fr_walk {s0 s2 : Sl} {w : Nat} (hw : w ≤ 1000) {fs : List (List P2)} (F : FB w fs) (hf : fs.length ≤ 4) : ∀ (k n : Nat) (l : List P2) (s4 : Sl), n + k = fs.length → l.length = w → PBr (byB n) l → ∃ s4', loopO 1 (gN 4) frT k n [s0, .own .pot (fs.map encR), s2, .val (encR l), s4] = some (.nx [s0, .own .mine (fs.map encR), s2, .val (encR ((fs.drop n).foldl offP l)), s4'])
  | 0, n, l, s4, h, _, _ => by
    refine ⟨s4, ?_⟩
    have e : fs.drop n = [] := List.drop_eq_nil_of_le (by omega)
    rw [e, List.foldl_nil, loopO]
    show (if (fs.map encR).length ≤ n then _ else none) = _
    rw [if_pos (by rw [List.length_map]; omega)]
    rfl
  | k + 1, n, l, s4, h, ll, bl => by
    have hn : n < fs.length := by omega
    have b3 := byB_le n (by omega)
    have e : byB (n + 1) = 4 * byB n + 1 := rfl
    have fn : fs[n]? = some (fs[n]?.getD []) := by rw [List.getElem?_eq_getElem hn]; rfl
    have ed : fs.drop n = fs[n]?.getD [] :: fs.drop (n + 1) := by
      rw [List.drop_eq_getElem_cons hn, List.getElem?_eq_getElem hn]; rfl
    have A := F.ln n hn
    have B := F.hd n hn
    have C := F.pb n hn
    generalize fs[n]?.getD [] = f at *
    obtain ⟨s4', e2⟩ := fr_walk hw F hf k (n + 1) (offP l f) (.val (encR f)) (by omega) (off_len ll A) (fun x hx => (off_pb ll A B bl C x hx).mono (by omega)) (s0 := s0) (s2 := s2)
    refine ⟨s4', ?_⟩
    have t := p_taken (os := [f]) hw (by omega) ll bl (m := byB n) (by show (byB n + 2 * byB n + 1) * 2 ≤ 100000; omega) (fun o ho => by rw [List.mem_singleton.mp ho]; exact ⟨A, B, C⟩)
    have c : frT [s0, .own .pot (fs.map encR), s2, .val (encR l), .val (encR f)] = some (.nx [s0, .own .pot (fs.map encR), s2, .val (encR (offP l f)), .val (encR f)]) := set_eq (call2 rfl (lst1 rfl) t)
    have g : (fs.map encR)[n]? = some (encR f) := by rw [List.getElem?_map, fn]; rfl
    rw [loopO]
    show (if (fs.map encR).length ≤ n then _ else ((fs.map encR)[n]?).bind _) = _
    rw [if_neg (by rw [List.length_map]; omega), g, Option.bind_some]
    show (frT [s0, .own .pot (fs.map encR), s2, .val (encR l), .val (encR f)]).bind _ = _
    rw [c, Option.bind_some, ed, List.foldl_cons]
    exact e2
def frB : FS := sSeq (sSet 3 (fV 2)) (sSeq (sForO 1 (gN 4) frT) (sIf (fNot (fB (fCall G_law_is_nought (gPos []) (fCons (fV 3) fNil) fNil))) (sApp 1 (fV 3)) sNil))
theorem fr_loop {s0 : Sl} {w : Nat} (hw : w ≤ 1000) : ∀ (rs : List (List P2)) (fs : List (List P2)) (s2 s3 s4 : Sl), FB w fs → fs.length + rs.length ≤ 5 → (∀ r, r ∈ rs → r.length = w ∧ PBr 80 r) → ∃ s2' s3' s4', loopF (gN 2) frB (rs.map encR) [s0, .own .mine (fs.map encR), s2, s3, s4] = some (.nx [s0, .own .mine ((rs.foldl frS fs).map encR), s2', s3', s4'])
  | [], fs, s2, s3, s4, _, _, _ => ⟨s2, s3, s4, rfl⟩
  | r :: rs, fs, s2, s3, s4, F, hl, hr => by
    obtain ⟨lr, br⟩ := hr r (List.mem_cons_self ..)
    rw [List.length_cons] at hl
    have St := F.step lr br
    have lf : (frS fs r).length ≤ fs.length + 1 := by unfold frS; split <;> simp
    obtain ⟨w4, e1⟩ := fr_walk (s0 := s0) (s2 := .val (encR r)) hw F (by omega) fs.length 0 r s4 (by omega) lr br
    rw [List.drop_zero] at e1
    have c2 : sForO 1 (gN 4) frT [s0, .own .mine (fs.map encR), .val (encR r), .val (encR r), s4] = some (.nx [s0, .own .mine (fs.map encR), .val (encR r), .val (encR (fs.foldl offP r)), w4]) := by
      show loopO 1 (gN 4) frT (fs.map encR).length 0 [s0, .own .pot (fs.map encR), .val (encR r), .val (encR r), s4] = _
      rw [List.length_map]
      exact e1
    have nq : fNot (fB (fCall G_law_is_nought (gPos []) (fCons (fV 3) fNil) fNil)) [s0, .own .mine (fs.map encR), .val (encR r), .val (encR (fs.foldl offP r)), w4] = some (!nouP (fs.foldl offP r), [s0, .own .mine (fs.map encR), .val (encR r), .val (encR (fs.foldl offP r)), w4]) := not_b (fB_eq (call1 rfl (p_nought (by rw [St.2]; exact hw))))
    have c3 : sIf (fNot (fB (fCall G_law_is_nought (gPos []) (fCons (fV 3) fNil) fNil))) (sApp 1 (fV 3)) sNil [s0, .own .mine (fs.map encR), .val (encR r), .val (encR (fs.foldl offP r)), w4] = some (.nx [s0, .own .mine ((frS fs r).map encR), .val (encR r), .val (encR (fs.foldl offP r)), w4]) := by
      unfold frS
      cases e : nouP (fs.foldl offP r) with
      | true =>
        rw [e] at nq
        rw [if_pos rfl]
        exact sIf_f nq
      | false =>
        rw [e] at nq
        rw [if_neg (by simp), sIf_t nq, List.map_append]
        exact app_eq (i := 1) (fe := fV 3) (δ := [s0, .own .mine (fs.map encR), .val (encR r), .val (encR (fs.foldl offP r)), w4]) (acc0 := fs.map encR) (acc := fs.map encR) (d := encR (fs.foldl offP r)) rfl rfl rfl (by rw [List.length_map]; unfold big; omega)
    obtain ⟨t2, t3, t4, e2⟩ := fr_loop hw rs (frS fs r) (.val (encR r)) (.val (encR (fs.foldl offP r))) w4 St.1 (by omega) (fun x hx => hr x (List.mem_cons_of_mem _ hx)) (s0 := s0)
    refine ⟨t2, t3, t4, ?_⟩
    have c1 : sSet 3 (fV 2) [s0, .own .mine (fs.map encR), .val (encR r), s3, s4] = some (.nx [s0, .own .mine (fs.map encR), .val (encR r), .val (encR r), s4]) := rfl
    have cB : frB [s0, .own .mine (fs.map encR), .val (encR r), s3, s4] = some (.nx [s0, .own .mine ((frS fs r).map encR), .val (encR r), .val (encR (fs.foldl offP r)), w4]) := by
      rw [frB, seq_nx c1, seq_nx c2, c3]
    rw [List.map_cons, loop_nx (δ1 := [s0, .own .mine (fs.map encR), .val (encR r), s3, s4]) rfl cB]
    exact e2
theorem p_free {rs : List (List P2)} {w : Nat} (hw : w ≤ 1000) (hl : rs.length ≤ 5) (hr : ∀ r, r ∈ rs → r.length = w ∧ PBr 80 r) : G_law_free [encRR rs] = some (.int ((rs.foldl frS []).length : Int)) := by
  have gi : g_law_free = sSeq (sOwn 1 (fLst fNil)) (sSeq (sFor (fSq (fV 0)) (gN 2) frB) (sRet (fLenN 1))) := rfl
  have c1 : sOwn 1 (fLst fNil) [.val (encRR rs), .un, .un, .un, .un] = some (.nx [.val (encRR rs), .own .mine (([] : List (List P2)).map encR), .un, .un, .un]) := rfl
  obtain ⟨t2, t3, t4, e⟩ := fr_loop (s0 := .val (encRR rs)) hw rs [] .un .un .un ⟨fun i hi => absurd hi (Nat.not_lt_zero _), fun i hi => absurd hi (Nat.not_lt_zero _), fun i hi => absurd hi (Nat.not_lt_zero _)⟩ (by simpa using hl) hr
  have c2 := for_eq (fI := fSq (fV 0)) (δ := [.val (encRR rs), .own .mine (([] : List (List P2)).map encR), .un, .un, .un]) (δ1 := [.val (encRR rs), .own .mine (([] : List (List P2)).map encR), .un, .un, .un]) rfl e
  show (g_law_free [.val (encRR rs), .un, .un, .un, .un]).bind endD = _
  rw [gi, seq_nx c1, seq_nx c2]
  show some (D.int (((rs.foldl frS []).map encR).length : Int)) = _
  rw [List.length_map]
end My
namespace My
open PySem PySem.Spec PyProof.Rows L2 ClX Dl PyProof
/-! what rows of pairs are worth -/
theorem atp_over {r : List P2} {c : Nat} (h : r.length ≤ c) : atp r c = (0, 1) := by
  show r[c]?.getD (0, 1) = _
  rw [List.getElem?_eq_none h]
  rfl
theorem vr_over {r : List P2} {c : Nat} (h : r.length ≤ c) : vr r c = 0 := by
  show vp (atp r c) = 0
  rw [atp_over h]
  show ((0 : Int) : Rat) / ((1 : Int) : Rat) = 0
  rw [Rat.intCast_zero]
  grind
theorem PBr.at {n : Nat} {r : List P2} (b : PBr n r) {c : Nat} (h : c < r.length) : PB n (atp r c) := b _ (atp_mem h)
theorem vr_off {r o : List P2} {w n m : Nat} (lr : r.length = w) (lo : o.length = w) (hh : hdP o < w) (br : PBr n r) (bo : PBr m o) (c : Nat) : vr (offP r o) c = vr r c - (vr r (hdP o) / vr o (hdP o)) * vr o c := by
  by_cases hc : c < w
  · have e : atp (offP r o) c = sumP (atp r c) (proP (0 - (offT r o).1, (offT r o).2) (atp o c)) := by
      show ((r.zip o).map _)[c]?.getD (0, 1) = _
      rw [List.getElem?_map, List.getElem?_zip_eq_some (z := (atp r c, atp o c)) |>.mpr ⟨atp_get (r := r) (h := c) (by omega), atp_get (r := o) (h := c) (by omega)⟩]
      rfl
    have t := offT_pb lr lo hh br bo
    have bx := br.at (c := c) (by omega)
    have by' := bo.at (c := c) (by omega)
    have bh := br.at (c := hdP o) (by omega)
    have bk := bo.at (c := hdP o) (by omega)
    have nz := hdP_at o (by omega)
    have sw : PB m ((atp o (hdP o)).2, (atp o (hdP o)).1) := ⟨bk.d, bk.t, nz⟩
    have e1 : vp (0 - (offT r o).1, (offT r o).2) = -(vp (offT r o)) := by
      show ((0 - (offT r o).1 : Int) : Rat) / _ = -(((offT r o).1 : Rat) / _)
      rw [Int.zero_sub, Rat.intCast_neg]
      grind
    have e2 : vp (offT r o) = vp (atp r (hdP o)) * vp ((atp o (hdP o)).2, (atp o (hdP o)).1) := vp_pro bh sw
    have e3 : vp ((atp o (hdP o)).2, (atp o (hdP o)).1) = 1 / vp (atp o (hdP o)) := by
      have a := bk.q
      have b := sw.q
      show ((atp o (hdP o)).2 : Rat) / ((atp o (hdP o)).1 : Rat) = 1 / (((atp o (hdP o)).1 : Rat) / ((atp o (hdP o)).2 : Rat))
      change ((atp o (hdP o)).1 : Rat) ≠ 0 at b
      grind
    show vp (atp (offP r o) c) = vp (atp r c) - (vp (atp r (hdP o)) / vp (atp o (hdP o))) * vp (atp o c)
    rw [e, vp_sum bx (t.neg0.pro by'), vp_pro t.neg0 by', e1, e2, e3]
    grind
  · have z1 : vr (offP r o) c = 0 := vr_over (by rw [off_len lr lo]; omega)
    have z2 : vr r c = 0 := vr_over (by omega)
    have z3 : vr o c = 0 := vr_over (by omega)
    rw [z1, z2, z3]
    grind
theorem vr_zero {r : List P2} {n : Nat} (b : PBr n r) : nouP r = true ↔ ∀ c, vr r c = 0 := by
  rw [nouP, List.all_eq_true]
  constructor
  · intro h c
    by_cases hc : c < r.length
    · have := h _ (atp_mem hc)
      exact (vp0 (b.at hc)).mpr (of_decide_eq_true this)
    · exact vr_over (by omega)
  · intro h x hx
    obtain ⟨c, hc, e⟩ := List.mem_iff_getElem.mp hx
    have := h c
    have ea : atp r c = x := by show r[c]?.getD (0, 1) = x; rw [List.getElem?_eq_getElem hc, e]; rfl
    change vp (atp r c) = 0 at this
    rw [ea] at this
    exact decide_eq_true ((vp0 (b x hx)).mp this)
theorem hdP_is {r : List P2} {c : Nat} (hc : c < r.length) (nz : (atp r c).1 ≠ 0) (z : ∀ c', c' < c → (atp r c').1 = 0) : hdP r = c := by
  rcases Nat.lt_trichotomy (hdP r) c with h | h | h
  · exact absurd (z _ h) (hdP_at r (by omega))
  · exact h
  · exact absurd (hdP_lt r c h) nz
theorem bare_at {p : Int} {ts : List Int} {j : Nat} (h : j < ts.length) : atp (bareR p ts) j = nrm (cf ts j) p := by
  show (ts.map _)[j]?.getD (0, 1) = _
  rw [List.getElem?_map]
  unfold cf
  rw [List.getElem?_eq_getElem h]
  rfl
theorem vr_bare {p : Int} (hp : p ≠ 0) (ts : List Int) (j : Nat) : vr (bareR p ts) j = ((cf ts j : Int) : Rat) / (p : Rat) := by
  by_cases h : j < ts.length
  · show vp (atp (bareR p ts) j) = _
    rw [bare_at h]
    have i := nrm_is (t := cf ts j) hp
    have q0 : ((nrm (cf ts j) p).2 : Rat) ≠ 0 := by have := i.pos; exact_mod_cast (show (nrm (cf ts j) p).2 ≠ 0 by omega)
    have p0 : (p : Rat) ≠ 0 := by exact_mod_cast hp
    have e : ((nrm (cf ts j) p).1 : Rat) * (p : Rat) = ((cf ts j : Int) : Rat) * ((nrm (cf ts j) p).2 : Rat) := by exact_mod_cast i.eq
    show ((nrm (cf ts j) p).1 : Rat) / ((nrm (cf ts j) p).2 : Rat) = _
    grind
  · rw [vr_over (by show (ts.map _).length ≤ j; rw [List.length_map]; omega), cf_over (by omega), Rat.intCast_zero]
    grind
theorem bare_pb {p : Int} (hp : p ≠ 0) {ts : List Int} {n : Nat} (bp : Bd p n) (b : BdR ts n) : PBr n (bareR p ts) := fun x hx => by
  obtain ⟨t, ht, rfl⟩ := List.mem_map.mp hx
  have i := nrm_is (t := t) hp
  exact ⟨(b t ht).le (nrm_le t p).1, bp.le (nrm_le t p).2, by have := i.pos; omega⟩
section
variable {w n : Nat} {T : List (List Int)} {p : Int} {h : Nat → Nat}
theorem bare_hd (lw : ∀ r, r ∈ T → r.length = w) (pz : p ≠ 0) (hw : ∀ i, i < T.length → h i < w) (st : St T.length h (vE T p)) (bd : ∀ r, r ∈ T → BdR r n) (bp : Bd p n) {i : Nat} (hi : i < T.length) : hdP (bareR p (rw' T i)) = h i := by
  have m := rw_mem (L := T) hi
  have lr := lw _ m
  have lb : (bareR p (rw' T i)).length = w := by show (List.map _ _).length = w; rw [List.length_map, lr]
  have pb := bare_pb pz bp (bd _ m)
  refine hdP_is (by rw [lb]; exact hw i hi) (fun z => ?_) fun c' hc => ?_
  · have := (vp0 (pb.at (c := h i) (by rw [lb]; exact hw i hi))).mpr z
    have e := vr_bare pz (rw' T i) (h i)
    have o := st.hd.one i hi
    change vp _ = _ at e
    rw [this] at e
    exact one_ne (o.symm.trans e.symm)
  · refine (vp0 (pb.at (c := c') (by rw [lb]; have := hw i hi; omega))).mp ?_
    exact (vr_bare pz (rw' T i) c').trans (st.lo i hi c' hc)
theorem p_steps_in (lw : ∀ r, r ∈ T → r.length = w) (hw5 : w ≤ 1000) (hk : T.length ≤ 1000) (pz : p ≠ 0) (hw : ∀ i, i < T.length → h i < w) (st : St T.length h (vE T p)) (bd : ∀ r, r ∈ T → BdR r n) (bp : Bd p n) (hn : n ≤ 400000) : G_law_is_in_steps [encRR (T.map (bareR p))] = some (.bl true) := by
  have mem : ∀ r, r ∈ T.map (bareR p) → ∃ i, i < T.length ∧ r = bareR p (rw' T i) := fun r hr => by
    obtain ⟨x, hx, rfl⟩ := List.mem_map.mp hr
    obtain ⟨i, hi, e⟩ := List.mem_iff_getElem.mp hx
    refine ⟨i, hi, ?_⟩
    show _ = bareR p (T[i]?.getD [])
    rw [List.getElem?_eq_getElem hi, e]; rfl
  have lb : ∀ i, i < T.length → (bareR p (rw' T i)).length = w := fun i hi => by show (List.map _ _).length = w; rw [List.length_map]; exact lw _ (rw_mem hi)
  have pb : ∀ i, i < T.length → PBr n (bareR p (rw' T i)) := fun i hi => bare_pb pz bp (bd _ (rw_mem hi))
  have hdi := fun i (hi : i < T.length) => bare_hd lw pz hw st bd bp hi
  refine p_in_steps hw5 (by rw [List.length_map]; exact hk) (fun r hr => ?_) (fun r hr => ?_) hn ?_ (fun r hr => ?_) (fun r hr q hq => ?_)
  · obtain ⟨i, hi, rfl⟩ := mem r hr
    exact lb i hi
  · obtain ⟨i, hi, rfl⟩ := mem r hr
    exact pb i hi
  · rw [List.pairwise_iff_getElem]
    intro i j hi hj hij
    rw [List.length_map, List.length_map] at hi hj
    have e : ∀ k (hk : k < T.length), ((T.map (bareR p)).map hdP)[k]'(by rw [List.length_map, List.length_map]; exact hk) = h k := fun k hk => by
      rw [List.getElem_map, List.getElem_map, ← hdi k hk]
      show _ = hdP (bareR p (T[k]?.getD []))
      rw [List.getElem?_eq_getElem hk]; rfl
    rw [e i hi, e j hj]
    exact st.asc i j hij hj
  · obtain ⟨i, hi, rfl⟩ := mem r hr
    cases e : nouP (bareR p (rw' T i)) with
    | false => rfl
    | true =>
      have z := (vr_zero (pb i hi)).mp e (h i)
      rw [vr_bare pz] at z
      exact absurd ((st.hd.one i hi).symm.trans z) one_ne
  · obtain ⟨i, hi, rfl⟩ := mem r hr
    obtain ⟨j, hj, rfl⟩ := mem q hq
    rw [hdi i hi, hdi j hj]
    have bx := (pb i hi).at (c := h j) (by rw [lb i hi]; exact hw j hj)
    have ev := vr_bare pz (rw' T i) (h j)
    change vp (atp (bareR p (rw' T i)) (h j)) = vE T p i (h j) at ev
    have q0 := bx.q
    by_cases e : h j = h i
    · rw [if_pos e, Int.one_mul]
      rw [e, st.hd.one i hi] at ev
      rw [e] at q0 ⊢
      have : ((atp (bareR p (rw' T i)) (h i)).1 : Rat) = ((atp (bareR p (rw' T i)) (h i)).2 : Rat) := by
        change ((atp (bareR p (rw' T i)) (h i)).1 : Rat) / ((atp (bareR p (rw' T i)) (h i)).2 : Rat) = 1 at ev
        grind
      exact_mod_cast this
    · rw [if_neg e, Int.zero_mul]
      rw [st.hd.zer i j hi hj (fun z => e (by rw [z]))] at ev
      exact (vp0 bx).mp ev
/-- rows that steps make come to nought -/
theorem taken_zero (lw : ∀ r, r ∈ T → r.length = w) (pz : p ≠ 0) (hw : ∀ i, i < T.length → h i < w) (st : St T.length h (vE T p)) (bd : ∀ r, r ∈ T → BdR r n) (bp : Bd p n) : ∀ (k i : Nat) (l : List P2) (m : Nat), i + k = T.length → l.length = w → PBr m l → Sp (Ro T.length (vE T p)) (vr l) → (∀ j, j < i → vr l (h j) = 0) → nouP (((T.map (bareR p)).drop i).foldl offP l) = true
  | 0, i, l, m, hk, ll, bl, sp, z => by
    rw [List.drop_eq_nil_of_le (by rw [List.length_map]; omega), List.foldl_nil, vr_zero bl]
    intro c
    rw [st.hd.exp sp c]
    exact sm_zero fun j hj => by rw [z j (by omega)]; grind
  | k + 1, i, l, m, hk, ll, bl, sp, z => by
    have hi : i < T.length := by omega
    have ed : (T.map (bareR p)).drop i = bareR p (rw' T i) :: (T.map (bareR p)).drop (i + 1) := by
      rw [List.drop_eq_getElem_cons (by rw [List.length_map]; exact hi), List.getElem_map]
      congr 2
      show _ = T[i]?.getD []
      rw [List.getElem?_eq_getElem hi]; rfl
    have hd := bare_hd lw pz hw st bd bp hi
    have lb : (bareR p (rw' T i)).length = w := by show (List.map _ _).length = w; rw [List.length_map]; exact lw _ (rw_mem hi)
    have pb := bare_pb pz bp (bd _ (rw_mem hi))
    have hh : hdP (bareR p (rw' T i)) < w := by rw [hd]; exact hw i hi
    have v : ∀ c, vr (offP l (bareR p (rw' T i))) c = vr l c - vr l (h i) * vE T p i c := fun c => by
      rw [vr_off ll lb hh bl pb c, hd, vr_bare pz, vr_bare pz]
      have o : ((cf (rw' T i) (h i) : Int) : Rat) / (p : Rat) = 1 := st.hd.one i hi
      rw [o]
      show _ = vr l c - vr l (h i) * (((cf (rw' T i) c : Int) : Rat) / (p : Rat))
      grind
    rw [ed, List.foldl_cons]
    refine taken_zero lw pz hw st bd bp k (i + 1) _ _ (by omega) (off_len ll lb) (off_pb ll lb hh bl pb) ?_ fun j hj => ?_
    · exact (sp.sub ((Sp.mem (A := Ro T.length (vE T p)) ⟨i, hi, rfl⟩).smul (vr l (h i)))).of_eq fun c => (v c).symm
    · rw [v]
      by_cases e : j = i
      · subst e
        rw [st.hd.one j hi]
        grind
      · rw [z j (by omega), st.hd.zer i j hi (by omega) (fun q => e q.symm)]
        grind
end
end My
namespace My
open PySem PySem.Spec PyProof.Rows L2 ClX Dl PyProof
/-! the greedy rank -/
abbrev Rv (rs : List (List P2)) : Vec → Prop := fun v => ∃ r, r ∈ rs ∧ v = vr r
abbrev fa' (fs : List (List P2)) (i : Nat) : List P2 := fs[i]?.getD []
structure FM (w : Nat) (dn fs : List (List P2)) : Prop where
  fb : FB w fs
  z : ∀ i j, j < i → i < fs.length → vr (fa' fs i) (hdP (fa' fs j)) = 0
  f1 : ∀ i, i < fs.length → Sp (Rv dn) (vr (fa' fs i))
  g : ∃ G, Hd fs.length (fun i => hdP (fa' fs i)) G ∧ (∀ i, i < fs.length → Sp (Rv dn) (G i)) ∧ ∀ r, r ∈ dn → Sp (Ro fs.length G) (vr r)
theorem fold_math {w : Nat} {dn fs : List (List P2)} (M : FM w dn fs) (r : List P2) : ∀ (k n : Nat) (l : List P2) (m : Nat), n + k = fs.length → l.length = w → PBr m l → (∀ j, j < n → vr l (hdP (fa' fs j)) = 0) → (∃ s, Sp (Rv dn) s ∧ ∀ c, vr l c + s c = vr r c) → ∃ m', PBr m' ((fs.drop n).foldl offP l) ∧ (∀ j, j < fs.length → vr ((fs.drop n).foldl offP l) (hdP (fa' fs j)) = 0) ∧ ∃ s, Sp (Rv dn) s ∧ ∀ c, vr ((fs.drop n).foldl offP l) c + s c = vr r c
  | 0, n, l, m, h, ll, bl, z, s => by
    rw [List.drop_eq_nil_of_le (by omega), List.foldl_nil]
    exact ⟨m, bl, fun j hj => z j (by omega), s⟩
  | k + 1, n, l, m, h, ll, bl, z, ⟨s, hs, es⟩ => by
    have hn : n < fs.length := by omega
    have ed : fs.drop n = fa' fs n :: fs.drop (n + 1) := by
      rw [List.drop_eq_getElem_cons hn]
      show _ = fs[n]?.getD [] :: _
      rw [List.getElem?_eq_getElem hn]; rfl
    have A := M.fb.ln n hn
    have B := M.fb.hd n hn
    have C := M.fb.pb n hn
    have nz : vr (fa' fs n) (hdP (fa' fs n)) ≠ 0 := fun e => hdP_at (fa' fs n) (by show hdP (fs[n]?.getD []) < (fs[n]?.getD []).length; omega) ((vp0 (PBr.at C (c := hdP (fa' fs n)) (show hdP (fs[n]?.getD []) < (fs[n]?.getD []).length by omega))).mp e)
    have v := fun c => vr_off ll A B bl C c
    rw [ed, List.foldl_cons]
    refine fold_math M r k (n + 1) _ _ (by omega) (off_len ll A) (off_pb ll A B bl C) (fun j hj => ?_) ⟨fun c => s c + (vr l (hdP (fa' fs n)) / vr (fa' fs n) (hdP (fa' fs n))) * vr (fa' fs n) c, hs.add ((M.f1 n hn).smul _), fun c => ?_⟩
    · have := v (hdP (fa' fs j))
      by_cases e : j = n
      · subst e
        have : vr (offP l (fa' fs j)) (hdP (fa' fs j)) = vr l (hdP (fa' fs j)) - vr l (hdP (fa' fs j)) / vr (fa' fs j) (hdP (fa' fs j)) * vr (fa' fs j) (hdP (fa' fs j)) := this
        rw [this]
        generalize vr (fa' fs j) (hdP (fa' fs j)) = y at *
        generalize vr l (hdP (fa' fs j)) = x at *
        grind
      · have this : vr (offP l (fa' fs n)) (hdP (fa' fs j)) = vr l (hdP (fa' fs j)) - vr l (hdP (fa' fs n)) / vr (fa' fs n) (hdP (fa' fs n)) * vr (fa' fs n) (hdP (fa' fs j)) := this
        rw [this, z j (by omega), M.z n j (by omega) hn]
        grind
    · have a := v c
      have b := es c
      have a : vr (offP l (fa' fs n)) c = vr l c - vr l (hdP (fa' fs n)) / vr (fa' fs n) (hdP (fa' fs n)) * vr (fa' fs n) c := a
      rw [a]
      grind
theorem Sp.two {A B : Vec → Prop} {v : Vec} (h : Sp A v) (k : ∀ a, A a → B a) : Sp B v := h.mono fun a ha => Sp.mem (k a ha)
theorem FM.step {w : Nat} {dn fs : List (List P2)} (M : FM w dn fs) {r : List P2} (lr : r.length = w) (br : PBr 80 r) : FM w (dn ++ [r]) (frS fs r) := by
  obtain ⟨m, bl, z, s, hs, es⟩ := fold_math M r fs.length 0 r 80 (by omega) lr br (fun j hj => absurd hj (Nat.not_lt_zero _)) ⟨fun _ => 0, .zero, fun c => by grind⟩
  rw [List.drop_zero] at bl z es
  have st := M.fb.step lr br
  obtain ⟨G, hG, g1, g2⟩ := M.g
  have up : ∀ {v}, Sp (Rv dn) v → Sp (Rv (dn ++ [r])) v := fun h => h.two (by rintro v ⟨x, hx, rfl⟩; exact ⟨x, List.mem_append_left _ hx, rfl⟩)
  have rm : Sp (Rv (dn ++ [r])) (vr r) := Sp.mem ⟨r, by simp, rfl⟩
  have fb := st.1
  unfold frS at fb ⊢
  cases e : nouP (fs.foldl offP r) with
  | true =>
    rw [e, if_pos rfl] at fb
    rw [if_pos rfl]
    have zz := (vr_zero bl).mp e
    refine ⟨fb, M.z, fun i hi => up (M.f1 i hi), G, hG, fun i hi => up (g1 i hi), fun x hx => ?_⟩
    rcases List.mem_append.mp hx with hx | hx
    · exact g2 x hx
    · rw [List.mem_singleton.mp hx]
      refine (hs.mono (B := Ro fs.length G) (by rintro v ⟨y, hy, rfl⟩; exact g2 y hy)).of_eq fun c => ?_
      rw [← es c, zz c]
      grind
  | false =>
    rw [e, if_neg (by simp)] at fb
    rw [if_neg (by simp)]
    generalize hl : fs.foldl offP r = l at *
    have lt := nou_lt l e
    have nz : vr l (hdP l) ≠ 0 := fun q => hdP_at l lt ((vp0 (bl.at lt)).mp q)
    obtain ⟨G', hG', m1, m2⟩ := hG.more nz z
    have len : (fs ++ [l]).length = fs.length + 1 := by simp
    have old : ∀ i, i < fs.length → fa' (fs ++ [l]) i = fa' fs i := fun i hi => by
      show (fs ++ [l])[i]?.getD [] = _
      rw [List.getElem?_append_left hi]
    have new : fa' (fs ++ [l]) fs.length = l := by
      show (fs ++ [l])[fs.length]?.getD [] = _
      rw [List.getElem?_append_right (Nat.le_refl _)]; simp
    have hh : ∀ i, i < fs.length + 1 → hdP (fa' (fs ++ [l]) i) = if i < fs.length then hdP (fa' fs i) else hdP l := fun i hi => by
      by_cases c : i < fs.length
      · rw [if_pos c, old i c]
      · have : i = fs.length := by omega
        subst this
        rw [if_neg c, new]
    have sl : Sp (Rv (dn ++ [r])) (vr l) := (rm.sub (up hs)).of_eq fun c => by have := es c; grind
    refine ⟨fb, fun i j hj hi => ?_, fun i hi => ?_, G', ⟨fun i hi => ?_, fun i j hi hj ne => ?_⟩, fun i hi => ?_, fun x hx => ?_⟩
    · rw [len] at hi
      rw [old j (by omega)]
      by_cases c : i < fs.length
      · rw [old i c]; exact M.z i j hj c
      · have : i = fs.length := by omega
        subst this
        rw [new]; exact z j hj
    · rw [len] at hi
      by_cases c : i < fs.length
      · rw [old i c]; exact up (M.f1 i c)
      · have : i = fs.length := by omega
        subst this
        rw [new]; exact sl
    · rw [len] at hi
      show G' i (hdP (fa' (fs ++ [l]) i)) = 1
      rw [hh i hi]
      exact hG'.one i hi
    · rw [len] at hi hj
      show G' i (hdP (fa' (fs ++ [l]) j)) = 0
      rw [hh j hj]
      exact hG'.zer i j hi hj ne
    · rw [len] at hi
      refine (m1 i hi).mono ?_
      rintro v (⟨j, hj, rfl⟩ | rfl)
      · exact up (g1 j hj)
      · exact sl
    · rw [len]
      have lg : Sp (Ro (fs.length + 1) G') (vr l) := m2 _ (.inr rfl)
      have sg : ∀ {v}, Sp (Rv dn) v → Sp (Ro (fs.length + 1) G') v := fun h => h.mono (by
        rintro v ⟨y, hy, rfl⟩
        exact (g2 y hy).mono fun a ha => m2 a (.inl ha))
      rcases List.mem_append.mp hx with hx | hx
      · exact sg (Sp.mem ⟨x, hx, rfl⟩)
      · rw [List.mem_singleton.mp hx]
        exact (lg.add (sg hs)).of_eq fun c => es c
theorem fm_all {w : Nat} : ∀ (rs dn fs : List (List P2)), FM w dn fs → (∀ r, r ∈ rs → r.length = w ∧ PBr 80 r) → FM w (dn ++ rs) (rs.foldl frS fs)
  | [], dn, fs, M, _ => by rw [List.append_nil]; exact M
  | r :: rs, dn, fs, M, h => by
    obtain ⟨lr, br⟩ := h r (List.mem_cons_self ..)
    have := fm_all rs (dn ++ [r]) (frS fs r) (M.step lr br) (fun x hx => h x (List.mem_cons_of_mem _ hx))
    rw [List.append_assoc] at this
    exact this
theorem free_count {w b : Nat} {rs : List (List P2)} {A T : List (List Int)} {p : Int} {h : Nat → Nat} (S : Stp w b A T p h) (hr : ∀ r, r ∈ rs → r.length = w ∧ PBr 80 r) (a1 : ∀ r, r ∈ rs → Sp (Rq A) (vr r)) (a2 : ∀ r, r ∈ A → Sp (Rv rs) (vq r)) : (rs.foldl frS []).length = T.length := by
  have M := fm_all rs [] [] ⟨⟨fun i hi => absurd hi (Nat.not_lt_zero _), fun i hi => absurd hi (Nat.not_lt_zero _), fun i hi => absurd hi (Nat.not_lt_zero _)⟩, fun i j _ hi => absurd hi (Nat.not_lt_zero _), fun i hi => absurd hi (Nat.not_lt_zero _), fun _ _ => 0, ⟨fun i hi => absurd hi (Nat.not_lt_zero _), fun i j hi => absurd hi (Nat.not_lt_zero _)⟩, fun i hi => absurd hi (Nat.not_lt_zero _), fun r hr => by cases hr⟩ hr
  rw [List.nil_append] at M
  obtain ⟨G, hG, g1, g2⟩ := M.g
  refine hG.count S.st.hd (fun i hi => ?_) (fun i hi => ?_)
  · refine (g1 i hi).mono ?_
    rintro v ⟨r, hr, rfl⟩
    exact (a1 r hr).mono (by rintro v ⟨x, hx, rfl⟩; exact S.s2 x hx)
  · refine (S.s1 i hi).mono ?_
    rintro v ⟨r, hr, rfl⟩
    exact (a2 r hr).mono (by rintro v ⟨x, hx, rfl⟩; exact g2 x hx)
end My
namespace My
open PySem PySem.Spec PyProof.Rows L2 ClX Dl PyProof
/-! the draws -/
theorem p_draw {l : List D} {n : Int} (P : Pot l) (h : 0 < n) (bn : Bd n 64) : ∃ (d : Int) (l' : List D), G_law_draw l [.int n] = some (.int d, l') ∧ 0 ≤ d ∧ d < n ∧ Pot l' := by
  obtain ⟨x, y, rfl, hy, by'⟩ := P
  have k0 : okPos x n = true := okPos_of h
  by_cases z : 0 < x
  · have dm : okDiv x n = true := by
      unfold okDiv
      simp only [Bool.and_eq_true, decide_eq_true_eq]
      exact ⟨h, Bd.mono bn (by decide)⟩
    refine ⟨x % n, [.int (x / n), .int y], ?_, Int.emod_nonneg x (by omega), Int.emod_lt_of_pos x h, ⟨_, _, rfl, hy, by'⟩⟩
    simp [G_law_draw, outP, g_law_draw, sSeq, sIf, fNot, fAnd, fOr, fB, fCall, fCons, fNil, fV, ini, gPos, sNo, sNil, fBin, Dl.gOr, gEqF, gNeF, litV, scal, sSet, fFun, gI0, gI, gRep, fC, endD, endP, fFld, fProp, sRet, fIf, fUn, gNeg, uOr, fAndV, fOrV, fNotV, fIsi, isC, pObj, gAdd0, gCatS, gCatL, fTup, fLst, fFr, Option.bind_some, Option.map_some, Option.bind_none, fIxN, fIxO, isOwn, isL, isOwnL, atI, ixN, sAsg, gT, gsCons, gsNil, gN, gI1, funDivmod, fLenN, fLenO, fCallP, gIx, z, dm]
  · have m1 := mul_okB (by'.mono (by decide)) ((bd_of (x := 48271) 65536 (by decide) (by decide) (by decide : 65536 ≤ 2 ^ 16)).mono (by decide))
    have y0 : 0 ≤ (y * 48271 + 18523) % 2147483587 := Int.emod_nonneg _ (by decide)
    have y1 : (y * 48271 + 18523) % 2147483587 < 2147483587 := Int.emod_lt_of_pos _ (by decide)
    generalize hY : (y * 48271 + 18523) % 2147483587 = Y at *
    have bY : Bd Y 40 := bd_of 2147483587 y0 y1 (by decide)
    have m2 := mul_okB (bY.mono (by decide)) (bY.mono (by decide : 40 ≤ 400000))
    have k1 : okPos (y * 48271 + 18523) 2147483587 = true := okPos_of (by decide)
    have k2 : okPos (Y * Y) 2147483549 = true := okPos_of (by decide)
    have k3 : okDivB (Y * Y % 2147483549) 13 = true := div_okB _ (by decide) ((bd_of (x := 13) (n := 10) 1024 (by decide) (by decide) (by decide)).mono (by decide))
    have k4 : okPos ((Y * Y % 2147483549).fdiv 13) n = true := okPos_of h
    refine ⟨(Y * Y % 2147483549).fdiv 13 % n, [.int x, .int Y], ?_, Int.emod_nonneg _ (by omega), Int.emod_lt_of_pos _ h, ⟨_, _, rfl, y0, bY⟩⟩
    simp [G_law_draw, outP, g_law_draw, sSeq, sIf, fNot, fAnd, fOr, fB, fCall, fCons, fNil, fV, ini, gPos, sNo, sNil, fBin, Dl.gOr, gEqF, gNeF, litV, scal, sSet, fFun, gI0, gI, gRep, fC, endD, endP, fFld, fProp, sRet, fIf, fUn, gNeg, uOr, fAndV, fOrV, fNotV, fIsi, isC, pObj, gAdd0, gCatS, gCatL, fTup, fLst, fFr, Option.bind_some, Option.map_some, Option.bind_none, fIxN, fIxO, isOwn, isL, isOwnL, atI, ixN, sAsg, gT, gsCons, gsNil, gN, gI1, funDivmod, fLenN, fLenO, fCallP, gIx, z, m1, m2, k1, k2, k3, k4, funInt, hY]
theorem pow18 : okPow 10 18 = true := by decide +kernel
theorem pot_tail (cell : Int) : ∃ y : Int, okMulB (cell % 2147483549) 499 = true ∧ y = (cell % 2147483549 * 499 + 1279) % 2147483543 + 1 ∧ 0 ≤ y ∧ Bd y 40 := by
  have c0 : 0 ≤ cell % 2147483549 := Int.emod_nonneg _ (by decide)
  have c1 : cell % 2147483549 < 2147483549 := Int.emod_lt_of_pos _ (by decide)
  have y0 : 0 ≤ (cell % 2147483549 * 499 + 1279) % 2147483543 := Int.emod_nonneg _ (by decide)
  have y1 : (cell % 2147483549 * 499 + 1279) % 2147483543 < 2147483543 := Int.emod_lt_of_pos _ (by decide)
  exact ⟨_, mul_okB ((bd_of (n := 40) 2147484000 (by omega) (by omega) (by decide)).mono (by decide)) ((bd_of (x := 499) (n := 20) 500 (by decide) (by decide) (by decide)).mono (by decide)), rfl, by omega, bd_of 2147483644 (by omega) (by omega) (by decide)⟩
theorem gix0 (x : Int) (r : List Int) : atI (x :: r) 0 = some x := by simp [atI, ixN]
theorem p_pot (ns : List Int) : ∃ l, G_law_pot [.scr ns, .int 0] = some l ∧ Pot l := by
  have z1 : okMulB 853 0 = true := mul_okB ((bd_of (x := 853) (n := 20) 1000 (by decide) (by decide) (by decide)).mono (by decide)) bd0
  have z2 : okMulB 2 0 = true := mul_okB ((bd_of (x := 2) (n := 20) 1000 (by decide) (by decide) (by decide)).mono (by decide)) bd0
  have k1 : ∀ i : Int, okPos i 2147483549 = true := fun i => okPos_of (by decide)
  have k2 : ∀ i : Int, okPos i 2147483543 = true := fun i => okPos_of (by decide)
  have g2 : 2 ≤ big := by decide
  cases ns with
  | nil =>
    obtain ⟨y, m, e, y0, yb⟩ := pot_tail 571
    refine ⟨[.int (if 571 - 10 ^ 18 > (0 : Int) then 571 - 10 ^ 18 else 0), .int y], ?_, ⟨_, _, rfl, y0, yb⟩⟩
    simp [G_law_pot, outF, g_law_pot, sSeqF, sSeq, sIf, fNot, fAnd, fOr, fB, fCall, fCons, fNil, fV, ini, gPos, sNo, sNil, fBin, Dl.gOr, gEqF, gNeF, litV, scal, sSet, fFun, gI0, gI, gRep, fC, endD, endP, fFld, fProp, sRet, fIf, fUn, gNeg, uOr, fAndV, fOrV, fNotV, fIsi, isC, pObj, gAdd0, gCatS, gCatL, fTup, fLst, fFr, Option.bind_some, Option.map_some, Option.bind_none, z1, z2, k1, k2, m, e, pow18, funLenR, gIxS, funMax2, funInt, fun1I, g2] at m ⊢
  | cons x r =>
    obtain ⟨y, m, e, y0, yb⟩ := pot_tail (if x < 0 then -x else x)
    refine ⟨[.int (if (if x < 0 then -x else x) - 10 ^ 18 > (0 : Int) then (if x < 0 then -x else x) - 10 ^ 18 else 0), .int y], ?_, ⟨_, _, rfl, y0, yb⟩⟩
    generalize hc : (if x < 0 then -x else x) = cell at *
    have at0 := gix0 x r
    simp [G_law_pot, outF, g_law_pot, sSeqF, sSeq, sIf, fNot, fAnd, fOr, fB, fCall, fCons, fNil, fV, ini, gPos, sNo, sNil, fBin, Dl.gOr, gEqF, gNeF, litV, scal, sSet, fFun, gI0, gI, gRep, fC, endD, endP, fFld, fProp, sRet, fIf, fUn, gNeg, uOr, fAndV, fOrV, fNotV, fIsi, isC, pObj, gAdd0, gCatS, gCatL, fTup, fLst, fFr, Option.bind_some, Option.map_some, Option.bind_none, z1, z2, k1, k2, m, e, pow18, funLenR, gIxS, funMax2, funInt, fun1I, g2, at0, hc]
theorem p_pick {l : List D} {rs : List (List P2)} (P : Pot l) (h : 0 < rs.length) (hn : rs.length < 1000) : ∃ (r : List P2) (l' : List D), G_law_pick l (rs.map encR) [] = some (encR r, l', rs.map encR) ∧ r ∈ rs ∧ Pot l' := by
  obtain ⟨r, l1, e1, r0, r1, P1⟩ := p_draw (n := (rs.length : Int)) P (by omega) (bd_of 1000 (by omega) (by omega) (by decide))
  obtain ⟨x, ex, hx⟩ := atI_in (ds := rs.map encR) r0 (by rw [List.length_map]; exact r1)
  obtain ⟨q, hq, rfl⟩ := List.mem_map.mp hx
  refine ⟨q, l1, ?_, hq, P1⟩
  have ln : fLenN 1 [.own .pot l, .own .pot (rs.map encR)] = some (.int (rs.length : Int), [.own .pot l, .own .pot (rs.map encR)]) := by
    have : fLenN 1 [.own .pot l, .own .pot (rs.map encR)] = some (.int ((rs.map encR).length : Int), [.own .pot l, .own .pot (rs.map encR)]) := rfl
    rw [this, List.length_map]
  have c : fCallP 0 G_law_draw (fCons (fLenN 1) fNil) [.own .pot l, .own .pot (rs.map encR)] = some (.int r, [.own .pot l1, .own .pot (rs.map encR)]) := callP_eq (cons1 ln) e1
  have i : fIxN 1 (fCallP 0 G_law_draw (fCons (fLenN 1) fNil)) [.own .pot l, .own .pot (rs.map encR)] = some (encR q, [.own .pot l1, .own .pot (rs.map encR)]) := by
    have o : isOwn ([Sl.own .pot l, .own .pot (rs.map encR)] : Es)[1]? = true := rfl
    rw [fIxN, if_pos o, fIxO, if_pos o, c, Option.bind_some]
    show Option.map _ (atI (rs.map encR) r) = _
    rw [ex]; rfl
  show (g_law_pick [.own .pot l, .own .pot (rs.map encR)]).bind endP2 = _
  have gi : g_law_pick = sRet (fIxN 1 (fCallP 0 G_law_draw (fCons (fLenN 1) fNil))) := rfl
  rw [gi, ret_eq i]
  rfl
/-! how great the numbers are -/
def lbB : Nat → Nat
  | 0 => 2
  | j + 1 => 2 * lbB j + 3
def q6 : Nat → Int
  | 0 => 6
  | j + 1 => 6 * q6 j
def mm6 : Nat → Nat
  | 0 => 18
  | j + 1 => 24 * mm6 j
def Lv (j : Nat) (x : P2) : Prop := PB (lbB j) x ∧ ∃ m : Int, x.1 * q6 j = m * x.2 ∧ m.natAbs ≤ mm6 j
theorem Lv.up {j : Nat} {x : P2} (h : Lv j x) : Lv (j + 1) x := by
  obtain ⟨b, m, e, hm⟩ := h
  refine ⟨b.mono (by show lbB j ≤ 2 * lbB j + 3; omega), 6 * m, ?_, ?_⟩
  · show x.1 * (6 * q6 j) = 6 * m * x.2
    grind
  · show (6 * m).natAbs ≤ 24 * mm6 j
    rw [Int.natAbs_mul]
    have e : (6 : Int).natAbs = 6 := rfl
    rw [e]
    omega
theorem Lv.upN {j : Nat} {x : P2} (h : Lv j x) : ∀ k, Lv (j + k) x
  | 0 => h
  | k + 1 => (h.upN k).up
theorem Lv.to {j k : Nat} {x : P2} (h : Lv j x) (hk : j ≤ k) : Lv k x := by
  have := h.upN (k - j)
  rw [show j + (k - j) = k by omega] at this
  exact this
theorem Lv.made {j : Nat} {a b t : P2} (ha : Lv j a) (hb : Lv j b) (ht : Lv 0 t) : Lv (j + 1) (sumP a (proP t b)) := by
  obtain ⟨pa, ma, ea, na⟩ := ha
  obtain ⟨pb, mb, eb, nb⟩ := hb
  obtain ⟨pt, mt, et, nt⟩ := ht
  refine ⟨(pa.sum (pt.pro pb)).mono (by show lbB j + (2 + lbB j) + 1 ≤ 2 * lbB j + 3; omega), 6 * ma + mt * mb, ?_, ?_⟩
  · change t.1 * 6 = mt * t.2 at et
    show (a.1 * (t.2 * b.2) + t.1 * b.1 * a.2) * (6 * q6 j) = (6 * ma + mt * mb) * (a.2 * (t.2 * b.2))
    have x1 : a.1 * (t.2 * b.2) * (6 * q6 j) = 6 * (a.1 * q6 j) * (t.2 * b.2) := by grind
    have x2 : t.1 * b.1 * a.2 * (6 * q6 j) = (t.1 * 6) * (b.1 * q6 j) * a.2 := by grind
    rw [Int.add_mul, x1, x2, ea, eb, et]
    grind
  · show (6 * ma + mt * mb).natAbs ≤ 24 * mm6 j
    have e1 : (mt * mb).natAbs ≤ 18 * mm6 j := by
      rw [Int.natAbs_mul]
      exact Nat.mul_le_mul nt nb
    have e2 : (6 * ma).natAbs ≤ 6 * mm6 j := by
      rw [Int.natAbs_mul]
      exact Nat.mul_le_mul (Nat.le_refl _) na
    have := Int.natAbs_add_le (6 * ma) (mt * mb)
    omega
theorem lv0 {x : P2} (h1 : -3 ≤ x.1) (h2 : x.1 ≤ 3) (h3 : x.2 = 1 ∨ x.2 = 2 ∨ x.2 = 3) : Lv 0 x := by
  refine ⟨⟨by show x.1.natAbs < 2 ^ 2; omega, by show x.2.natAbs < 2 ^ 2; omega, by omega⟩, ?_⟩
  show ∃ m : Int, x.1 * 6 = m * x.2 ∧ m.natAbs ≤ 18
  rcases h3 with h | h | h
  · exact ⟨6 * x.1, by rw [h]; omega, by omega⟩
  · exact ⟨3 * x.1, by rw [h]; omega, by omega⟩
  · exact ⟨2 * x.1, by rw [h]; omega, by omega⟩
theorem p_number {l : List D} (P : Pot l) : ∃ (x : P2) (l' : List D), G_law_number l [] = some (encp x, l') ∧ Lv 0 x ∧ Pot l' := by
  obtain ⟨d1, l1, e1, a1, b1, P1⟩ := p_draw (n := 7) P (by decide) (bd_of 64 (by decide) (by decide) (by decide))
  obtain ⟨d2, l2, e2, a2, b2, P2⟩ := p_draw (n := 4) P1 (by decide) (bd_of 64 (by decide) (by decide) (by decide))
  obtain ⟨d3, l3, e3, a3, b3, P3⟩ := p_draw (n := 2) P2 (by decide) (bd_of 64 (by decide) (by decide) (by decide))
  have gi : g_law_number = sSeq (sSet 1 (fBin (gI0 fun i j => .int (i - j)) (fCallP 0 G_law_draw (fCons (fC (.int 7)) fNil)) (fC (.int 3)))) (sRet (fIf (fB (fBin gEqF (fCallP 0 G_law_draw (fCons (fC (.int 4)) fNil)) (fC (.int 0)))) (fTup (fCons (fV 1) (fCons (fBin gAdd0 (fC (.int 2)) (fCallP 0 G_law_draw (fCons (fC (.int 2)) fNil))) fNil))) (fTup (fCons (fV 1) (fCons (fC (.int 1)) fNil))))) := rfl
  have c1 : sSet 1 (fBin (gI0 fun i j => .int (i - j)) (fCallP 0 G_law_draw (fCons (fC (.int 7)) fNil)) (fC (.int 3))) [.own .pot l, .un] = some (.nx [.own .pot l1, .val (.int (d1 - 3))]) := by
    have f : fCallP 0 G_law_draw (fCons (fC (.int 7)) fNil) [.own .pot l, .un] = some (.int d1, [.own .pot l1, .un]) := callP_eq rfl e1
    have b : fBin (gI0 fun i j => .int (i - j)) (fCallP 0 G_law_draw (fCons (fC (.int 7)) fNil)) (fC (.int 3)) [.own .pot l, .un] = some (.int (d1 - 3), [.own .pot l1, .un]) := bin_eq f rfl rfl
    exact set_eq b
  have c2 : fB (fBin gEqF (fCallP 0 G_law_draw (fCons (fC (.int 4)) fNil)) (fC (.int 0))) [.own .pot l1, .val (.int (d1 - 3))] = some (decide (d2 = 0), [.own .pot l2, .val (.int (d1 - 3))]) := fB_eq (bin_eq (callP_eq rfl e2) rfl (eqF_int _ _))
  by_cases z : d2 = 0
  · refine ⟨(d1 - 3, 2 + d3), l3, ?_, lv0 (by show -3 ≤ d1 - 3; omega) (by show d1 - 3 ≤ 3; omega) (by show 2 + d3 = 1 ∨ 2 + d3 = 2 ∨ 2 + d3 = 3; omega), P3⟩
    have c3 : fCallP 0 G_law_draw (fCons (fC (.int 2)) fNil) [.own .pot l2, .val (.int (d1 - 3))] = some (.int d3, [.own .pot l3, .val (.int (d1 - 3))]) := callP_eq rfl e3
    have c4 : fTup (fCons (fV 1) (fCons (fBin gAdd0 (fC (.int 2)) (fCallP 0 G_law_draw (fCons (fC (.int 2)) fNil))) fNil)) [.own .pot l2, .val (.int (d1 - 3))] = some (encp (d1 - 3, 2 + d3), [.own .pot l3, .val (.int (d1 - 3))]) := tup_eq (cons2 rfl (bin_eq rfl c3 (add0_int _ _))) (by show 2 ≤ big; decide)
    show (g_law_number [.own .pot l, .un]).bind endP = _
    rw [gi, seq_nx c1, sRet, if_eq c2, if_pos (decide_eq_true z), c4]
    rfl
  · refine ⟨(d1 - 3, 1), l2, ?_, lv0 (by show -3 ≤ d1 - 3; omega) (by show d1 - 3 ≤ 3; omega) (.inl rfl), P2⟩
    have c4 : fTup (fCons (fV 1) (fCons (fC (.int 1)) fNil)) [.own .pot l2, .val (.int (d1 - 3))] = some (encp (d1 - 3, 1), [.own .pot l2, .val (.int (d1 - 3))]) := tup_eq (cons2 rfl rfl) (by show 2 ≤ big; decide)
    show (g_law_number [.own .pot l, .un]).bind endP = _
    rw [gi, seq_nx c1, sRet, if_eq c2, if_neg (by simp [z]), c4]
    rfl
theorem row_loop {s1 : Sl} : ∀ (k : Nat) (t : Int) (l : List D) (acc : List P2) (s3 : Sl), Pot l → acc.length + k ≤ 1000 → (∀ x, x ∈ acc → Lv 0 x) → ∃ (l' : List D) (acc' : List P2) (s3' : Sl), loopF (gN 3) (sApp 2 (fCallP 0 G_law_number fNil)) (intsD t k) [.own .pot l, s1, .own .mine (acc.map encp), s3] = some (.nx [.own .pot l', s1, .own .mine (acc'.map encp), s3']) ∧ acc'.length = acc.length + k ∧ (∀ x, x ∈ acc' → Lv 0 x) ∧ Pot l'
  | 0, t, l, acc, s3, P, _, h => ⟨l, acc, s3, rfl, rfl, h, P⟩
  | k + 1, t, l, acc, s3, P, hl, h => by
    obtain ⟨x, l1, e1, v, P1⟩ := p_number P
    obtain ⟨l', acc', s3', e2, n, h2, P2⟩ := row_loop k (t + 1) l1 (acc ++ [x]) (.val (.int t)) P1 (by simp; omega) (fun y hy => (List.mem_append.mp hy).elim (h y) fun q => by rw [List.mem_singleton.mp q]; exact v) (s1 := s1)
    refine ⟨l', acc', s3', ?_, by rw [n, List.length_append, List.length_singleton]; omega, h2, P2⟩
    have c : fCallP 0 G_law_number fNil [.own .pot l, s1, .own .mine (acc.map encp), .val (.int t)] = some (encp x, [.own .pot l1, s1, .own .mine (acc.map encp), .val (.int t)]) := callP_eq rfl e1
    have a := app_eq (i := 2) (fe := fCallP 0 G_law_number fNil) (δ := [.own .pot l, s1, .own .mine (acc.map encp), .val (.int t)]) (acc0 := acc.map encp) (acc := acc.map encp) rfl c rfl (by rw [List.length_map]; unfold big; omega)
    have em : acc.map encp ++ [encp x] = (acc ++ [x]).map encp := by simp
    rw [em] at a
    simp only [List.set_cons_succ, List.set_cons_zero] at a
    rw [intsD_cons, loop_nx (δ1 := [.own .pot l, s1, .own .mine (acc.map encp), .val (.int t)]) rfl a]
    exact e2
theorem p_row {l : List D} {w : Nat} (P : Pot l) (hw : w ≤ 1000) : ∃ (r : List P2) (l' : List D), G_law_row l [.int (w : Int)] = some (encR r, l') ∧ r.length = w ∧ (∀ x, x ∈ r → Lv 0 x) ∧ Pot l' := by
  have gi : g_law_row = sSeq (sOwn 2 (fLst fNil)) (sSeq (sFor (fRg1 (fCons (fV 1) fNil)) (gN 3) (sApp 2 (fCallP 0 G_law_number fNil))) (sRet (fV 2))) := rfl
  have c1 : sOwn 2 (fLst fNil) [.own .pot l, .val (.int (w : Int)), .un, .un] = some (.nx [.own .pot l, .val (.int (w : Int)), .own .mine (([] : List P2).map encp), .un]) := rfl
  have rg := rg1_int (w : Int) (by omega) (by omega) (fa := fCons (fV 1) fNil) (δ := [.own .pot l, .val (.int (w : Int)), .own .mine (([] : List P2).map encp), .un]) (δ1 := [.own .pot l, .val (.int (w : Int)), .own .mine (([] : List P2).map encp), .un]) rfl
  rw [Int.toNat_natCast] at rg
  obtain ⟨l', r, s3, e, n, h, P1⟩ := row_loop w 0 l [] .un P (by simpa using hw) (fun x hx => by cases hx) (s1 := .val (.int (w : Int)))
  refine ⟨r, l', ?_, by simpa using n, h, P1⟩
  have c2 := for_eq rg e
  show (g_law_row [.own .pot l, .val (.int (w : Int)), .un, .un]).bind endP = _
  rw [gi, seq_nx c1, seq_nx c2]
  rfl
end My
namespace My
open PySem PySem.Spec PyProof.Rows L2 ClX Dl PyProof
/-! the law's rows -/
theorem lbB_le : ∀ j, j ≤ 4 → lbB j ≤ 77
  | 0, _ => by decide
  | 1, _ => by decide
  | 2, _ => by decide
  | 3, _ => by decide
  | 4, _ => by decide
  | j + 5, h => by omega
abbrev SW (l : List D) (s1 s2 : Sl) (fd : List (List P2)) (s4 s5 s6 s7 s8 : Sl) : Es := [.own .pot l, s1, s2, .own .mine (fd.map encR), s4, s5, s6, s7, s8, .un, .un]
theorem callP2_pick {l l' : List D} {s1 s2 s4 s5 s6 s7 s8 : Sl} {fd : List (List P2)} {d : D} (h : G_law_pick l (fd.map encR) [] = some (d, l', fd.map encR)) : fCallP2 0 3 G_law_pick (SW l s1 s2 fd s4 s5 s6 s7 s8) = some (d, SW l' s1 s2 fd s4 s5 s6 s7 s8) := by
  show (if isL .pot = true ∧ isL .mine = true ∧ (0 : Nat) ≠ 3 then (G_law_pick l (fd.map encR) []).map _ else none) = _
  rw [if_pos ⟨rfl, rfl, by decide⟩, h]
  rfl
def rwM : FS := sSeq (sAsg (fTup (fCons (fCallP2 0 3 G_law_pick) (fCons (fCallP2 0 3 G_law_pick) (fCons (fCallP 0 G_law_number fNil) fNil)))) (gT 3 (gsCons (gN 6) (gsCons (gN 7) (gsCons (gN 8) gsNil))))) (sOwn 5 (fLc (fZip (fCons (fV 6) (fCons (fV 7) fNil))) (gT 2 (gsCons (gN 9) (gsCons (gN 10) gsNil))) fYes (fCall G_law_sum (gPos []) (fCons (fV 9) (fCons (fCall G_law_product (gPos []) (fCons (fV 8) (fCons (fV 10) fNil)) fNil) fNil)) fNil) [9, 10]))
def madP (a b : List P2) (t : P2) : List P2 := (a.zip b).map fun p => sumP p.1 (proP t p.2)
theorem rw_made {l : List D} {s1 s2 s4 s5 s6 s7 s8 : Sl} {fd : List (List P2)} {w j : Nat} (P : Pot l) (h0 : 0 < fd.length) (hl : fd.length ≤ 100) (hw : w ≤ 1000) (hj : j ≤ 4) (hf : ∀ r, r ∈ fd → r.length = w ∧ ∀ x, x ∈ r → Lv j x) : ∃ (l' : List D) (r : List P2) (s6' s7' s8' : Sl), rwM (SW l s1 s2 fd s4 s5 s6 s7 s8) = some (.nx (SW l' s1 s2 fd s4 (.own .mine (r.map encp)) s6' s7' s8')) ∧ r.length = w ∧ (∀ x, x ∈ r → Lv (j + 1) x) ∧ Pot l' := by
  obtain ⟨a, l1, e1, ha, P1⟩ := p_pick (rs := fd) P h0 (by omega)
  obtain ⟨b, l2, e2, hb, P2⟩ := p_pick (rs := fd) P1 h0 (by omega)
  obtain ⟨t, l3, e3, ht, P3⟩ := p_number P2
  obtain ⟨la, va⟩ := hf a ha
  obtain ⟨lb, vb⟩ := hf b hb
  have lj := lbB_le j hj
  have c1 := callP2_pick (s1 := s1) (s2 := s2) (s4 := s4) (s5 := s5) (s6 := s6) (s7 := s7) (s8 := s8) e1
  have c2 := callP2_pick (s1 := s1) (s2 := s2) (s4 := s4) (s5 := s5) (s6 := s6) (s7 := s7) (s8 := s8) e2
  have c3 : fCallP 0 G_law_number fNil (SW l2 s1 s2 fd s4 s5 s6 s7 s8) = some (encp t, SW l3 s1 s2 fd s4 s5 s6 s7 s8) := callP_eq rfl e3
  have tp : fTup (fCons (fCallP2 0 3 G_law_pick) (fCons (fCallP2 0 3 G_law_pick) (fCons (fCallP 0 G_law_number fNil) fNil))) (SW l s1 s2 fd s4 s5 s6 s7 s8) = some (.tup [encR a, encR b, encp t], SW l3 s1 s2 fd s4 s5 s6 s7 s8) := tup_eq (cons3 c1 c2 c3) (by show 3 ≤ big; decide)
  have d1 : sAsg (fTup (fCons (fCallP2 0 3 G_law_pick) (fCons (fCallP2 0 3 G_law_pick) (fCons (fCallP 0 G_law_number fNil) fNil)))) (gT 3 (gsCons (gN 6) (gsCons (gN 7) (gsCons (gN 8) gsNil)))) (SW l s1 s2 fd s4 s5 s6 s7 s8) = some (.nx (SW l3 s1 s2 fd s4 s5 (.val (encR a)) (.val (encR b)) (.val (encp t)))) := asg_eq tp rfl
  have z : fZip (fCons (fV 6) (fCons (fV 7) fNil)) (SW l3 s1 s2 fd s4 s5 (.val (encR a)) (.val (encR b)) (.val (encp t))) = some ((a.zip b).map fun p => .tup [encp p.1, encp p.2], SW l3 s1 s2 fd s4 s5 (.val (encR a)) (.val (encR b)) (.val (encp t))) := by
    rw [← pairs_zip encp encp a b]
    rfl
  have lz : (a.zip b).length ≤ big := by rw [List.length_zip]; unfold big; omega
  have tb := ht.1.mono (show lbB 0 ≤ 400000 by decide)
  have m1 := flc_map (ft := gT 2 (gsCons (gN 9) (gsCons (gN 10) gsNil))) (fe := fCall G_law_sum (gPos []) (fCons (fV 9) (fCons (fCall G_law_product (gPos []) (fCons (fV 8) (fCons (fV 10) fNil)) fNil) fNil)) fNil) (vs := [9, 10]) (g := fun p => encp (sumP p.1 (proP t p.2))) z rfl lz fun p hp => ⟨[.own .pot l3, s1, s2, .own .mine (fd.map encR), s4, s5, .val (encR a), .val (encR b), .val (encp t), .val (encp p.1), .val (encp p.2)], rfl, by
    have b1 := (va p.1 (List.of_mem_zip hp).1).1
    have b2 := (vb p.2 (List.of_mem_zip hp).2).1
    exact call2 rfl (call2 rfl rfl (p_pro tb (b2.mono (by omega)))) (p_sum (b1.mono (by omega)) ((ht.1.pro b2).mono (by show 2 + lbB j ≤ 400000; omega))), rfl⟩
  have em : (a.zip b).map (fun p => encp (sumP p.1 (proP t p.2))) = (madP a b t).map encp := by
    unfold madP
    rw [List.map_map]; rfl
  rw [em] at m1
  have d2 := own_eq (i := 5) m1
  simp only [List.set_cons_succ, List.set_cons_zero] at d2
  refine ⟨l3, madP a b t, .val (encR a), .val (encR b), .val (encp t), ?_, ?_, fun x hx => ?_, P3⟩
  · rw [rwM, seq_nx d1, d2]
  · unfold madP
    rw [List.length_map, List.length_zip, la, lb, Nat.min_self]
  · obtain ⟨p, hp, rfl⟩ := List.mem_map.mp hx
    exact (va p.1 (List.of_mem_zip hp).1).made (vb p.2 (List.of_mem_zip hp).2) ht
def rwI : FS := sIf (fAnd (fB (fBin (gI0 fun i j => .bl (decide (j < i))) (fV 4) (fC (.int 0)))) (fB (fBin gEqF (fCallP 0 G_law_draw (fCons (fC (.int 3)) fNil)) (fC (.int 0))))) rwM sNil
def rwB : FS := sSeq (sSet 5 (fCallP 0 G_law_row (fCons (fV 2) fNil))) (sSeq rwI (sApp 3 (fV 5)))
theorem rw_turn {l : List D} {s1 s5 s6 s7 s8 : Sl} {fd : List (List P2)} {w : Nat} (P : Pot l) (hl : fd.length ≤ 4) (hw : w ≤ 1000) (hf : ∀ r, r ∈ fd → r.length = w ∧ ∀ x, x ∈ r → Lv (fd.length - 1) x) : ∃ (l' : List D) (r : List P2) (s5' s6' s7' s8' : Sl), rwB (SW l s1 (.val (.int (w : Int))) fd (.val (.int (fd.length : Int))) s5 s6 s7 s8) = some (.nx (SW l' s1 (.val (.int (w : Int))) (fd ++ [r]) (.val (.int (fd.length : Int))) s5' s6' s7' s8')) ∧ r.length = w ∧ (∀ x, x ∈ r → Lv fd.length x) ∧ Pot l' := by
  obtain ⟨r, l1, e1, lr, vr', P1⟩ := p_row P hw
  have c1 : fCallP 0 G_law_row (fCons (fV 2) fNil) (SW l s1 (.val (.int (w : Int))) fd (.val (.int (fd.length : Int))) s5 s6 s7 s8) = some (encR r, SW l1 s1 (.val (.int (w : Int))) fd (.val (.int (fd.length : Int))) s5 s6 s7 s8) := callP_eq rfl e1
  have d1 : sSet 5 (fCallP 0 G_law_row (fCons (fV 2) fNil)) (SW l s1 (.val (.int (w : Int))) fd (.val (.int (fd.length : Int))) s5 s6 s7 s8) = some (.nx (SW l1 s1 (.val (.int (w : Int))) fd (.val (.int (fd.length : Int))) (.val (encR r)) s6 s7 s8)) := set_eq c1
  have fin : ∀ {l' : List D} {q : List P2} {t5 t6 t7 t8 : Sl}, (t5 = .val (encR q) ∨ t5 = .own .mine (q.map encp)) → sApp 3 (fV 5) (SW l' s1 (.val (.int (w : Int))) fd (.val (.int (fd.length : Int))) t5 t6 t7 t8) = some (.nx (SW l' s1 (.val (.int (w : Int))) (fd ++ [q]) (.val (.int (fd.length : Int))) (.val (encR q)) t6 t7 t8)) := fun {l' q t5 t6 t7 t8} h => by
    have v : fV 5 (SW l' s1 (.val (.int (w : Int))) fd (.val (.int (fd.length : Int))) t5 t6 t7 t8) = some (encR q, SW l' s1 (.val (.int (w : Int))) fd (.val (.int (fd.length : Int))) (.val (encR q)) t6 t7 t8) := by
      rcases h with rfl | rfl <;> rfl
    have a := app_eq (i := 3) (fe := fV 5) (acc0 := fd.map encR) (acc := fd.map encR) rfl v rfl (by rw [List.length_map]; unfold big; omega)
    have em : fd.map encR ++ [encR q] = (fd ++ [q]).map encR := by simp
    rw [em] at a
    simp only [List.set_cons_succ, List.set_cons_zero] at a
    exact a
  have t1 : fB (fBin (gI0 fun i j => .bl (decide (j < i))) (fV 4) (fC (.int 0))) (SW l1 s1 (.val (.int (w : Int))) fd (.val (.int (fd.length : Int))) (.val (encR r)) s6 s7 s8) = some (decide ((0 : Int) < (fd.length : Int)), SW l1 s1 (.val (.int (w : Int))) fd (.val (.int (fd.length : Int))) (.val (encR r)) s6 s7 s8) := rfl
  have vup : ∀ x, x ∈ r → Lv fd.length x := fun x hx => (vr' x hx).to (Nat.zero_le _)
  by_cases z : 0 < fd.length
  · rw [decide_eq_true (by omega)] at t1
    obtain ⟨d, l2, e2, a2, b2, P2⟩ := p_draw (n := 3) P1 (by decide) (bd_of 64 (by decide) (by decide) (by decide))
    have c2 : fB (fBin gEqF (fCallP 0 G_law_draw (fCons (fC (.int 3)) fNil)) (fC (.int 0))) (SW l1 s1 (.val (.int (w : Int))) fd (.val (.int (fd.length : Int))) (.val (encR r)) s6 s7 s8) = some (decide (d = 0), SW l2 s1 (.val (.int (w : Int))) fd (.val (.int (fd.length : Int))) (.val (encR r)) s6 s7 s8) := fB_eq (bin_eq (callP_eq rfl e2) rfl (eqF_int _ _))
    have tt := (and_tt (g := fB (fBin gEqF (fCallP 0 G_law_draw (fCons (fC (.int 3)) fNil)) (fC (.int 0)))) t1).trans c2
    by_cases zd : d = 0
    · rw [decide_eq_true zd] at tt
      obtain ⟨l3, q, t6, t7, t8, e3, lq, vq', P3⟩ := rw_made (s1 := s1) (s2 := .val (.int (w : Int))) (s4 := .val (.int (fd.length : Int))) (s5 := .val (encR r)) (s6 := s6) (s7 := s7) (s8 := s8) P2 z (by omega) hw (j := fd.length - 1) (by omega) hf
      rw [show fd.length - 1 + 1 = fd.length by omega] at vq'
      refine ⟨l3, q, .val (encR q), t6, t7, t8, ?_, lq, vq', P3⟩
      have d2 : rwI (SW l1 s1 (.val (.int (w : Int))) fd (.val (.int (fd.length : Int))) (.val (encR r)) s6 s7 s8) = some (.nx (SW l3 s1 (.val (.int (w : Int))) fd (.val (.int (fd.length : Int))) (.own .mine (q.map encp)) t6 t7 t8)) := (sIf_t tt).trans e3
      rw [rwB, seq_nx d1, seq_nx d2]
      exact fin (.inr rfl)
    · rw [decide_eq_false zd] at tt
      refine ⟨l2, r, .val (encR r), s6, s7, s8, ?_, lr, vup, P2⟩
      rw [rwB, seq_nx d1, seq_nx (show rwI _ = _ from sIf_f tt)]
      exact fin (.inl rfl)
  · rw [decide_eq_false (by omega)] at t1
    refine ⟨l1, r, .val (encR r), s6, s7, s8, ?_, lr, vup, P1⟩
    rw [rwB, seq_nx d1, seq_nx (show rwI _ = _ from sIf_f (and_ff t1))]
    exact fin (.inl rfl)
structure Fd (w : Nat) (fd : List (List P2)) : Prop where
  all : ∀ r, r ∈ fd → r.length = w ∧ ∀ x, x ∈ r → Lv (fd.length - 1) x
  one : ∀ r, fd[0]? = some r → ∀ x, x ∈ r → Lv 0 x
theorem rw_loop {s1 : Sl} {w : Nat} (hw : w ≤ 1000) : ∀ (k : Nat) (l : List D) (fd : List (List P2)) (s4 s5 s6 s7 s8 : Sl), Pot l → fd.length + k ≤ 5 → Fd w fd → ∃ (l' : List D) (fd' : List (List P2)) (s4' s5' s6' s7' s8' : Sl), loopF (gN 4) rwB (intsD (fd.length : Int) k) (SW l s1 (.val (.int (w : Int))) fd s4 s5 s6 s7 s8) = some (.nx (SW l' s1 (.val (.int (w : Int))) fd' s4' s5' s6' s7' s8')) ∧ fd'.length = fd.length + k ∧ Fd w fd' ∧ Pot l'
  | 0, l, fd, s4, s5, s6, s7, s8, P, _, F => ⟨l, fd, s4, s5, s6, s7, s8, rfl, rfl, F, P⟩
  | k + 1, l, fd, s4, s5, s6, s7, s8, P, hl, F => by
    obtain ⟨l1, r, t5, t6, t7, t8, e, lr, vr', P1⟩ := rw_turn (s1 := s1) (s5 := s5) (s6 := s6) (s7 := s7) (s8 := s8) P (by omega) hw F.all
    have ln : (fd ++ [r]).length = fd.length + 1 := by simp
    have F1 : Fd w (fd ++ [r]) := by
      refine ⟨fun q hq => ?_, fun q hq => ?_⟩
      · rw [ln, Nat.add_sub_cancel]
        rcases List.mem_append.mp hq with h | h
        · exact ⟨(F.all q h).1, fun x hx => ((F.all q h).2 x hx).to (Nat.sub_le _ _)⟩
        · rw [List.mem_singleton.mp h]; exact ⟨lr, vr'⟩
      · by_cases z : fd = []
        · subst z
          simp at hq
          subst hq
          exact vr'
        · have : 0 < fd.length := List.length_pos_iff.mpr z
          rw [List.getElem?_append_left this] at hq
          exact F.one q hq
    obtain ⟨l', fd', u4, u5, u6, u7, u8, e2, n, F2, P2⟩ := rw_loop hw k l1 (fd ++ [r]) (.val (.int (fd.length : Int))) t5 t6 t7 t8 P1 (by rw [ln]; omega) F1 (s1 := s1)
    refine ⟨l', fd', u4, u5, u6, u7, u8, ?_, by rw [n, ln]; omega, F2, P2⟩
    have q : ((fd.length : Int) + 1) = (((fd ++ [r]).length : Nat) : Int) := by rw [ln]; omega
    rw [intsD_cons, q]
    exact (loop_nx (δ1 := SW l s1 (.val (.int (w : Int))) fd (.val (.int (fd.length : Int))) s5 s6 s7 s8) rfl e).trans e2
theorem p_rows {l : List D} {w m : Nat} (P : Pot l) (hw : w ≤ 1000) (hm : m ≤ 5) : ∃ (rs : List (List P2)) (l' : List D), G_law_rows l [.int (m : Int), .int (w : Int)] = some (encRR rs, l') ∧ rs.length = m ∧ Fd w rs ∧ Pot l' := by
  have gi : g_law_rows = sSeq (sOwn 3 (fLst fNil)) (sSeq (sFor (fRg1 (fCons (fV 1) fNil)) (gN 4) rwB) (sRet (fV 3))) := rfl
  have c1 : sOwn 3 (fLst fNil) [.own .pot l, .val (.int (m : Int)), .val (.int (w : Int)), .un, .un, .un, .un, .un, .un, .un, .un] = some (.nx (SW l (.val (.int (m : Int))) (.val (.int (w : Int))) [] .un .un .un .un .un)) := rfl
  have rg := rg1_int (m : Int) (by omega) (by omega) (fa := fCons (fV 1) fNil) (δ := SW l (.val (.int (m : Int))) (.val (.int (w : Int))) [] .un .un .un .un .un) (δ1 := SW l (.val (.int (m : Int))) (.val (.int (w : Int))) [] .un .un .un .un .un) rfl
  rw [Int.toNat_natCast] at rg
  obtain ⟨l', rs, u4, u5, u6, u7, u8, e, n, F, P1⟩ := rw_loop (s1 := .val (.int (m : Int))) hw m l [] .un .un .un .un .un P (by simpa using hm) ⟨fun r hr => (by cases hr), fun r hr => (by cases hr)⟩
  refine ⟨rs, l', ?_, by simpa using n, F, P1⟩
  have c2 := for_eq rg e
  show (g_law_rows [.own .pot l, .val (.int (m : Int)), .val (.int (w : Int)), .un, .un, .un, .un, .un, .un, .un, .un]).bind endP = _
  rw [gi, seq_nx c1, seq_nx c2]
  rfl
end My
namespace My
open PySem PySem.Spec PyProof.Rows L2 ClX Dl PyProof
/-! texts -/
def EltT (x : D) : Prop := (∃ t, x = .int t ∧ Bd t 100) ∨ ∃ p q, x = R p q ∧ Bd p 100 ∧ Bd q 100
theorem p_repr {p q : Int} (bp : Bd p 1900) (bq : Bd q 1900) : G_Ratio_repr [R p q] = some (.str (txtP p q)) := by
  have n1 := num_ok bp
  have n2 := num_ok bq
  have l1 := lenT bp
  have l2 := lenT bq
  have l3 : (Str.ofString "Ratio(").length = 6 := rfl
  have l4 : (Str.ofString ", ").length = 2 := rfl
  have l5 : (Str.ofString ")").length = 1 := rfl
  have b0 : 6 ≤ big := by decide
  have b1 : 6 + (Str.ofString p.repr).length ≤ big := by unfold big; omega
  have b2 : 6 + (Str.ofString p.repr).length + 2 ≤ big := by unfold big; omega
  have b3 : 6 + (Str.ofString p.repr).length + 2 + (Str.ofString q.repr).length ≤ big := by unfold big; omega
  have b4 : 6 + (Str.ofString p.repr).length + 2 + (Str.ofString q.repr).length + 1 ≤ big := by unfold big; omega
  simp [G_Ratio_repr, outD, g_Ratio_repr, sSeq, sIf, fNot, fAnd, fOr, fB, fCall, fCons, fNil, fV, ini, gPos, sNo, sNil, fBin, Dl.gOr, gEqF, gNeF, litV, scal, sSet, fFun, gI0, gI, gRep, fC, endD, endP, fFld, fProp, sRet, fIf, fUn, gNeg, uOr, fAndV, fOrV, fNotV, fIsi, isC, pObj, gAdd0, gCatS, gCatL, fTup, fLst, fFr, Option.bind_some, Option.map_some, Option.bind_none, txtP, funStrI, funOr, n1, n2, fJoin, fFmt, Str.empty_append, Str.length_append, l3, l4, l5, b0, b1, b2, b3, b4]
theorem textFrom_le : ∀ (ts : List Str) (k : Nat) (acc : Str), (textFrom k acc ts).length ≤ acc.length + piled ts
  | [], k, acc => by simp [textFrom, piled]
  | t :: ts, k, acc => by
    have ih := textFrom_le ts (k + 1) (acc ++ (if k > 0 then ", " else "" : String) ++ t)
    have e : (acc ++ (if k > 0 then ", " else "" : String) ++ t).length ≤ acc.length + 2 + t.length := by
      rw [strLen_append, strLen_append]
      have : ((if k > 0 then ", " else "" : String) : Str).length ≤ 2 := by split <;> decide
      omega
    rw [piled_cons]
    show (textFrom (k + 1) _ ts).length ≤ _
    omega
theorem listText_le (ts : List Str) : (listText ts).length ≤ piled ts + 2 := by
  unfold listText
  rw [strLen_append]
  have h := textFrom_le ts 0 "["
  have e1 : (("[" : String) : Str).length = 1 := rfl
  have e2 : (("]" : String) : Str).length = 1 := rfl
  omega
theorem tupleText_le (ts : List Str) : (tupleText ts).length ≤ piled ts + 3 := by
  unfold tupleText
  rw [strLen_append, strLen_append]
  have e1 : ((("(" : String) : Str)).length = 1 := rfl
  have e3 : (((if ts.length == 1 then ",)" else ")" : String) : Str)).length ≤ 2 := by split <;> decide
  rw [e1]
  by_cases h : ts = []
  · subst h
    have : (Str.join ", " []).length = 0 := rfl
    omega
  · have := join_length_add ts h
    omega
theorem txts_ok {g : D → Option Str} {B : Nat} : ∀ xs : List D, (∀ x, x ∈ xs → ∃ t, g x = some t ∧ t.length ≤ B) → ∃ ts, txts g xs = some ts ∧ piled ts ≤ xs.length * (B + 2)
  | [], _ => ⟨[], rfl, by simp [piled]⟩
  | x :: xs, h => by
    obtain ⟨t, e1, l1⟩ := h x (List.mem_cons_self ..)
    obtain ⟨ts, e2, l2⟩ := txts_ok xs fun y hy => h y (List.mem_cons_of_mem _ hy)
    refine ⟨t :: ts, by simp [txts, e1, e2], ?_⟩
    have e : (xs.length + 1) * (B + 2) = xs.length * (B + 2) + (B + 2) := Nat.succ_mul _ _
    rw [piled_cons, List.length_cons]
    omega
theorem ls_ok {g : D → Option Str} {B : Nat} {p : D} {ps : List D} (hp : Sq p ps) (h : ∀ x, x ∈ ps → ∃ t, g x = some t ∧ t.length ≤ B) : ∃ t, rpLs g p = some t ∧ t.length ≤ ps.length * (B + 2) + 3 := by
  obtain ⟨ts, e, l⟩ := txts_ok ps h
  rcases hp with rfl | rfl
  · cases ps with
    | nil => exact ⟨"[]", rfl, by have : (("[]" : String) : Str).length = 2 := rfl; omega⟩
    | cons x xs =>
      refine ⟨listText ts, ?_, ?_⟩
      · show (txts g (x :: xs)).map listText = _
        rw [e]; rfl
      · have := listText_le ts; omega
  · refine ⟨tupleText ts, ?_, ?_⟩
    · show (txts g ps).map tupleText = _
      rw [e]; rfl
    · have := tupleText_le ts; omega
theorem elt_txt {x : D} (h : EltT x) : ∃ t, rp0 x = some t ∧ t.length ≤ 4000 := by
  rcases h with ⟨t, rfl, b⟩ | ⟨p, q, rfl, bp, bq⟩
  · have n1 := num_ok (b.mono (by decide : 100 ≤ 1900))
    have l1 := lenT (b.mono (by decide : 100 ≤ 1900))
    have l2 : (Str.ofString (toString t)).length ≤ 1921 := l1
    refine ⟨Str.ofString (toString t), ?_, by omega⟩
    simp [rp0, rOrr, rpFl, n1]
  · have r := p_repr (bp.mono (by decide : 100 ≤ 1900)) (bq.mono (by decide : 100 ≤ 1900))
    have l1 : (Str.ofString (toString p)).length ≤ 1921 := lenT (bp.mono (by decide : 100 ≤ 1900))
    have l2 : (Str.ofString (toString q)).length ≤ 1921 := lenT (bq.mono (by decide : 100 ≤ 1900))
    have l3 : (Str.ofString "Ratio(").length = 6 := rfl
    have l4 : (Str.ofString ", ").length = 2 := rfl
    have l5 : (Str.ofString ")").length = 1 := rfl
    refine ⟨txtP p q, ?_, ?_⟩
    · show rOrr rpFl (rpOb 0 G_Ratio_repr) (R p q) = _
      have e : rpOb 0 G_Ratio_repr (R p q) = some (txtP p q) := by
        unfold rpOb
        simp only [if_true, r]
      unfold rOrr
      exact e
    · unfold txtP
      simp only [strLen_append]
      omega
theorem orr_r {g g' : D → Option Str} {x : D} (h : g x = none) : rOrr g g' x = g' x := by simp [rOrr, h]
theorem orr_l {g g' : D → Option Str} {x : D} {t : Str} (h : g x = some t) : rOrr g g' x = some t := by simp [rOrr, h]
theorem pls_all : ∀ {xs : List D}, (∀ x, x ∈ xs → pl x = true) → pls xs = true
  | [], _ => by simp [pls]
  | x :: xs, h => by simp [pls, h x (List.mem_cons_self ..), pls_all fun y hy => h y (List.mem_cons_of_mem _ hy)]
theorem elt_pl {x : D} (h : EltT x) : pl x = true := by
  rcases h with ⟨t, rfl, b⟩ | ⟨p, q, rfl, bp, bq⟩
  · simp [pl]
  · simp [pl, pls]
theorem sq_pl {d : D} {ds : List D} (h : Sq d ds) (he : ∀ x, x ∈ ds → pl x = true) : pl d = true := by
  rcases h with rfl | rfl
  · rw [pl]; exact pls_all he
  · rw [pl]; exact pls_all he
theorem row_txt {ds : List D} (hl : ds.length ≤ 5) (h : ∀ x, x ∈ ds → EltT x) : ∃ t, rp2 (.lst ds) = some t ∧ t.length ≤ 20100 := by
  obtain ⟨t, e, l⟩ := ls_ok (g := rp0) (B := 4000) (p := .lst ds) (.inl rfl) (fun x hx => elt_txt (h x hx))
  have : ds.length * 4002 ≤ 5 * 4002 := Nat.mul_le_mul_right _ hl
  exact ⟨t, orr_l ((orr_r rfl).trans e), by omega⟩
theorem rows_txt {Rw : List (List D)} (hn : Rw.length ≤ 6) (hl : ∀ ds, ds ∈ Rw → ds.length ≤ 5) (h : ∀ ds, ds ∈ Rw → ∀ x, x ∈ ds → EltT x) : ∃ t, funRp rp2 [.lst (Rw.map D.lst)] = some (.str t) := by
  obtain ⟨t, e, l⟩ := ls_ok (g := rp2) (B := 20100) (p := .lst (Rw.map D.lst)) (.inl rfl) (fun x hx => by
    obtain ⟨ds, hd, rfl⟩ := List.mem_map.mp hx
    exact row_txt (hl ds hd) (h ds hd))
  have hpl : pl (.lst (Rw.map D.lst)) = true := sq_pl (.inl rfl) fun x hx => by
    obtain ⟨ds, hd, rfl⟩ := List.mem_map.mp hx
    exact sq_pl (.inl rfl) fun y hy => elt_pl (h ds hd y hy)
  rw [List.length_map] at l
  have : Rw.length * (20100 + 2) ≤ 6 * (20100 + 2) := Nat.mul_le_mul_right _ hn
  have hb : t.length ≤ big := by unfold big; omega
  refine ⟨t, ?_⟩
  rw [funRp, if_pos hpl, e, Option.bind_some, if_pos hb]
/-! numbers as they are handed in -/
def told (x : P2) : D := if x.2 = 1 then .int x.1 else mk x.2 x.1
structure Ok5 (x : P2) : Prop where
  pb : PB 80 x
  m : ∃ m : Int, x.1 * 7776 = m * x.2 ∧ Bd m 23
def mO (x : P2) : Int := x.1 * 7776 / x.2
theorem mO_eq {x : P2} (h : Ok5 x) : x.1 * 7776 = mO x * x.2 ∧ Bd (mO x) 23 := by
  obtain ⟨m, e, b⟩ := h.m
  have : mO x = m := by unfold mO; rw [e]; exact Int.mul_ediv_cancel _ h.pb.z
  rw [this]
  exact ⟨e, b⟩
theorem nm_told {x : P2} (h : Ok5 x) : Nm 7776 (mO x) (told x) := by
  have e := (mO_eq h).1
  unfold told
  by_cases z : x.2 = 1
  · rw [if_pos z]
    rw [z, Int.mul_one] at e
    rw [← e]
    exact nm_int (by decide)
  · rw [if_neg z, mk_eq h.pb.z (by decide) e]
    exact nm_mk _ _
theorem elt_told {x : P2} (h : Ok5 x) : EltT (told x) := by
  unfold told
  by_cases z : x.2 = 1
  · rw [if_pos z]; exact .inl ⟨_, rfl, h.pb.t.mono (by decide)⟩
  · rw [if_neg z]; exact .inr ⟨_, _, rfl, (mk_bd h.pb.t).mono (by decide), (mk_bd2 h.pb.d).mono (by decide)⟩
theorem p_told {x : P2} (h : Ok5 x) : G_law_told [encp x] = some (told x) := by
  refine out1 (d := some (told x)) (δ := [.val (encp x)]) ?_
  have i0 : fIxN 0 (fC (.int 0)) [.val (encp x)] = some (.int x.1, [.val (encp x)]) := ixN_val rfl rfl (ix_0 _ _)
  have i1 : fIxN 0 (fC (.int 1)) [.val (encp x)] = some (.int x.2, [.val (encp x)]) := ixN_val rfl rfl (ix_1 _ _)
  have t : fB (fBin gNeF (fIxN 0 (fC (.int 1))) (fC (.int 1))) [.val (encp x)] = some (!decide (x.2 = 1), [.val (encp x)]) := fB_eq (bin_eq i1 rfl (neF_int _ _))
  refine (if_eq t).trans ?_
  unfold told
  by_cases z : x.2 = 1
  · rw [if_pos z, decide_eq_true z, if_neg (by simp)]
    exact i0
  · rw [if_neg z, decide_eq_false z, if_pos (show (!false) = true from rfl)]
    exact make2 i0 i1 (p_init h.pb.z (h.pb.d.mono (by decide)))
abbrev toldR (r : List P2) : D := .lst (r.map told)
structure Hnd (w : Nat) (rs : List (List P2)) : Prop where
  ln : rs.length ≤ 6
  lw : ∀ r, r ∈ rs → r.length = w
  ok : ∀ r, r ∈ rs → ∀ x, x ∈ r → Ok5 x
theorem p_all_told {w : Nat} {rs : List (List P2)} (H : Hnd w rs) (hw : w ≤ 60) : G_law_all_told [encRR rs] = some (.lst (rs.map toldR)) := by
  refine out1 (d := some (.lst (rs.map toldR))) (δ := [.val (encRR rs), .un, .un]) ?_
  have ln := H.ln
  refine fr_eq (flc_map (f := encR) (g := toldR) (l := rs) rfl rfl (by unfold big; omega) fun r hr => ⟨[.val (encRR rs), .val (encR r), .un], rfl, ?_, rfl⟩)
  have lr := H.lw r hr
  exact fr_eq (flc_map (f := encp) (g := told) (l := r) rfl rfl (by unfold big; omega) fun x hx => ⟨[.val (encRR rs), .val (encR r), .val (encp x)], rfl, call1 rfl (p_told (H.ok r hr x hx)), rfl⟩)
abbrev msO (r : List P2) : List Int := r.map mO
theorem rn_told {r : List P2} (h : ∀ x, x ∈ r → Ok5 x) {d : D} (hd : Sq d (r.map told)) : Rn 7776 (msO r) d := ⟨r.map fun x => (mO x, told x), by rw [List.map_map]; exact hd, by rw [List.map_map]; rfl, fun y hy => by
  obtain ⟨x, hx, rfl⟩ := List.mem_map.mp hy
  exact nm_told (h x hx)⟩
theorem rs_told {w : Nat} {rs : List (List P2)} (H : Hnd w rs) : Rs 7776 (rs.map msO) (.lst (rs.map toldR)) := ⟨rs.map fun r => (msO r, toldR r), .inl (by rw [List.map_map]; rfl), by rw [List.map_map]; rfl, fun y hy => by
  obtain ⟨r, hr, rfl⟩ := List.mem_map.mp hy
  exact rn_told (H.ok r hr) (.inl rfl)⟩
theorem rs_toldT {w : Nat} {rs : List (List P2)} (H : Hnd w rs) : Rs 7776 (rs.map msO) (.tup (rs.map fun r => .tup (r.map told))) := ⟨rs.map fun r => (msO r, .tup (r.map told)), .inr (by rw [List.map_map]; rfl), by rw [List.map_map]; rfl, fun y hy => by
  obtain ⟨r, hr, rfl⟩ := List.mem_map.mp hy
  exact rn_told (H.ok r hr) (.inr rfl)⟩
theorem msO_ok {w : Nat} {rs : List (List P2)} (H : Hnd w rs) : (∀ r, r ∈ rs.map msO → r.length = w) ∧ ∀ r, r ∈ rs.map msO → BdR r 23 := by
  refine ⟨fun r hr => ?_, fun r hr => ?_⟩
  · obtain ⟨x, hx, rfl⟩ := List.mem_map.mp hr
    show (List.map _ _).length = w
    rw [List.length_map]; exact H.lw x hx
  · obtain ⟨x, hx, rfl⟩ := List.mem_map.mp hr
    intro t ht
    obtain ⟨y, hy, rfl⟩ := List.mem_map.mp ht
    exact (mO_eq (H.ok x hx y hy)).2
theorem vr_ms {r : List P2} (h : ∀ x, x ∈ r → Ok5 x) (j : Nat) : vq (msO r) j = 7776 * vr r j := by
  by_cases c : j < r.length
  · have o := h _ (atp_mem c)
    have e := (mO_eq o).1
    have q := o.pb.q
    have ec : cf (msO r) j = mO (atp r j) := by
      unfold cf
      show ((r.map mO)[j]?).getD 0 = _
      rw [List.getElem?_map, atp_get c]
      rfl
    have e2 : ((atp r j).1 : Rat) * 7776 = (mO (atp r j) : Rat) * ((atp r j).2 : Rat) := by exact_mod_cast e
    show ((cf (msO r) j : Int) : Rat) = 7776 * (((atp r j).1 : Rat) / ((atp r j).2 : Rat))
    rw [ec]
    grind
  · have z : vr r j = 0 := vr_over (by omega)
    have z2 : cf (msO r) j = 0 := cf_over (by show (List.map _ _).length ≤ j; rw [List.length_map]; omega)
    show ((cf (msO r) j : Int) : Rat) = 7776 * vr r j
    rw [z, z2, Rat.intCast_zero]
    grind
theorem sp_ms {w : Nat} {rs : List (List P2)} (H : Hnd w rs) : (∀ r, r ∈ rs → Sp (Rq (rs.map msO)) (vr r)) ∧ ∀ r, r ∈ rs.map msO → Sp (Rv rs) (vq r) := by
  refine ⟨fun r hr => ?_, fun r hr => ?_⟩
  · refine ((Sp.mem (A := Rq (rs.map msO)) ⟨msO r, List.mem_map_of_mem hr, rfl⟩).smul (1 / 7776)).of_eq fun j => ?_
    have := vr_ms (H.ok r hr) j
    grind
  · obtain ⟨x, hx, rfl⟩ := List.mem_map.mp hr
    refine ((Sp.mem (A := Rv rs) ⟨x, hx, rfl⟩).smul 7776).of_eq fun j => ?_
    have := vr_ms (H.ok x hx) j
    grind
end My
namespace My
open PySem PySem.Spec PyProof.Rows L2 ClX Dl PyProof
/-! what is equal to itself -/
theorem p_eqR (a b : Int) : G_Ratio_eq [R a b, R a b] = some (.bl true) := by
  have e1 := eqF_int a a
  have e2 := eqF_int b b
  rw [decide_eq_true rfl] at e1 e2
  refine out1 (d := some (.bl true)) (δ := [.val (R a b), .val (R a b)]) ?_
  have f1 : fBin gEqF (fFld 0 0 (fV 0)) (fFld 0 0 (fV 1)) [.val (R a b), .val (R a b)] = some (.bl true, [.val (R a b), .val (R a b)]) := bin_eq rfl rfl e1
  have f2 : fBin gEqF (fFld 0 1 (fV 0)) (fFld 0 1 (fV 1)) [.val (R a b), .val (R a b)] = some (.bl true, [.val (R a b), .val (R a b)]) := bin_eq rfl rfl e2
  exact and_t rfl (and_t f1 f2)
theorem eq0_self (a b : Int) : eq0 (R a b) (R a b) = some true := by
  have := p_eqR a b
  have e : eqOb 0 G_Ratio_eq (R a b) (R a b) = some true := by
    unfold eqOb
    simp only [and_self, if_true, this]
  have n : eqFl (R a b) (R a b) = none := rfl
  show bOr eqFl (eqOb 0 G_Ratio_eq) (R a b) (R a b) = _
  unfold bOr
  rw [n]
  exact e
theorem eqZ_self {g : D → D → Option Bool} : ∀ xs : List D, (∀ x, x ∈ xs → g x x = some true) → eqZ g xs xs = some true
  | [], _ => rfl
  | x :: xs, h => by
    rw [eqZ, h x (List.mem_cons_self ..), Option.bind_some, eqZ_self xs (fun y hy => h y (List.mem_cons_of_mem _ hy))]
    rfl
theorem eqLs_self {g : D → D → Option Bool} {xs : List D} (h : ∀ x, x ∈ xs → g x x = some true) : eqLs g (.lst xs) (.lst xs) = some true := by
  show (if xs.length = xs.length then eqZ g xs xs else some false) = _
  rw [if_pos rfl]
  exact eqZ_self xs h
theorem bOr_r {g g' : D → D → Option Bool} {x y : D} (h : g x y = none) : bOr g g' x y = g' x y := by simp [bOr, h]
theorem eqT_self (p : Int) (T : List (List Int)) : eqLs eq3 (.lst (T.map (rowR p))) (.lst (T.map (rowR p))) = some true := eqLs_self fun x hx => by
  obtain ⟨r, hr, rfl⟩ := List.mem_map.mp hx
  have e0 : eqLs eq0 (rowR p r) (rowR p r) = some true := eqLs_self fun y hy => by
    obtain ⟨t, ht, rfl⟩ := List.mem_map.mp hy
    exact eq0_self _ _
  have e1 : eq1 (rowR p r) (rowR p r) = some true := (bOr_r rfl).trans e0
  exact bOr_some (bOr_some e1)
theorem gE3_str (t : Str) : gE3 (.str t) (.str t) = some (.bl true) := gOr_l (gOr_l (by simp [gEqF, litV, scal]))
/-! what is led -/
theorem sm_front : ∀ (n : Nat) (f : Nat → Rat), sm (n + 1) f = f 0 + sm n (fun i => f (i + 1))
  | 0, f => by
    show sm 0 f + f 0 = f 0 + sm 0 _
    show (0 : Rat) + f 0 = f 0 + 0
    grind
  | n + 1, f => by
    show sm (n + 1) f + f (n + 1) = f 0 + (sm n (fun i => f (i + 1)) + f (n + 1))
    rw [sm_front n f]
    grind
theorem led_val {a b : Nat} : ∀ (l : List (P2 × P2)) (f : P2) (n : Nat), PB n f → (∀ p, p ∈ l → PB a p.1 ∧ PB b p.2) → ∃ m, PB m (l.foldl (fun f p => sumP f (proP p.1 p.2)) f) ∧ vp (l.foldl (fun f p => sumP f (proP p.1 p.2)) f) = vp f + sm l.length (fun i => vp (l[i]?.getD ((0, 1), (0, 1))).1 * vp (l[i]?.getD ((0, 1), (0, 1))).2)
  | [], f, n, bf, _ => ⟨n, bf, by show vp f = vp f + 0; grind⟩
  | p :: l, f, n, bf, h => by
    obtain ⟨b1, b2⟩ := h p (List.mem_cons_self ..)
    obtain ⟨m, bm, e⟩ := led_val l (sumP f (proP p.1 p.2)) _ (bf.sum (b1.pro b2)) (fun x hx => h x (List.mem_cons_of_mem _ hx))
    refine ⟨m, bm, ?_⟩
    rw [List.foldl_cons, e, vp_sum bf (b1.pro b2), vp_pro b1 b2, List.length_cons, sm_front]
    have z : (fun i => vp ((p :: l)[i + 1]?.getD ((0, 1), (0, 1))).1 * vp ((p :: l)[i + 1]?.getD ((0, 1), (0, 1))).2) = fun i => vp (l[i]?.getD ((0, 1), (0, 1))).1 * vp (l[i]?.getD ((0, 1), (0, 1))).2 := by
      funext i
      rw [List.getElem?_cons_succ]
    rw [z]
    show vp f + vp p.1 * vp p.2 + _ = vp f + (vp p.1 * vp p.2 + _)
    grind
theorem led_dot {r o : List P2} {w a b : Nat} (lr : r.length = w) (lo : o.length = w) (br : PBr a r) (bo : PBr b o) : (∃ m, PB m (ledP r o (0, 1))) ∧ vp (ledP r o (0, 1)) = dot w (vr r) (vr o) := by
  obtain ⟨m, bm, e⟩ := led_val (r.zip o) (0, 1) 1 ⟨bd0, bdOne (by decide), by decide⟩ (fun p hp => ⟨br _ (List.of_mem_zip hp).1, bo _ (List.of_mem_zip hp).2⟩)
  refine ⟨⟨m, bm⟩, ?_⟩
  have lz : (r.zip o).length = w := by rw [List.length_zip, lr, lo, Nat.min_self]
  rw [lz] at e
  have z : vp ((0, 1) : P2) = 0 := by
    show ((0 : Int) : Rat) / ((1 : Int) : Rat) = 0
    rw [Rat.intCast_zero]; grind
  rw [z] at e
  have e2 : sm w (fun i => vp ((r.zip o)[i]?.getD ((0, 1), (0, 1))).1 * vp ((r.zip o)[i]?.getD ((0, 1), (0, 1))).2) = dot w (vr r) (vr o) := sm_congr fun i hi => by
    rw [List.getElem?_zip_eq_some (z := (atp r i, atp o i)) |>.mpr ⟨atp_get (by omega), atp_get (by omega)⟩]
    rfl
  rw [e2] at e
  show vp (List.foldl _ _ _) = _
  rw [e]
  grind
/-! the other rows -/
def sumR (a b : List P2) : List P2 := (a.zip b).map fun p => sumP p.1 p.2
def othR (r0 rl : List P2) (r : List (List P2)) : List (List P2) := r ++ [r0.map (proP (-2, 3))] ++ [sumR r0 rl]
theorem pb23 : PB 2 ((-2, 3) : P2) := ⟨by show (-2 : Int).natAbs < 4; decide, by show (3 : Int).natAbs < 4; decide, by decide⟩
theorem vr_neg {r : List P2} {n : Nat} (b : PBr n r) (j : Nat) : vr (r.map (proP (-2, 3))) j = (-2 / 3) * vr r j := by
  by_cases c : j < r.length
  · have e : atp (r.map (proP (-2, 3))) j = proP (-2, 3) (atp r j) := by
      show (r.map _)[j]?.getD (0, 1) = _
      rw [List.getElem?_map, atp_get c]; rfl
    show vp (atp (r.map (proP (-2, 3))) j) = _
    rw [e, vp_pro pb23 (b.at c)]
    have : vp ((-2, 3) : P2) = -2 / 3 := by
      show ((-2 : Int) : Rat) / ((3 : Int) : Rat) = -2 / 3
      rfl
    rw [this]
  · rw [vr_over (by rw [List.length_map]; omega), vr_over (r := r) (by omega)]
    grind
theorem vr_sum {a b : List P2} {w n m : Nat} (la : a.length = w) (lb : b.length = w) (ba : PBr n a) (bb : PBr m b) (j : Nat) : vr (sumR a b) j = vr a j + vr b j := by
  have ls : (sumR a b).length = w := by unfold sumR; rw [List.length_map, List.length_zip, la, lb, Nat.min_self]
  by_cases c : j < w
  · have e : atp (sumR a b) j = sumP (atp a j) (atp b j) := by
      show ((a.zip b).map _)[j]?.getD (0, 1) = _
      rw [List.getElem?_map, List.getElem?_zip_eq_some (z := (atp a j, atp b j)) |>.mpr ⟨atp_get (by omega), atp_get (by omega)⟩]; rfl
    show vp (atp (sumR a b) j) = _
    rw [e]
    exact vp_sum (ba.at (by omega)) (bb.at (by omega))
  · have z1 : vr (sumR a b) j = 0 := vr_over (by omega)
    have z2 : vr a j = 0 := vr_over (by omega)
    have z3 : vr b j = 0 := vr_over (by omega)
    rw [z1, z2, z3]
    grind
theorem Lv.ok {x : P2} (h : Lv 4 x) : Ok5 x := by
  obtain ⟨b, m, e, hm⟩ := h
  have l : lbB 4 = 77 := by decide
  have q : q6 4 = 7776 := by decide
  have mm : mm6 4 = 5971968 := by decide
  rw [q] at e
  rw [mm] at hm
  exact ⟨b.mono (by rw [l]; decide), m, e, by show m.natAbs < 2 ^ 23; omega⟩
theorem ok_neg {x : P2} (h : Lv 0 x) : Ok5 (proP (-2, 3) x) := by
  obtain ⟨b, m, e, hm⟩ := h
  change x.1 * 6 = m * x.2 at e
  change m.natAbs ≤ 18 at hm
  refine ⟨(pb23.pro b).mono (by show 2 + 2 ≤ 80; decide), -864 * m, ?_, by show (-864 * m).natAbs < 2 ^ 23; omega⟩
  show -2 * x.1 * 7776 = -864 * m * (3 * x.2)
  grind
theorem ok_sum {x y : P2} (h : Lv 0 x) (k : Lv 4 y) : Ok5 (sumP x y) := by
  obtain ⟨b, m, e, hm⟩ := h
  obtain ⟨b', m', e', hm'⟩ := k
  have l : lbB 4 = 77 := by decide
  have q : q6 4 = 7776 := by decide
  have mm : mm6 4 = 5971968 := by decide
  rw [q] at e'
  rw [mm] at hm'
  change x.1 * 6 = m * x.2 at e
  change m.natAbs ≤ 18 at hm
  refine ⟨(b.sum b').mono (by show 2 + lbB 4 + 1 ≤ 80; rw [l]; decide), 1296 * m + m', ?_, by show (1296 * m + m').natAbs < 2 ^ 23; omega⟩
  show (x.1 * y.2 + y.1 * x.2) * 7776 = (1296 * m + m') * (x.2 * y.2)
  have x1 : x.1 * y.2 * 7776 = 1296 * (x.1 * 6) * y.2 := by grind
  have x2 : y.1 * x.2 * 7776 = (y.1 * 7776) * x.2 := by grind
  rw [Int.add_mul, x1, x2, e, e']
  grind
end My
namespace My
open PySem PySem.Spec PyProof.Rows L2 ClX Dl PyProof
/-! the law's walk -/
abbrev JJ (l : List D) (a1 a2 a3 a4 a5 a6 a7 a8 a9 a10 a11 : Sl) : Es := [.own .pot l, a1, a2, a3, a4, a5, a6, a7, a8, a9, a10, a11, .un, .un, .un]
def r1 : FS := sPar 1 2 (fCons (fBin gAdd0 (fC (.int 1)) (fCallP 0 G_law_draw (fCons (fC (.int 5)) fNil))) (fCons (fCallP 0 G_law_draw (fCons (fC (.int 6)) fNil)) fNil))
def r2 : FS := sSet 3 (fCallP 0 G_law_rows (fCons (fV 2) (fCons (fV 1) fNil)))
def r3 : FS := sSet 4 (fCall G_law_all_told (gPos []) (fCons (fV 3) fNil) fNil)
def r4 : FS := sSet 5 (fFun (funRp rp2) (fCons (fV 4) fNil))
def r5 : FS := sSet 6 (fCall G_steps (gPos []) (fCons (fV 4) fNil) fNil)
def r6 : FS := sSet 7 (fCall G_law_bare (gPos []) (fCons (fV 6) fNil) fNil)
def r7 : FS := sIf (fOr (fNot (fB (fFun funAll (fCons (fFr (fLc (fSq (fV 6)) (gN 11) fYes (fCall G_law_are_ratios (gPos []) (fCons (fV 11) fNil) fNil) [11])) fNil)))) (fNot (fB (fCall G_law_is_in_steps (gPos []) (fCons (fV 7) fNil) fNil)))) (sRet (fC (.bl false))) sNil
def r8 : FS := sIf (fOr (fB (fBin gN3 (fFr (fLc (fSq (fV 3)) (gN 11) (fNot (fB (fCall G_law_is_nought (gPos []) (fCons (fCall G_law_taken_off (gPos []) (fCons (fV 11) (fCons (fV 7) fNil)) fNil) fNil) fNil))) (fV 11) [11])) (fFr (fLst fNil)))) (fB (fBin gN3 (fLenN 7) (fCall G_law_free (gPos []) (fCons (fV 3) fNil) fNil)))) (sRet (fC (.bl false))) sNil
def r9a : FS := sOwn 8 (fBinF gCatF (fFr (fSlice (fV 3) (fPart (fC (.int 1))) fNoPart)) (fFr (fLst (fCons (fFr (fLc (fSq (fIxN 3 (fC (.int 0)))) (gN 12) fYes (fCall G_law_product (gPos []) (fCons (fTup (fCons (fBin (gI0 fun i j => .int (i - j)) (fC (.int 0)) (fC (.int 2))) (fCons (fC (.int 3)) fNil))) (fCons (fV 12) fNil)) fNil) [12])) fNil))))
def r9b : FS := sApp 8 (fFr (fLc (fZip (fCons (fIxN 3 (fC (.int 0))) (fCons (fIxN 3 (fUn gNeg (fC (.int 1)))) fNil))) (gT 2 (gsCons (gN 13) (gsCons (gN 14) gsNil))) fYes (fCall G_law_sum (gPos []) (fCons (fV 13) (fCons (fV 14) fNil)) fNil) [13, 14]))
def r9c : FS := sIf (fB (fBin gN3 (fCall G_steps (gPos []) fNil (fCons (fFun funTup (fCons (fFr (fLc (fSq (fCall G_law_all_told (gPos []) (fCons (fV 8) fNil) fNil)) (gN 11) fYes (fFun funTup (fCons (fV 11) fNil)) [11])) fNil)) fNil)) (fV 6))) (sRet (fC (.bl false))) sNil
def r9 : FS := sIf (fB (fBin (gI0 fun i j => .bl (decide (j < i))) (fV 2) (fC (.int 0)))) (sSeq r9a (sSeq r9b r9c)) sNil
def r10 : FS := sSet 9 (fCall G_kernel (gPos []) (fCons (fV 4) (fCons (fV 1) fNil)) fNil)
def r11 : FS := sSet 10 (fCall G_law_bare (gPos []) (fCons (fV 9) fNil) fNil)
def r12 : FS := sIf (fOr (fNot (fB (fCall G_law_is_in_steps (gPos []) (fCons (fV 10) fNil) fNil))) (fB (fBin gN3 (fBin gAdd0 (fLenN 10) (fLenN 7)) (fV 1)))) (sRet (fC (.bl false))) sNil
def r13b : FS := sIf (fB (fBin gN3 (fFr (fLc (fSq (fV 10)) (gN 13) (fB (fBin gN3 (fBin gIx (fCall G_law_led (gPos []) (fCons (fV 11) (fCons (fV 13) fNil)) fNil) (fC (.int 0))) (fC (.int 0)))) (fC (.int 1)) [13])) (fFr (fLst fNil)))) (sRet (fC (.bl false))) sNil
def r13 : FS := sFor (fSq (fV 3)) (gN 11) r13b
def r14 : FS := sRet (fAndV (fBin gE3 (fCall G_kernel (gPos []) fNil (fCons (fV 9) (fCons (fV 1) fNil))) (fV 6)) (fAndV (fBin gE3 (fCall G_steps (gPos []) (fCons (fV 6) fNil) fNil) (fV 6)) (fBin gE3 (fFun (funRp rp2) (fCons (fV 4) fNil)) (fV 5))))
theorem right_is : g_law_right = sSeq r1 (sSeq r2 (sSeq r3 (sSeq r4 (sSeq r5 (sSeq r6 (sSeq r7 (sSeq r8 (sSeq r9 (sSeq r10 (sSeq r11 (sSeq r12 (sSeq r13 r14)))))))))))) := rfl
abbrev U : Sl := .un
theorem y1 {l : List D} (P : Pot l) : ∃ (w m : Nat) (l' : List D), r1 (JJ l U U U U U U U U U U U) = some (.nx (JJ l' (.val (.int (w : Int))) (.val (.int (m : Int))) U U U U U U U U U)) ∧ 1 ≤ w ∧ w ≤ 5 ∧ m ≤ 5 ∧ Pot l' := by
  obtain ⟨d1, l1, e1, a1, b1, P1⟩ := p_draw (n := 5) P (by decide) (bd_of 64 (by decide) (by decide) (by decide))
  obtain ⟨d2, l2, e2, a2, b2, P2⟩ := p_draw (n := 6) P1 (by decide) (bd_of 64 (by decide) (by decide) (by decide))
  refine ⟨(1 + d1).toNat, d2.toNat, l2, ?_, by omega, by omega, by omega, P2⟩
  have q1 : (((1 + d1).toNat : Nat) : Int) = 1 + d1 := by omega
  have q2 : ((d2.toNat : Nat) : Int) = d2 := by omega
  rw [q1, q2]
  have c1 : fCallP 0 G_law_draw (fCons (fC (.int 5)) fNil) (JJ l U U U U U U U U U U U) = some (.int d1, JJ l1 U U U U U U U U U U U) := callP_eq rfl e1
  have c2 : fCallP 0 G_law_draw (fCons (fC (.int 6)) fNil) (JJ l1 U U U U U U U U U U U) = some (.int d2, JJ l2 U U U U U U U U U U U) := callP_eq rfl e2
  have c3 : fBin gAdd0 (fC (.int 1)) (fCallP 0 G_law_draw (fCons (fC (.int 5)) fNil)) (JJ l U U U U U U U U U U U) = some (.int (1 + d1), JJ l1 U U U U U U U U U U U) := bin_eq rfl c1 (add0_int _ _)
  exact par_eq (cons2 c3 c2)
theorem y2 {l : List D} {w m : Nat} (P : Pot l) (hw : w ≤ 5) (hm : m ≤ 5) : ∃ (rs : List (List P2)) (l' : List D), r2 (JJ l (.val (.int (w : Int))) (.val (.int (m : Int))) U U U U U U U U U) = some (.nx (JJ l' (.val (.int (w : Int))) (.val (.int (m : Int))) (.val (encRR rs)) U U U U U U U U)) ∧ rs.length = m ∧ Fd w rs := by
  obtain ⟨rs, l', e, n, F, _⟩ := p_rows P (show w ≤ 1000 by omega) hm
  refine ⟨rs, l', ?_, n, F⟩
  have c : fCallP 0 G_law_rows (fCons (fV 2) (fCons (fV 1) fNil)) (JJ l (.val (.int (w : Int))) (.val (.int (m : Int))) U U U U U U U U U) = some (encRR rs, JJ l' (.val (.int (w : Int))) (.val (.int (m : Int))) U U U U U U U U U) := callP_eq rfl e
  exact set_eq c
theorem Fd.lv4 {w : Nat} {rs : List (List P2)} (F : Fd w rs) (hl : rs.length ≤ 5) {r : List P2} (hr : r ∈ rs) : ∀ x, x ∈ r → Lv 4 x := fun x hx => ((F.all r hr).2 x hx).to (by omega)
theorem Fd.hnd {w : Nat} {rs : List (List P2)} (F : Fd w rs) (hl : rs.length ≤ 5) : Hnd w rs := ⟨by omega, fun r hr => (F.all r hr).1, fun r hr x hx => (F.lv4 hl hr x hx).ok⟩
theorem y3 {l : List D} {a1 a2 a4 a5 a6 a7 a8 a9 a10 a11 : Sl} {w : Nat} {rs : List (List P2)} (H : Hnd w rs) (hw : w ≤ 5) : r3 (JJ l a1 a2 (.val (encRR rs)) a4 a5 a6 a7 a8 a9 a10 a11) = some (.nx (JJ l a1 a2 (.val (encRR rs)) (.val (.lst (rs.map toldR))) a5 a6 a7 a8 a9 a10 a11)) := set_eq (call1 rfl (p_all_told H (by omega)))
theorem handed_txt {w : Nat} {rs : List (List P2)} (H : Hnd w rs) (hw : w ≤ 5) : ∃ t, funRp rp2 [.lst (rs.map toldR)] = some (.str t) := by
  have := rows_txt (Rw := rs.map fun r => r.map told) (by rw [List.length_map]; exact H.ln) (fun ds hd => by
    obtain ⟨r, hr, rfl⟩ := List.mem_map.mp hd
    rw [List.length_map, H.lw r hr]; exact hw) (fun ds hd x hx => by
    obtain ⟨r, hr, rfl⟩ := List.mem_map.mp hd
    obtain ⟨y, hy, rfl⟩ := List.mem_map.mp hx
    exact elt_told (H.ok r hr y hy))
  rw [List.map_map] at this
  exact this
theorem y4 {l : List D} {a1 a2 a3 a5 a6 a7 a8 a9 a10 a11 : Sl} {hd : D} {t : Str} (h : funRp rp2 [hd] = some (.str t)) : r4 (JJ l a1 a2 a3 (.val hd) a5 a6 a7 a8 a9 a10 a11) = some (.nx (JJ l a1 a2 a3 (.val hd) (.val (.str t)) a6 a7 a8 a9 a10 a11)) := by
  have f : fFun (funRp rp2) (fCons (fV 4) fNil) (JJ l a1 a2 a3 (.val hd) a5 a6 a7 a8 a9 a10 a11) = some (.str t, JJ l a1 a2 a3 (.val hd) a5 a6 a7 a8 a9 a10 a11) := fun_eq rfl h
  exact set_eq f
theorem y5 {l : List D} {a1 a2 a3 a5 a6 a7 a8 a9 a10 a11 : Sl} {hd d : D} (h : G_steps [hd] = some d) : r5 (JJ l a1 a2 a3 (.val hd) a5 a6 a7 a8 a9 a10 a11) = some (.nx (JJ l a1 a2 a3 (.val hd) a5 (.val d) a7 a8 a9 a10 a11)) := set_eq (call1 rfl h)
theorem y6 {l : List D} {a1 a2 a3 a4 a5 a7 a8 a9 a10 a11 : Sl} {hd d : D} (h : G_law_bare [hd] = some d) : r6 (JJ l a1 a2 a3 a4 a5 (.val hd) a7 a8 a9 a10 a11) = some (.nx (JJ l a1 a2 a3 a4 a5 (.val hd) (.val d) a8 a9 a10 a11)) := set_eq (call1 rfl h)
section
variable {l : List D} {a1 a2 a3 a4 a5 a6 a7 a8 a9 a10 a11 : Sl} {w b : Nat} {rs : List (List P2)} {T : List (List Int)} {p : Int} {h : Nat → Nat}
theorem y7 {A : List (List Int)} (S : Stp w b A T p h) (hw : w ≤ 5) (hb : b ≤ 383) : r7 (JJ l a1 a2 a3 a4 a5 (.val (.lst (T.map (rowR p)))) (.val (encRR (T.map (bareR p)))) a8 a9 a10 U) = some (.nx (JJ l a1 a2 a3 a4 a5 (.val (.lst (T.map (rowR p)))) (.val (encRR (T.map (bareR p)))) a8 a9 a10 U)) := by
  have kw := S.kw
  have m := fr_eq (flc_map (δ0 := JJ l a1 a2 a3 a4 a5 (.val (.lst (T.map (rowR p)))) (.val (encRR (T.map (bareR p)))) a8 a9 a10 U) (fI := fSq (fV 6)) (ft := gN 11) (fe := fCall G_law_are_ratios (gPos []) (fCons (fV 11) fNil) fNil) (vs := [11]) (f := rowR p) (g := fun _ => D.bl true) (l := T) rfl rfl (by unfold big; omega) fun r hr => ⟨JJ l a1 a2 a3 a4 a5 (.val (.lst (T.map (rowR p)))) (.val (encRR (T.map (bareR p)))) a8 a9 a10 (.val (rowR p r)), rfl, call1 rfl (p_are_ratios (by rw [S.lw r hr]; omega)), rfl⟩)
  have c1 := not_f (fB_eq (fun_eq m (all_trueM T)))
  have i := p_steps_in S.lw (show w ≤ 1000 by omega) (by omega) S.pz S.hw S.st S.bd S.bp (by omega)
  have c2 : fNot (fB (fCall G_law_is_in_steps (gPos []) (fCons (fV 7) fNil) fNil)) (JJ l a1 a2 a3 a4 a5 (.val (.lst (T.map (rowR p)))) (.val (encRR (T.map (bareR p)))) a8 a9 a10 U) = some (false, JJ l a1 a2 a3 a4 a5 (.val (.lst (T.map (rowR p)))) (.val (encRR (T.map (bareR p)))) a8 a9 a10 U) := not_f (fB_eq (call1 rfl i))
  exact sIf_f ((or_f c1).trans c2)
theorem Hnd.pb (H : Hnd w rs) {r : List P2} (hr : r ∈ rs) : PBr 80 r := fun x hx => (H.ok r hr x hx).pb
theorem y8 (H : Hnd w rs) (hn : rs.length ≤ 5) (S : Stp w b (rs.map msO) T p h) (hw : w ≤ 5) (hb : b ≤ 383) : r8 (JJ l a1 a2 (.val (encRR rs)) a4 a5 a6 (.val (encRR (T.map (bareR p)))) a8 a9 a10 U) = some (.nx (JJ l a1 a2 (.val (encRR rs)) a4 a5 a6 (.val (encRR (T.map (bareR p)))) a8 a9 a10 U)) := by
  have kw := S.kw
  have sp := sp_ms H
  have os : ∀ o, o ∈ T.map (bareR p) → o.length = w ∧ hdP o < w ∧ PBr b o := fun o ho => by
    obtain ⟨x, hx, rfl⟩ := List.mem_map.mp ho
    obtain ⟨i, hi, e⟩ := List.mem_iff_getElem.mp hx
    have e2 : rw' T i = x := by show T[i]?.getD [] = x; rw [List.getElem?_eq_getElem hi, e]; rfl
    have hd := bare_hd S.lw S.pz S.hw S.st S.bd S.bp hi
    rw [e2] at hd
    exact ⟨by show (List.map _ _).length = w; rw [List.length_map]; exact S.lw x hx, by rw [hd]; exact S.hw i hi, bare_pb S.pz S.bp (S.bd x hx)⟩
  have tk : ∀ r, r ∈ rs → G_law_taken_off [encR r, encRR (T.map (bareR p))] = some (encR ((T.map (bareR p)).foldl offP r)) := fun r hr => by
    refine p_taken (n := 80) (m := b) (show w ≤ 1000 by omega) (by omega) (H.lw r hr) (H.pb hr) ?_ os
    rw [List.length_map]
    have h1 : 2 ^ T.length ≤ 2 ^ 5 := Nat.pow_le_pow_right (by decide) (by omega)
    have h2 : (80 + 2 * b + 1) * 2 ^ T.length ≤ 847 * 2 ^ 5 := Nat.mul_le_mul (by omega) h1
    exact Nat.le_trans h2 (by decide)
  have nz : ∀ r, r ∈ rs → nouP ((T.map (bareR p)).foldl offP r) = true := fun r hr => by
    have := taken_zero S.lw S.pz S.hw S.st S.bd S.bp T.length 0 r 80 (by omega) (H.lw r hr) (H.pb hr) ((sp.1 r hr).mono (by rintro v ⟨x, hx, rfl⟩; exact S.s2 x hx)) (fun j hj => absurd hj (Nat.not_lt_zero _))
    rw [List.drop_zero] at this
    exact this
  have ll : ∀ (os : List (List P2)) (r : List P2), r.length = w → (∀ o, o ∈ os → o.length = w) → (os.foldl offP r).length = w := by
    intro os
    induction os with
    | nil => intro r lr _; exact lr
    | cons o os ih => intro r lr ho; exact ih _ (off_len lr (ho o (List.mem_cons_self ..))) (fun x hx => ho x (List.mem_cons_of_mem _ hx))
  have m := fr_eq (flc_filt (δ0 := JJ l a1 a2 (.val (encRR rs)) a4 a5 a6 (.val (encRR (T.map (bareR p)))) a8 a9 a10 U) (fI := fSq (fV 3)) (ft := gN 11) (fc := fNot (fB (fCall G_law_is_nought (gPos []) (fCons (fCall G_law_taken_off (gPos []) (fCons (fV 11) (fCons (fV 7) fNil)) fNil) fNil) fNil))) (fe := fV 11) (vs := [11]) (f := encR) (c := fun _ => false) (g := encR) (l := rs) rfl rfl (by unfold big; omega) fun r hr => ⟨JJ l a1 a2 (.val (encRR rs)) a4 a5 a6 (.val (encRR (T.map (bareR p)))) a8 a9 a10 (.val (encR r)), rfl, by
    have q := p_nought (r := (T.map (bareR p)).foldl offP r) (by rw [ll _ r (H.lw r hr) (fun o ho => (os o ho).1)]; omega)
    rw [nz r hr] at q
    exact not_f (fB_eq (call1 (call2 rfl rfl (tk r hr)) q)), fun z => (by cases z), rfl⟩)
  rw [List.filter_eq_nil_iff.mpr (fun _ _ => by simp)] at m
  have c1 : fB (fBin gN3 (fFr (fLc (fSq (fV 3)) (gN 11) (fNot (fB (fCall G_law_is_nought (gPos []) (fCons (fCall G_law_taken_off (gPos []) (fCons (fV 11) (fCons (fV 7) fNil)) fNil) fNil) fNil))) (fV 11) [11])) (fFr (fLst fNil))) (JJ l a1 a2 (.val (encRR rs)) a4 a5 a6 (.val (encRR (T.map (bareR p)))) a8 a9 a10 U) = some (false, JJ l a1 a2 (.val (encRR rs)) a4 a5 a6 (.val (encRR (T.map (bareR p)))) a8 a9 a10 U) := fB_eq (bin_eq m rfl (gN3_lst (eqLs_nil [])))
  have fc := free_count S (fun r hr => ⟨H.lw r hr, H.pb hr⟩) sp.1 sp.2
  have f := p_free (rs := rs) (w := w) (by omega) hn (fun r hr => ⟨H.lw r hr, H.pb hr⟩)
  rw [fc] at f
  have ln : fLenN 7 (JJ l a1 a2 (.val (encRR rs)) a4 a5 a6 (.val (encRR (T.map (bareR p)))) a8 a9 a10 U) = some (.int (T.length : Int), JJ l a1 a2 (.val (encRR rs)) a4 a5 a6 (.val (encRR (T.map (bareR p)))) a8 a9 a10 U) := by
    have : fLenN 7 (JJ l a1 a2 (.val (encRR rs)) a4 a5 a6 (.val (encRR (T.map (bareR p)))) a8 a9 a10 U) = some (.int (((T.map (bareR p)).map encR).length : Int), JJ l a1 a2 (.val (encRR rs)) a4 a5 a6 (.val (encRR (T.map (bareR p)))) a8 a9 a10 U) := rfl
    rw [this, List.length_map, List.length_map]
  have g := gN3_int (T.length : Int) (T.length : Int)
  rw [decide_eq_true rfl] at g
  have c2 : fB (fBin gN3 (fLenN 7) (fCall G_law_free (gPos []) (fCons (fV 3) fNil) fNil)) (JJ l a1 a2 (.val (encRR rs)) a4 a5 a6 (.val (encRR (T.map (bareR p)))) a8 a9 a10 U) = some (false, JJ l a1 a2 (.val (encRR rs)) a4 a5 a6 (.val (encRR (T.map (bareR p)))) a8 a9 a10 U) := fB_eq (bin_eq ln (call1 rfl f) g)
  exact sIf_f ((or_f c1).trans c2)
end
end My
namespace My
open PySem PySem.Spec PyProof.Rows L2 ClX Dl PyProof
theorem callKw1 {F : List D → Option D} {fa : FE} {δ δ1 : Es} {a r : D} (ha : fa δ = some (a, δ1)) (hF : F [a] = some r) : fCall F (gPos []) fNil (fCons fa fNil) δ = some (r, δ1) := by
  simp only [fCall, fCons, fNil, ha, Option.bind_some]
  show (F [a]).map _ = _
  rw [hF]; rfl
theorem callKw2 {F : List D → Option D} {fa fb : FE} {δ : Es} {a b r : D} (ha : fa δ = some (a, δ)) (hb : fb δ = some (b, δ)) (hF : F [a, b] = some r) : fCall F (gPos []) fNil (fCons fa (fCons fb fNil)) δ = some (r, δ) := by
  simp only [fCall, fCons, fNil, ha, hb, Option.bind_some]
  show (F [a, b]).map _ = _
  rw [hF]; rfl
/-- the other rows make the same -/
theorem oth_span {w : Nat} {r0 rl : List P2} {rest : List (List P2)} (H : Hnd w (r0 :: rest)) (hl : rl ∈ r0 :: rest) : (∀ x, x ∈ r0 :: rest → Sp (Rv (othR r0 rl rest)) (vr x)) ∧ ∀ y, y ∈ othR r0 rl rest → Sp (Rv (r0 :: rest)) (vr y) := by
  have h0 : r0 ∈ r0 :: rest := List.mem_cons_self ..
  have b0 := H.pb h0
  have bl := H.pb hl
  refine ⟨fun x hx => ?_, fun y hy => ?_⟩
  · rcases List.mem_cons.mp hx with rfl | hx
    · refine ((Sp.mem (A := Rv (othR x rl rest)) ⟨x.map (proP (-2, 3)), by unfold othR; simp, rfl⟩).smul (-3 / 2)).of_eq fun j => ?_
      rw [vr_neg b0 j]
      grind
    · exact Sp.mem ⟨x, by unfold othR; simp [hx], rfl⟩
  · unfold othR at hy
    rcases List.mem_append.mp hy with hy | hy
    · rcases List.mem_append.mp hy with hy | hy
      · exact Sp.mem ⟨y, List.mem_cons_of_mem _ hy, rfl⟩
      · rw [List.mem_singleton.mp hy]
        exact ((Sp.mem (A := Rv (r0 :: rest)) ⟨r0, h0, rfl⟩).smul (-2 / 3)).of_eq fun j => (vr_neg b0 j).symm
    · rw [List.mem_singleton.mp hy]
      exact ((Sp.mem (A := Rv (r0 :: rest)) ⟨r0, h0, rfl⟩).add (Sp.mem (A := Rv (r0 :: rest)) ⟨rl, hl, rfl⟩)).of_eq fun j => (vr_sum (H.lw _ h0) (H.lw _ hl) b0 bl j).symm
theorem oth_hnd {w : Nat} {r0 rl : List P2} {rest : List (List P2)} (F : Fd w (r0 :: rest)) (hn : (r0 :: rest).length ≤ 5) (hl : rl ∈ r0 :: rest) : Hnd w (othR r0 rl rest) := by
  have H := F.hnd hn
  have h0 : r0 ∈ r0 :: rest := List.mem_cons_self ..
  have z := F.one r0 rfl
  rw [List.length_cons] at hn
  refine ⟨by unfold othR; simp; omega, fun r hr => ?_, fun r hr => ?_⟩
  · unfold othR at hr
    rcases List.mem_append.mp hr with hr | hr
    · rcases List.mem_append.mp hr with hr | hr
      · exact H.lw r (List.mem_cons_of_mem _ hr)
      · rw [List.mem_singleton.mp hr, List.length_map]; exact H.lw r0 h0
    · rw [List.mem_singleton.mp hr]
      unfold sumR
      rw [List.length_map, List.length_zip, H.lw r0 h0, H.lw rl hl, Nat.min_self]
  · unfold othR at hr
    rcases List.mem_append.mp hr with hr | hr
    · rcases List.mem_append.mp hr with hr | hr
      · exact H.ok r (List.mem_cons_of_mem _ hr)
      · rw [List.mem_singleton.mp hr]
        intro x hx
        obtain ⟨y, hy, rfl⟩ := List.mem_map.mp hx
        exact ok_neg (z y hy)
    · rw [List.mem_singleton.mp hr]
      intro x hx
      obtain ⟨q, hq, rfl⟩ := List.mem_map.mp hx
      exact ok_sum (z _ (List.of_mem_zip hq).1) (F.lv4 (by simpa using hn) hl _ (List.of_mem_zip hq).2)
theorem last_ex {α : Type} : ∀ (l : List α), l ≠ [] → ∃ i x, l = i ++ [x]
  | [], h => absurd rfl h
  | [x], _ => ⟨[], x, rfl⟩
  | x :: y :: l, _ => by
    obtain ⟨i, z, e⟩ := last_ex (y :: l) (by simp)
    exact ⟨x :: i, z, by rw [e]; rfl⟩
section
variable {l : List D} {a1 a2 a3 a4 a5 a6 a7 a8 a9 a10 a11 : Sl} {w b m : Nat} {rs : List (List P2)} {T : List (List Int)} {p : Int} {h : Nat → Nat}
theorem b383 {w : Nat} (hw : w ≤ 5) : bt 23 (w - 1) ≤ 383 := by
  have := bt_le 23 (show w - 1 ≤ 4 by omega)
  have e : bt 23 4 = 383 := by decide
  omega
theorem y9 (F : Fd w rs) (hn : rs.length ≤ 5) (S : Stp w b (rs.map msO) T p h) (h0 : 1 ≤ w) (hw : w ≤ 5) : ∃ a8', r9 (JJ l a1 (.val (.int (rs.length : Int))) (.val (encRR rs)) a4 a5 (.val (.lst (T.map (rowR p)))) a7 U U U U) = some (.nx (JJ l a1 (.val (.int (rs.length : Int))) (.val (encRR rs)) a4 a5 (.val (.lst (T.map (rowR p)))) a7 a8' U U U)) := by
  have t1 : fB (fBin (gI0 fun i j => .bl (decide (j < i))) (fV 2) (fC (.int 0))) (JJ l a1 (.val (.int (rs.length : Int))) (.val (encRR rs)) a4 a5 (.val (.lst (T.map (rowR p)))) a7 U U U U) = some (decide ((0 : Int) < (rs.length : Int)), JJ l a1 (.val (.int (rs.length : Int))) (.val (encRR rs)) a4 a5 (.val (.lst (T.map (rowR p)))) a7 U U U U) := rfl
  cases hrs : rs with
  | nil =>
    rw [hrs] at t1
    exact ⟨U, sIf_f t1⟩
  | cons r0 rest =>
    rw [← hrs]
    rw [decide_eq_true (by rw [hrs]; simp)] at t1
    obtain ⟨ini', rl, el⟩ := last_ex rs (by rw [hrs]; simp)
    have hl : rl ∈ rs := by rw [el]; simp
    have hm0 : r0 ∈ rs := by rw [hrs]; simp
    have H := F.hnd hn
    rw [hrs] at F hn hl
    have H' := oth_hnd F hn hl
    have os := oth_span (F.hnd hn) hl
    rw [← hrs] at F hn hl os
    have l0 := H.lw r0 hm0
    have ll := H.lw rl hl
    have lrest : rest.length ≤ 4 := by rw [hrs, List.length_cons] at hn; omega
    have z0 := fun x hx => (F.one r0 (by rw [hrs]; rfl) x hx).1
    have i0 : ∀ {s7 s8 s11 s12 s13 s14 : Sl}, fIxN 3 (fC (.int 0)) [.own .pot l, a1, .val (.int (rs.length : Int)), .val (encRR rs), a4, a5, .val (.lst (T.map (rowR p))), s7, s8, U, U, s11, s12, s13, s14] = some (encR r0, [.own .pot l, a1, .val (.int (rs.length : Int)), .val (encRR rs), a4, a5, .val (.lst (T.map (rowR p))), s7, s8, U, U, s11, s12, s13, s14]) := fun {_ _ _ _ _ _} => ixN_val rfl rfl (by rw [hrs]; exact sq_ix0 (.inl rfl))
    have iL : ∀ {s7 s8 : Sl}, fIxN 3 (fUn gNeg (fC (.int 1))) (JJ l a1 (.val (.int (rs.length : Int))) (.val (encRR rs)) a4 a5 (.val (.lst (T.map (rowR p)))) s7 s8 U U U) = some (encR rl, JJ l a1 (.val (.int (rs.length : Int))) (.val (encRR rs)) a4 a5 (.val (.lst (T.map (rowR p)))) s7 s8 U U U) := fun {_ _} => ixN_val rfl rfl (by
      show atI (rs.map encR) (-1) = _
      rw [el, List.map_append]
      exact at_last1 _ _)
    have sl : fSlice (fV 3) (fPart (fC (.int 1))) fNoPart (JJ l a1 (.val (.int (rs.length : Int))) (.val (encRR rs)) a4 a5 (.val (.lst (T.map (rowR p)))) a7 U U U U) = some (rest.map encR, JJ l a1 (.val (.int (rs.length : Int))) (.val (encRR rs)) a4 a5 (.val (.lst (T.map (rowR p)))) a7 U U U U) := by
      show some (Dl.cutD (rs.map encR) (some 1) none, _) = _
      rw [cut_drop1, hrs]
      rfl
    have mN := fr_eq (flc_map (fI := fSq (fIxN 3 (fC (.int 0)))) (ft := gN 12) (fe := fCall G_law_product (gPos []) (fCons (fTup (fCons (fBin (gI0 fun i j => .int (i - j)) (fC (.int 0)) (fC (.int 2))) (fCons (fC (.int 3)) fNil))) (fCons (fV 12) fNil)) fNil) (vs := [12]) (f := encp) (g := fun x => encp (proP (-2, 3) x)) (l := r0) (δ0 := JJ l a1 (.val (.int (rs.length : Int))) (.val (encRR rs)) a4 a5 (.val (.lst (T.map (rowR p)))) a7 U U U U) (sq_eq i0) rfl (by rw [l0]; unfold big; omega) fun x hx => ⟨[.own .pot l, a1, .val (.int (rs.length : Int)), .val (encRR rs), a4, a5, .val (.lst (T.map (rowR p))), a7, U, U, U, U, .val (encp x), U, U], rfl, by
      have tq : fTup (fCons (fBin (gI0 fun i j => .int (i - j)) (fC (.int 0)) (fC (.int 2))) (fCons (fC (.int 3)) fNil)) [.own .pot l, a1, .val (.int (rs.length : Int)), .val (encRR rs), a4, a5, .val (.lst (T.map (rowR p))), a7, U, U, U, U, .val (encp x), U, U] = some (encp (-2, 3), [.own .pot l, a1, .val (.int (rs.length : Int)), .val (encRR rs), a4, a5, .val (.lst (T.map (rowR p))), a7, U, U, U, U, .val (encp x), U, U]) := tup_eq (cons2 rfl rfl) (by show 2 ≤ big; decide)
      exact call2 tq rfl (p_pro (pb23.mono (by decide)) ((z0 x hx).mono (by decide))), rfl⟩)
    have eN : D.lst (r0.map fun x => encp (proP (-2, 3) x)) = encR (r0.map (proP (-2, 3))) := by
      show _ = D.lst ((r0.map _).map encp)
      rw [List.map_map]; rfl
    rw [eN] at mN
    have gc : gCatF (.lst (rest.map encR)) (.lst [encR (r0.map (proP (-2, 3)))]) = some (rest.map encR ++ [encR (r0.map (proP (-2, 3)))]) := by
      show (if (rest.map encR).length + 1 ≤ big then some _ else none) = _
      rw [if_pos (by rw [List.length_map]; unfold big; omega)]
    have bF := binF_eq (g := gCatF) (fr_eq sl) (lst1 mN) gc
    have c1 := own_eq (i := 8) bF
    simp only [List.set_cons_succ, List.set_cons_zero] at c1
    have zz : fZip (fCons (fIxN 3 (fC (.int 0))) (fCons (fIxN 3 (fUn gNeg (fC (.int 1)))) fNil)) (JJ l a1 (.val (.int (rs.length : Int))) (.val (encRR rs)) a4 a5 (.val (.lst (T.map (rowR p)))) a7 (.own .mine (rest.map encR ++ [encR (r0.map (proP (-2, 3)))])) U U U) = some ((r0.zip rl).map fun q => .tup [encp q.1, encp q.2], JJ l a1 (.val (.int (rs.length : Int))) (.val (encRR rs)) a4 a5 (.val (.lst (T.map (rowR p)))) a7 (.own .mine (rest.map encR ++ [encR (r0.map (proP (-2, 3)))])) U U U) := by
      rw [← pairs_zip encp encp r0 rl, fZip, cons2 i0 iL, Option.bind_some]
    have lz : (r0.zip rl).length ≤ big := by rw [List.length_zip, l0, ll]; unfold big; omega
    have mS := fr_eq (flc_map (ft := gT 2 (gsCons (gN 13) (gsCons (gN 14) gsNil))) (fe := fCall G_law_sum (gPos []) (fCons (fV 13) (fCons (fV 14) fNil)) fNil) (vs := [13, 14]) (g := fun q => encp (sumP q.1 q.2)) zz rfl lz fun q hq => ⟨[.own .pot l, a1, .val (.int (rs.length : Int)), .val (encRR rs), a4, a5, .val (.lst (T.map (rowR p))), a7, .own .mine (rest.map encR ++ [encR (r0.map (proP (-2, 3)))]), U, U, U, U, .val (encp q.1), .val (encp q.2)], rfl, call2 rfl rfl (p_sum ((z0 _ (List.of_mem_zip hq).1).mono (by decide)) ((H.pb hl _ (List.of_mem_zip hq).2).mono (by decide))), rfl⟩)
    have eS : D.lst ((r0.zip rl).map fun q => encp (sumP q.1 q.2)) = encR (sumR r0 rl) := by
      show _ = D.lst (((r0.zip rl).map _).map encp)
      rw [List.map_map]; rfl
    rw [eS] at mS
    have c2 := app_eq (i := 8) (acc0 := rest.map encR ++ [encR (r0.map (proP (-2, 3)))]) (acc := rest.map encR ++ [encR (r0.map (proP (-2, 3)))]) rfl mS rfl (by rw [List.length_append, List.length_map, List.length_singleton]; unfold big; omega)
    simp only [List.set_cons_succ, List.set_cons_zero] at c2
    have eO : rest.map encR ++ [encR (r0.map (proP (-2, 3)))] ++ [encR (sumR r0 rl)] = (othR r0 rl rest).map encR := by unfold othR; simp
    rw [eO] at c2
    have at' : fCall G_law_all_told (gPos []) (fCons (fV 8) fNil) fNil (JJ l a1 (.val (.int (rs.length : Int))) (.val (encRR rs)) a4 a5 (.val (.lst (T.map (rowR p)))) a7 (.own .mine ((othR r0 rl rest).map encR)) U U U) = some (.lst ((othR r0 rl rest).map toldR), JJ l a1 (.val (.int (rs.length : Int))) (.val (encRR rs)) a4 a5 (.val (.lst (T.map (rowR p)))) a7 (.val (encRR (othR r0 rl rest))) U U U) := by
      have k := p_all_told H' (by omega)
      rw [fCall, cons1 (d := encRR (othR r0 rl rest)) (δ1 := JJ l a1 (.val (.int (rs.length : Int))) (.val (encRR rs)) a4 a5 (.val (.lst (T.map (rowR p)))) a7 (.val (encRR (othR r0 rl rest))) U U U) rfl, Option.bind_some]
      show (G_law_all_told [encRR (othR r0 rl rest)]).map _ = _
      rw [k]; rfl
    have mT := fr_eq (flc_map (ft := gN 11) (fe := fFun funTup (fCons (fV 11) fNil)) (vs := [11]) (f := toldR) (g := fun r => D.tup (r.map told)) (l := othR r0 rl rest) (sq_eq at') rfl (by have := H'.ln; unfold big; omega) fun r hr => ⟨JJ l a1 (.val (.int (rs.length : Int))) (.val (encRR rs)) a4 a5 (.val (.lst (T.map (rowR p)))) a7 (.val (encRR (othR r0 rl rest))) U U (.val (toldR r)), rfl, rfl, rfl⟩)
    have mT2 := fun_eq (F := funTup) mT (show funTup [D.lst ((othR r0 rl rest).map fun r => D.tup (r.map told))] = some (.tup ((othR r0 rl rest).map fun r => D.tup (r.map told))) from rfl)
    obtain ⟨T', p', h', eT, S'⟩ := p_steps (Q := 7776) (by decide) ((bd_of (x := 7776) (n := 13) 7777 (by decide) (by decide) (by decide)).mono (by decide)) (rs_toldT H') (by rw [List.length_map]; have := H'.ln; omega) (msO_ok H').1 h0 hw (show 1 ≤ 23 by decide) (by decide) (msO_ok H').2
    have sp := sp_ms H
    have sp' := sp_ms H'
    have same : T'.map (rowR p') = T.map (rowR p) := (Stp.same S S' (fun r hr => (sp.2 r hr).mono (by
      rintro v ⟨x, hx, rfl⟩
      refine (os.1 x hx).mono ?_
      rintro v ⟨y, hy, rfl⟩
      refine (sp'.1 y hy).mono ?_
      rintro v ⟨q, hq, rfl⟩
      exact S'.s2 q hq)) (fun r hr => (sp'.2 r hr).mono (by
      rintro v ⟨x, hx, rfl⟩
      refine (os.2 x hx).mono ?_
      rintro v ⟨y, hy, rfl⟩
      refine (sp.1 y hy).mono ?_
      rintro v ⟨q, hq, rfl⟩
      exact S.s2 q hq))).symm
    rw [same] at eT
    have st := callKw1 mT2 eT
    have c3 := sIf_f (a := sRet (fC (.bl false))) (fB_eq (bin_eq (g := gN3) (fb := fV 6) (y := .lst (T.map (rowR p))) st rfl (gN3_lst (eqT_self p T))))
    refine ⟨.val (encRR (othR r0 rl rest)), (sIf_t t1).trans ?_⟩
    rw [seq_nx (show r9a _ = _ from c1), seq_nx (show r9b _ = _ from c2)]
    exact c3
end
end My
namespace My
open PySem PySem.Spec PyProof.Rows L2 ClX Dl
theorem all_mk {l : PySem.W.OpenLaw} {w : World} {K : PySem.W.Frag} {h : Heap} {mg : Str → Option Value} {fa : Addr} (X : K.In h) (G : h.Ns mainGlobals mg) (hfa : mg "law" = some (.ref fa))
    {C_Ratio a_law_pot a_law_draw a_law_pick a_law_sum a_law_product a_is_integer a_is_count a_is_list a_greatest_divisor a_Ratio_init a_as_ratio a_is_number a_are_numbers a_law_number a_law_told a_law_row a_law_rows a_Ratio_top a_Ratio_bottom p_Ratio_bottom a_common_bottom p_Ratio_top a_times_whole a_short_row a_whole_row a_first_with a_less a_cleared a_reduced a_kernel_row a_kernel_rows a_ratio_rows a_whole_rows a_is_width a_check_rows a_steps a_kernel a_law_all_told a_law_led a_law_own a_law_head a_law_taken_off a_Ratio_eq a_law_is_nought a_law_is_in_steps a_law_free a_law_are_ratios a_law_bare a_Ratio_repr a_law_right a_law da_Ratio_init : Addr}
    {tk_mi_MOST_WIDE tk_mi_MOST_ROWS dt0_Ratio_init : Tok}
    {rs_Ratio_bottom rs_Ratio_top : List Value}
    {od_law_pot an_law_pot od_law_draw an_law_draw od_law_pick an_law_pick od_law_sum an_law_sum od_law_product an_law_product od_is_integer an_is_integer od_is_count an_is_count od_is_list an_is_list od_greatest_divisor an_greatest_divisor od_Ratio_init an_Ratio_init od_as_ratio an_as_ratio od_is_number an_is_number od_are_numbers an_are_numbers od_law_number an_law_number od_law_told an_law_told od_law_row an_law_row od_law_rows an_law_rows od_Ratio_top an_Ratio_top od_Ratio_bottom an_Ratio_bottom od_common_bottom an_common_bottom od_times_whole an_times_whole od_short_row an_short_row od_whole_row an_whole_row od_first_with an_first_with od_less an_less od_cleared an_cleared od_reduced an_reduced od_kernel_row an_kernel_row od_kernel_rows an_kernel_rows od_ratio_rows an_ratio_rows od_whole_rows an_whole_rows od_is_width an_is_width od_check_rows an_check_rows od_steps an_steps od_kernel an_kernel od_law_all_told an_law_all_told od_law_led an_law_led od_law_own an_law_own od_law_head an_law_head od_law_taken_off an_law_taken_off od_Ratio_eq an_Ratio_eq od_law_is_nought an_law_is_nought od_law_is_in_steps an_law_is_in_steps od_law_free an_law_free od_law_are_ratios an_law_are_ratios od_law_bare an_law_bare od_Ratio_repr an_Ratio_repr od_law_right an_law_right od_law an_law : Option Addr}
    {sl_law_pot sl_law_draw sl_law_pick sl_law_sum sl_law_product sl_is_integer sl_is_count sl_is_list sl_greatest_divisor sl_Ratio_init sl_as_ratio sl_is_number sl_are_numbers sl_law_number sl_law_told sl_law_row sl_law_rows sl_Ratio_top sl_Ratio_bottom sl_common_bottom sl_times_whole sl_short_row sl_whole_row sl_first_with sl_less sl_cleared sl_reduced sl_kernel_row sl_kernel_rows sl_ratio_rows sl_whole_rows sl_is_width sl_check_rows sl_steps sl_kernel sl_law_all_told sl_law_led sl_law_own sl_law_head sl_law_taken_off sl_Ratio_eq sl_law_is_nought sl_law_is_in_steps sl_law_free sl_law_are_ratios sl_law_bare sl_Ratio_repr sl_law_right sl_law : Array (Option Value)}
    {oc_law_pot kV_law_pot dc_law_pot pm_law_pot cd_law_pot ct_law_pot oc_law_draw kV_law_draw dc_law_draw pm_law_draw cd_law_draw ct_law_draw oc_law_pick kV_law_pick dc_law_pick pm_law_pick cd_law_pick ct_law_pick oc_law_sum kV_law_sum dc_law_sum pm_law_sum cd_law_sum ct_law_sum oc_law_product kV_law_product dc_law_product pm_law_product cd_law_product ct_law_product oc_is_integer kV_is_integer dc_is_integer pm_is_integer cd_is_integer ct_is_integer oc_is_count kV_is_count dc_is_count pm_is_count cd_is_count ct_is_count oc_is_list kV_is_list dc_is_list pm_is_list cd_is_list ct_is_list oc_greatest_divisor kV_greatest_divisor dc_greatest_divisor pm_greatest_divisor cd_greatest_divisor ct_greatest_divisor oc_Ratio_init kV_Ratio_init dc_Ratio_init pm_Ratio_init cd_Ratio_init ct_Ratio_init oc_as_ratio kV_as_ratio dc_as_ratio pm_as_ratio cd_as_ratio ct_as_ratio oc_is_number kV_is_number dc_is_number pm_is_number cd_is_number ct_is_number oc_are_numbers kV_are_numbers dc_are_numbers pm_are_numbers cd_are_numbers ct_are_numbers oc_law_number kV_law_number dc_law_number pm_law_number cd_law_number ct_law_number oc_law_told kV_law_told dc_law_told pm_law_told cd_law_told ct_law_told oc_law_row kV_law_row dc_law_row pm_law_row cd_law_row ct_law_row oc_law_rows kV_law_rows dc_law_rows pm_law_rows cd_law_rows ct_law_rows oc_Ratio_top kV_Ratio_top dc_Ratio_top pm_Ratio_top cd_Ratio_top ct_Ratio_top oc_Ratio_bottom kV_Ratio_bottom dc_Ratio_bottom pm_Ratio_bottom cd_Ratio_bottom ct_Ratio_bottom oc_common_bottom kV_common_bottom dc_common_bottom pm_common_bottom cd_common_bottom ct_common_bottom oc_times_whole kV_times_whole dc_times_whole pm_times_whole cd_times_whole ct_times_whole oc_short_row kV_short_row dc_short_row pm_short_row cd_short_row ct_short_row oc_whole_row kV_whole_row dc_whole_row pm_whole_row cd_whole_row ct_whole_row oc_first_with kV_first_with dc_first_with pm_first_with cd_first_with ct_first_with oc_less kV_less dc_less pm_less cd_less ct_less oc_cleared kV_cleared dc_cleared pm_cleared cd_cleared ct_cleared oc_reduced kV_reduced dc_reduced pm_reduced cd_reduced ct_reduced oc_kernel_row kV_kernel_row dc_kernel_row pm_kernel_row cd_kernel_row ct_kernel_row oc_kernel_rows kV_kernel_rows dc_kernel_rows pm_kernel_rows cd_kernel_rows ct_kernel_rows oc_ratio_rows kV_ratio_rows dc_ratio_rows pm_ratio_rows cd_ratio_rows ct_ratio_rows oc_whole_rows kV_whole_rows dc_whole_rows pm_whole_rows cd_whole_rows ct_whole_rows oc_is_width kV_is_width dc_is_width pm_is_width cd_is_width ct_is_width oc_check_rows kV_check_rows dc_check_rows pm_check_rows cd_check_rows ct_check_rows oc_steps kV_steps dc_steps pm_steps cd_steps ct_steps oc_kernel kV_kernel dc_kernel pm_kernel cd_kernel ct_kernel oc_law_all_told kV_law_all_told dc_law_all_told pm_law_all_told cd_law_all_told ct_law_all_told oc_law_led kV_law_led dc_law_led pm_law_led cd_law_led ct_law_led oc_law_own kV_law_own dc_law_own pm_law_own cd_law_own ct_law_own oc_law_head kV_law_head dc_law_head pm_law_head cd_law_head ct_law_head oc_law_taken_off kV_law_taken_off dc_law_taken_off pm_law_taken_off cd_law_taken_off ct_law_taken_off oc_Ratio_eq kV_Ratio_eq dc_Ratio_eq pm_Ratio_eq cd_Ratio_eq ct_Ratio_eq oc_law_is_nought kV_law_is_nought dc_law_is_nought pm_law_is_nought cd_law_is_nought ct_law_is_nought oc_law_is_in_steps kV_law_is_in_steps dc_law_is_in_steps pm_law_is_in_steps cd_law_is_in_steps ct_law_is_in_steps oc_law_free kV_law_free dc_law_free pm_law_free cd_law_free ct_law_free oc_law_are_ratios kV_law_are_ratios dc_law_are_ratios pm_law_are_ratios cd_law_are_ratios ct_law_are_ratios oc_law_bare kV_law_bare dc_law_bare pm_law_bare cd_law_bare ct_law_bare oc_Ratio_repr kV_Ratio_repr dc_Ratio_repr pm_Ratio_repr cd_Ratio_repr ct_Ratio_repr oc_law_right kV_law_right dc_law_right pm_law_right cd_law_right ct_law_right oc_law kV_law dc_law pm_law cd_law ct_law : Value}
    {do_Ratio_init : Obj}
    {dm_Ratio_init : Nat}
    (h_n_int : PySem.W.nsIn K mainGlobals "int" = some none)
    (h_n_max : PySem.W.nsIn K mainGlobals "max" = some none)
    (h_n_len : PySem.W.nsIn K mainGlobals "len" = some none)
    (h_n_abs : PySem.W.nsIn K mainGlobals "abs" = some none)
    (h_n_divmod : PySem.W.nsIn K mainGlobals "divmod" = some none)
    (h_m_law_draw : PySem.W.nsIn K mainGlobals "_law_draw" = some (some (.ref a_law_draw)))
    (h_n_isinstance : PySem.W.nsIn K mainGlobals "isinstance" = some none)
    (h_n_bool : PySem.W.nsIn K mainGlobals "bool" = some none)
    (h_m_is_integer : PySem.W.nsIn K mainGlobals "is_integer" = some (some (.ref a_is_integer)))
    (h_n_list : PySem.W.nsIn K mainGlobals "list" = some none)
    (h_n_tuple : PySem.W.nsIn K mainGlobals "tuple" = some none)
    (h_m_gcd : PySem.W.nsIn K mainGlobals "gcd" = some (some (.builtin "math.gcd")))
    (h_m_Ratio : PySem.W.nsIn K mainGlobals "Ratio" = some (some (.ref C_Ratio)))
    (h_m_is_list : PySem.W.nsIn K mainGlobals "is_list" = some (some (.ref a_is_list)))
    (h_m_is_number : PySem.W.nsIn K mainGlobals "is_number" = some (some (.ref a_is_number)))
    (h_n_all : PySem.W.nsIn K mainGlobals "all" = some none)
    (h_n_range : PySem.W.nsIn K mainGlobals "range" = some none)
    (h_m_law_number : PySem.W.nsIn K mainGlobals "_law_number" = some (some (.ref a_law_number)))
    (h_m_law_row : PySem.W.nsIn K mainGlobals "_law_row" = some (some (.ref a_law_row)))
    (h_m_law_pick : PySem.W.nsIn K mainGlobals "_law_pick" = some (some (.ref a_law_pick)))
    (h_n_zip : PySem.W.nsIn K mainGlobals "zip" = some none)
    (h_m_law_sum : PySem.W.nsIn K mainGlobals "_law_sum" = some (some (.ref a_law_sum)))
    (h_m_law_product : PySem.W.nsIn K mainGlobals "_law_product" = some (some (.ref a_law_product)))
    (h_m_lcm : PySem.W.nsIn K mainGlobals "lcm" = some (some (.builtin "math.lcm")))
    (h_m_greatest_divisor : PySem.W.nsIn K mainGlobals "greatest_divisor" = some (some (.ref a_greatest_divisor)))
    (h_m_short_row : PySem.W.nsIn K mainGlobals "short_row" = some (some (.ref a_short_row)))
    (h_m_times_whole : PySem.W.nsIn K mainGlobals "times_whole" = some (some (.ref a_times_whole)))
    (h_m_common_bottom : PySem.W.nsIn K mainGlobals "common_bottom" = some (some (.ref a_common_bottom)))
    (h_n_enumerate : PySem.W.nsIn K mainGlobals "enumerate" = some none)
    (h_m_less : PySem.W.nsIn K mainGlobals "_less" = some (some (.ref a_less)))
    (h_m_first_with : PySem.W.nsIn K mainGlobals "_first_with" = some (some (.ref a_first_with)))
    (h_m_cleared : PySem.W.nsIn K mainGlobals "_cleared" = some (some (.ref a_cleared)))
    (h_m_reduced : PySem.W.nsIn K mainGlobals "reduced" = some (some (.ref a_reduced)))
    (h_m_kernel_row : PySem.W.nsIn K mainGlobals "_kernel_row" = some (some (.ref a_kernel_row)))
    (h_m_as_ratio : PySem.W.nsIn K mainGlobals "as_ratio" = some (some (.ref a_as_ratio)))
    (h_m_ratio_rows : PySem.W.nsIn K mainGlobals "_ratio_rows" = some (some (.ref a_ratio_rows)))
    (h_m_whole_row : PySem.W.nsIn K mainGlobals "whole_row" = some (some (.ref a_whole_row)))
    (h_m_is_count : PySem.W.nsIn K mainGlobals "is_count" = some (some (.ref a_is_count)))
    (h_m_is_width : PySem.W.nsIn K mainGlobals "_is_width" = some (some (.ref a_is_width)))
    (h_m_are_numbers : PySem.W.nsIn K mainGlobals "are_numbers" = some (some (.ref a_are_numbers)))
    (h_m_check_rows : PySem.W.nsIn K mainGlobals "_check_rows" = some (some (.ref a_check_rows)))
    (h_m_whole_rows : PySem.W.nsIn K mainGlobals "_whole_rows" = some (some (.ref a_whole_rows)))
    (h_m_kernel_rows : PySem.W.nsIn K mainGlobals "kernel_rows" = some (some (.ref a_kernel_rows)))
    (h_m_law_told : PySem.W.nsIn K mainGlobals "_law_told" = some (some (.ref a_law_told)))
    (h_m_law_head : PySem.W.nsIn K mainGlobals "_law_head" = some (some (.ref a_law_head)))
    (h_m_law_is_nought : PySem.W.nsIn K mainGlobals "_law_is_nought" = some (some (.ref a_law_is_nought)))
    (h_m_law_taken_off : PySem.W.nsIn K mainGlobals "_law_taken_off" = some (some (.ref a_law_taken_off)))
    (h_m_law_own : PySem.W.nsIn K mainGlobals "_law_own" = some (some (.ref a_law_own)))
    (h_m_law_rows : PySem.W.nsIn K mainGlobals "_law_rows" = some (some (.ref a_law_rows)))
    (h_m_law_all_told : PySem.W.nsIn K mainGlobals "_law_all_told" = some (some (.ref a_law_all_told)))
    (h_n_repr : PySem.W.nsIn K mainGlobals "repr" = some none)
    (h_m_steps : PySem.W.nsIn K mainGlobals "steps" = some (some (.ref a_steps)))
    (h_m_law_bare : PySem.W.nsIn K mainGlobals "_law_bare" = some (some (.ref a_law_bare)))
    (h_m_law_are_ratios : PySem.W.nsIn K mainGlobals "_law_are_ratios" = some (some (.ref a_law_are_ratios)))
    (h_m_law_is_in_steps : PySem.W.nsIn K mainGlobals "_law_is_in_steps" = some (some (.ref a_law_is_in_steps)))
    (h_m_law_free : PySem.W.nsIn K mainGlobals "_law_free" = some (some (.ref a_law_free)))
    (h_m_kernel : PySem.W.nsIn K mainGlobals "kernel" = some (some (.ref a_kernel)))
    (h_m_law_led : PySem.W.nsIn K mainGlobals "_law_led" = some (some (.ref a_law_led)))
    (h_m_law_right : PySem.W.nsIn K mainGlobals "_law_right" = some (some (.ref a_law_right)))
    (h_m_law_pot : PySem.W.nsIn K mainGlobals "_law_pot" = some (some (.ref a_law_pot)))
    (h_mi_MOST_WIDE : PySem.W.nsIn K mainGlobals "MOST_WIDE" = some (some (.int 60 tk_mi_MOST_WIDE)))
    (h_mi_MOST_ROWS : PySem.W.nsIn K mainGlobals "MOST_ROWS" = some (some (.int 60 tk_mi_MOST_ROWS)))
    (h_law : PySem.W.nsIn K mainGlobals "law" = some (some (.ref a_law)))
    (mk1_mk_Ratio : PySem.W.makesIn K C_Ratio = true)
    (f_Ratio_init : PySem.W.findIn K (.ref C_Ratio) "__init__" = some (some (.ref a_Ratio_init)))
    (g_Ratio_init : PySem.W.isFn K (.ref a_Ratio_init) = true)
    (mk2_mk_Ratio : PySem.W.keepIn K (.ref C_Ratio) = true)
    (f_Ratio_bottom : PySem.W.findIn K (.ref C_Ratio) "bottom" = some (some (.ref p_Ratio_bottom)))
    (pg_Ratio_bottom : PySem.W.specialIn K (.ref p_Ratio_bottom) "__get__" = some (some (.builtin "property.__get__")))
    (pt_Ratio_bottom : PySem.W.takesIn K (.ref p_Ratio_bottom) = some true)
    (pc_Ratio_bottom : PySem.W.recIn K p_Ratio_bottom "property" = some (.ref a_Ratio_bottom :: rs_Ratio_bottom))
    (f_Ratio_top : PySem.W.findIn K (.ref C_Ratio) "top" = some (some (.ref p_Ratio_top)))
    (pg_Ratio_top : PySem.W.specialIn K (.ref p_Ratio_top) "__get__" = some (some (.builtin "property.__get__")))
    (pt_Ratio_top : PySem.W.takesIn K (.ref p_Ratio_top) = some true)
    (pc_Ratio_top : PySem.W.recIn K p_Ratio_top "property" = some (.ref a_Ratio_top :: rs_Ratio_top))
    (ca_ca_C_Ratio : PySem.W.findIn K (.ref C_Ratio) "__class__" = some (some (.builtin "object.__class__")))
    (ca_cn : PySem.W.specialIn K (.builtin "object.__class__") "__get__" = some (some (.builtin "getset_descriptor.__get__")))
    (ca_ct : PySem.W.takesIn K (.builtin "object.__class__") = some true)
    (ca_cm_C_Ratio : PySem.W.mroIn K C_Ratio (.type "object") = some true)
    (cl1_C_Ratio : PySem.W.plainGet K C_Ratio Str.empty = true)
    (cl2_C_Ratio : PySem.W.hasDictIn K C_Ratio = true)
    (cl3_C_Ratio : PySem.W.plainOver K C_Ratio = true)
    (cl4_C_Ratio : PySem.W.findIn K (.ref C_Ratio) "__setattr__" = some (some (.builtin "object.__setattr__")))
    (i_int_obj_C_Ratio : PySem.W.subIn K (.ref C_Ratio) (.type "int") = some false)
    (i_bool_obj_C_Ratio : PySem.W.subIn K (.ref C_Ratio) (.type "bool") = some false)
    (i_list_obj_C_Ratio : PySem.W.subIn K (.ref C_Ratio) (.type "list") = some false)
    (i_tuple_obj_C_Ratio : PySem.W.subIn K (.ref C_Ratio) (.type "tuple") = some false)
    (h_na_Ratio_top : PySem.W.findIn K (.ref C_Ratio) "_top" = some none)
    (h_na_Ratio_bottom : PySem.W.findIn K (.ref C_Ratio) "_bottom" = some none)
    (ic_C_Ratio : PySem.W.isClsIn K C_Ratio = true)
    (it_C_Ratio : PySem.W.typeIn K (.ref C_Ratio) = some (.type "type"))
    (i_Ratio_NoneType : PySem.W.subIn K (.type "NoneType") (.ref C_Ratio) = some false)
    (i_Ratio_bool : PySem.W.subIn K (.type "bool") (.ref C_Ratio) = some false)
    (i_Ratio_int : PySem.W.subIn K (.type "int") (.ref C_Ratio) = some false)
    (i_Ratio_str : PySem.W.subIn K (.type "str") (.ref C_Ratio) = some false)
    (i_Ratio_list : PySem.W.subIn K (.type "list") (.ref C_Ratio) = some false)
    (i_Ratio_tuple : PySem.W.subIn K (.type "tuple") (.ref C_Ratio) = some false)
    (h_e_Ratio_eq : PySem.W.findIn K (.ref C_Ratio) "__eq__" = some (some (.ref a_Ratio_eq)))
    (h_ef_Ratio_eq : PySem.W.isFn K (.ref a_Ratio_eq) = true)
    (tp_Ratio_NoneType : PySem.W.notFirst K C_Ratio (.type "NoneType") = true)
    (tp_Ratio_bool : PySem.W.notFirst K C_Ratio (.type "bool") = true)
    (tp_Ratio_int : PySem.W.notFirst K C_Ratio (.type "int") = true)
    (tp_Ratio_str : PySem.W.notFirst K C_Ratio (.type "str") = true)
    (tp_Ratio_list : PySem.W.notFirst K C_Ratio (.type "list") = true)
    (tp_Ratio_tuple : PySem.W.notFirst K C_Ratio (.type "tuple") = true)
    (tp_Ratio_obj_C_Ratio : PySem.W.notFirst K C_Ratio (.ref C_Ratio) = true)
    (h_ne_Ratio_eq : PySem.W.findIn K (.ref C_Ratio) "__ne__" = some (some (.builtin "object.__ne__")))
    (h_ob_Ratio : PySem.W.subIn K (.ref C_Ratio) (.type "object") = some true)
    (h_s_Ratio_repr : PySem.W.findIn K (.ref C_Ratio) "__repr__" = some (some (.ref a_Ratio_repr)))
    (h_sf_Ratio_repr : PySem.W.isFn K (.ref a_Ratio_repr) = true)
    (l_law_pot : K.lookup a_law_pot = some ⟨oc_law_pot, od_law_pot, .func (PySem.W.fnOf "_law_pot" "_law_pot" (defArgs s_law_pot) (defBody s_law_pot) (defScope s_law_pot) .none kV_law_pot dc_law_pot pm_law_pot an_law_pot cd_law_pot ct_law_pot), sl_law_pot⟩)
    (c_law_pot : PySem.W.codeIn K cd_law_pot "_law_pot" = true)
    (k_law_pot : PySem.W.keepIn K (.ref a_law_pot) = true)
    (l_law_draw : K.lookup a_law_draw = some ⟨oc_law_draw, od_law_draw, .func (PySem.W.fnOf "_law_draw" "_law_draw" (defArgs s_law_draw) (defBody s_law_draw) (defScope s_law_draw) .none kV_law_draw dc_law_draw pm_law_draw an_law_draw cd_law_draw ct_law_draw), sl_law_draw⟩)
    (c_law_draw : PySem.W.codeIn K cd_law_draw "_law_draw" = true)
    (k_law_draw : PySem.W.keepIn K (.ref a_law_draw) = true)
    (l_law_pick : K.lookup a_law_pick = some ⟨oc_law_pick, od_law_pick, .func (PySem.W.fnOf "_law_pick" "_law_pick" (defArgs s_law_pick) (defBody s_law_pick) (defScope s_law_pick) .none kV_law_pick dc_law_pick pm_law_pick an_law_pick cd_law_pick ct_law_pick), sl_law_pick⟩)
    (c_law_pick : PySem.W.codeIn K cd_law_pick "_law_pick" = true)
    (k_law_pick : PySem.W.keepIn K (.ref a_law_pick) = true)
    (l_law_sum : K.lookup a_law_sum = some ⟨oc_law_sum, od_law_sum, .func (PySem.W.fnOf "_law_sum" "_law_sum" (defArgs s_law_sum) (defBody s_law_sum) (defScope s_law_sum) .none kV_law_sum dc_law_sum pm_law_sum an_law_sum cd_law_sum ct_law_sum), sl_law_sum⟩)
    (c_law_sum : PySem.W.codeIn K cd_law_sum "_law_sum" = true)
    (k_law_sum : PySem.W.keepIn K (.ref a_law_sum) = true)
    (l_law_product : K.lookup a_law_product = some ⟨oc_law_product, od_law_product, .func (PySem.W.fnOf "_law_product" "_law_product" (defArgs s_law_product) (defBody s_law_product) (defScope s_law_product) .none kV_law_product dc_law_product pm_law_product an_law_product cd_law_product ct_law_product), sl_law_product⟩)
    (c_law_product : PySem.W.codeIn K cd_law_product "_law_product" = true)
    (k_law_product : PySem.W.keepIn K (.ref a_law_product) = true)
    (l_is_integer : K.lookup a_is_integer = some ⟨oc_is_integer, od_is_integer, .func (PySem.W.fnOf "is_integer" "is_integer" (defArgs s_is_integer) (defBody s_is_integer) (defScope s_is_integer) .none kV_is_integer dc_is_integer pm_is_integer an_is_integer cd_is_integer ct_is_integer), sl_is_integer⟩)
    (c_is_integer : PySem.W.codeIn K cd_is_integer "is_integer" = true)
    (k_is_integer : PySem.W.keepIn K (.ref a_is_integer) = true)
    (l_is_count : K.lookup a_is_count = some ⟨oc_is_count, od_is_count, .func (PySem.W.fnOf "is_count" "is_count" (defArgs s_is_count) (defBody s_is_count) (defScope s_is_count) .none kV_is_count dc_is_count pm_is_count an_is_count cd_is_count ct_is_count), sl_is_count⟩)
    (c_is_count : PySem.W.codeIn K cd_is_count "is_count" = true)
    (k_is_count : PySem.W.keepIn K (.ref a_is_count) = true)
    (l_is_list : K.lookup a_is_list = some ⟨oc_is_list, od_is_list, .func (PySem.W.fnOf "is_list" "is_list" (defArgs s_is_list) (defBody s_is_list) (defScope s_is_list) .none kV_is_list dc_is_list pm_is_list an_is_list cd_is_list ct_is_list), sl_is_list⟩)
    (c_is_list : PySem.W.codeIn K cd_is_list "is_list" = true)
    (k_is_list : PySem.W.keepIn K (.ref a_is_list) = true)
    (l_greatest_divisor : K.lookup a_greatest_divisor = some ⟨oc_greatest_divisor, od_greatest_divisor, .func (PySem.W.fnOf "greatest_divisor" "greatest_divisor" (defArgs s_greatest_divisor) (defBody s_greatest_divisor) (defScope s_greatest_divisor) .none kV_greatest_divisor dc_greatest_divisor pm_greatest_divisor an_greatest_divisor cd_greatest_divisor ct_greatest_divisor), sl_greatest_divisor⟩)
    (c_greatest_divisor : PySem.W.codeIn K cd_greatest_divisor "greatest_divisor" = true)
    (k_greatest_divisor : PySem.W.keepIn K (.ref a_greatest_divisor) = true)
    (l_Ratio_init : K.lookup a_Ratio_init = some ⟨oc_Ratio_init, od_Ratio_init, .func (PySem.W.fnOf "__init__" "Ratio.__init__" (defArgs s_Ratio_init) (defBody s_Ratio_init) (defScope s_Ratio_init) (.ref da_Ratio_init) kV_Ratio_init dc_Ratio_init pm_Ratio_init an_Ratio_init cd_Ratio_init ct_Ratio_init), sl_Ratio_init⟩)
    (c_Ratio_init : PySem.W.codeIn K cd_Ratio_init "Ratio.__init__" = true)
    (k_Ratio_init : PySem.W.keepIn K (.ref a_Ratio_init) = true)
    (dl_Ratio_init : K.lookup da_Ratio_init = some do_Ratio_init)
    (dd_Ratio_init : do_Ratio_init.data = .seq ([.int 1 dt0_Ratio_init] : List Value).toArray dm_Ratio_init)
    (l_as_ratio : K.lookup a_as_ratio = some ⟨oc_as_ratio, od_as_ratio, .func (PySem.W.fnOf "as_ratio" "as_ratio" (defArgs s_as_ratio) (defBody s_as_ratio) (defScope s_as_ratio) .none kV_as_ratio dc_as_ratio pm_as_ratio an_as_ratio cd_as_ratio ct_as_ratio), sl_as_ratio⟩)
    (c_as_ratio : PySem.W.codeIn K cd_as_ratio "as_ratio" = true)
    (k_as_ratio : PySem.W.keepIn K (.ref a_as_ratio) = true)
    (l_is_number : K.lookup a_is_number = some ⟨oc_is_number, od_is_number, .func (PySem.W.fnOf "is_number" "is_number" (defArgs s_is_number) (defBody s_is_number) (defScope s_is_number) .none kV_is_number dc_is_number pm_is_number an_is_number cd_is_number ct_is_number), sl_is_number⟩)
    (c_is_number : PySem.W.codeIn K cd_is_number "is_number" = true)
    (k_is_number : PySem.W.keepIn K (.ref a_is_number) = true)
    (l_are_numbers : K.lookup a_are_numbers = some ⟨oc_are_numbers, od_are_numbers, .func (PySem.W.fnOf "are_numbers" "are_numbers" (defArgs s_are_numbers) (defBody s_are_numbers) (defScope s_are_numbers) .none kV_are_numbers dc_are_numbers pm_are_numbers an_are_numbers cd_are_numbers ct_are_numbers), sl_are_numbers⟩)
    (c_are_numbers : PySem.W.codeIn K cd_are_numbers "are_numbers" = true)
    (k_are_numbers : PySem.W.keepIn K (.ref a_are_numbers) = true)
    (l_law_number : K.lookup a_law_number = some ⟨oc_law_number, od_law_number, .func (PySem.W.fnOf "_law_number" "_law_number" (defArgs s_law_number) (defBody s_law_number) (defScope s_law_number) .none kV_law_number dc_law_number pm_law_number an_law_number cd_law_number ct_law_number), sl_law_number⟩)
    (c_law_number : PySem.W.codeIn K cd_law_number "_law_number" = true)
    (k_law_number : PySem.W.keepIn K (.ref a_law_number) = true)
    (l_law_told : K.lookup a_law_told = some ⟨oc_law_told, od_law_told, .func (PySem.W.fnOf "_law_told" "_law_told" (defArgs s_law_told) (defBody s_law_told) (defScope s_law_told) .none kV_law_told dc_law_told pm_law_told an_law_told cd_law_told ct_law_told), sl_law_told⟩)
    (c_law_told : PySem.W.codeIn K cd_law_told "_law_told" = true)
    (k_law_told : PySem.W.keepIn K (.ref a_law_told) = true)
    (l_law_row : K.lookup a_law_row = some ⟨oc_law_row, od_law_row, .func (PySem.W.fnOf "_law_row" "_law_row" (defArgs s_law_row) (defBody s_law_row) (defScope s_law_row) .none kV_law_row dc_law_row pm_law_row an_law_row cd_law_row ct_law_row), sl_law_row⟩)
    (c_law_row : PySem.W.codeIn K cd_law_row "_law_row" = true)
    (k_law_row : PySem.W.keepIn K (.ref a_law_row) = true)
    (l_law_rows : K.lookup a_law_rows = some ⟨oc_law_rows, od_law_rows, .func (PySem.W.fnOf "_law_rows" "_law_rows" (defArgs s_law_rows) (defBody s_law_rows) (defScope s_law_rows) .none kV_law_rows dc_law_rows pm_law_rows an_law_rows cd_law_rows ct_law_rows), sl_law_rows⟩)
    (c_law_rows : PySem.W.codeIn K cd_law_rows "_law_rows" = true)
    (k_law_rows : PySem.W.keepIn K (.ref a_law_rows) = true)
    (l_Ratio_top : K.lookup a_Ratio_top = some ⟨oc_Ratio_top, od_Ratio_top, .func (PySem.W.fnOf "top" "Ratio.top" (defArgs s_Ratio_top) (defBody s_Ratio_top) (defScope s_Ratio_top) .none kV_Ratio_top dc_Ratio_top pm_Ratio_top an_Ratio_top cd_Ratio_top ct_Ratio_top), sl_Ratio_top⟩)
    (c_Ratio_top : PySem.W.codeIn K cd_Ratio_top "Ratio.top" = true)
    (k_Ratio_top : PySem.W.keepIn K (.ref a_Ratio_top) = true)
    (l_Ratio_bottom : K.lookup a_Ratio_bottom = some ⟨oc_Ratio_bottom, od_Ratio_bottom, .func (PySem.W.fnOf "bottom" "Ratio.bottom" (defArgs s_Ratio_bottom) (defBody s_Ratio_bottom) (defScope s_Ratio_bottom) .none kV_Ratio_bottom dc_Ratio_bottom pm_Ratio_bottom an_Ratio_bottom cd_Ratio_bottom ct_Ratio_bottom), sl_Ratio_bottom⟩)
    (c_Ratio_bottom : PySem.W.codeIn K cd_Ratio_bottom "Ratio.bottom" = true)
    (k_Ratio_bottom : PySem.W.keepIn K (.ref a_Ratio_bottom) = true)
    (l_common_bottom : K.lookup a_common_bottom = some ⟨oc_common_bottom, od_common_bottom, .func (PySem.W.fnOf "common_bottom" "common_bottom" (defArgs s_common_bottom) (defBody s_common_bottom) (defScope s_common_bottom) .none kV_common_bottom dc_common_bottom pm_common_bottom an_common_bottom cd_common_bottom ct_common_bottom), sl_common_bottom⟩)
    (c_common_bottom : PySem.W.codeIn K cd_common_bottom "common_bottom" = true)
    (k_common_bottom : PySem.W.keepIn K (.ref a_common_bottom) = true)
    (l_times_whole : K.lookup a_times_whole = some ⟨oc_times_whole, od_times_whole, .func (PySem.W.fnOf "times_whole" "times_whole" (defArgs s_times_whole) (defBody s_times_whole) (defScope s_times_whole) .none kV_times_whole dc_times_whole pm_times_whole an_times_whole cd_times_whole ct_times_whole), sl_times_whole⟩)
    (c_times_whole : PySem.W.codeIn K cd_times_whole "times_whole" = true)
    (k_times_whole : PySem.W.keepIn K (.ref a_times_whole) = true)
    (l_short_row : K.lookup a_short_row = some ⟨oc_short_row, od_short_row, .func (PySem.W.fnOf "short_row" "short_row" (defArgs s_short_row) (defBody s_short_row) (defScope s_short_row) .none kV_short_row dc_short_row pm_short_row an_short_row cd_short_row ct_short_row), sl_short_row⟩)
    (c_short_row : PySem.W.codeIn K cd_short_row "short_row" = true)
    (k_short_row : PySem.W.keepIn K (.ref a_short_row) = true)
    (l_whole_row : K.lookup a_whole_row = some ⟨oc_whole_row, od_whole_row, .func (PySem.W.fnOf "whole_row" "whole_row" (defArgs s_whole_row) (defBody s_whole_row) (defScope s_whole_row) .none kV_whole_row dc_whole_row pm_whole_row an_whole_row cd_whole_row ct_whole_row), sl_whole_row⟩)
    (c_whole_row : PySem.W.codeIn K cd_whole_row "whole_row" = true)
    (k_whole_row : PySem.W.keepIn K (.ref a_whole_row) = true)
    (l_first_with : K.lookup a_first_with = some ⟨oc_first_with, od_first_with, .func (PySem.W.fnOf "_first_with" "_first_with" (defArgs s_first_with) (defBody s_first_with) (defScope s_first_with) .none kV_first_with dc_first_with pm_first_with an_first_with cd_first_with ct_first_with), sl_first_with⟩)
    (c_first_with : PySem.W.codeIn K cd_first_with "_first_with" = true)
    (k_first_with : PySem.W.keepIn K (.ref a_first_with) = true)
    (l_less : K.lookup a_less = some ⟨oc_less, od_less, .func (PySem.W.fnOf "_less" "_less" (defArgs s_less) (defBody s_less) (defScope s_less) .none kV_less dc_less pm_less an_less cd_less ct_less), sl_less⟩)
    (c_less : PySem.W.codeIn K cd_less "_less" = true)
    (k_less : PySem.W.keepIn K (.ref a_less) = true)
    (l_cleared : K.lookup a_cleared = some ⟨oc_cleared, od_cleared, .func (PySem.W.fnOf "_cleared" "_cleared" (defArgs s_cleared) (defBody s_cleared) (defScope s_cleared) .none kV_cleared dc_cleared pm_cleared an_cleared cd_cleared ct_cleared), sl_cleared⟩)
    (c_cleared : PySem.W.codeIn K cd_cleared "_cleared" = true)
    (k_cleared : PySem.W.keepIn K (.ref a_cleared) = true)
    (l_reduced : K.lookup a_reduced = some ⟨oc_reduced, od_reduced, .func (PySem.W.fnOf "reduced" "reduced" (defArgs s_reduced) (defBody s_reduced) (defScope s_reduced) .none kV_reduced dc_reduced pm_reduced an_reduced cd_reduced ct_reduced), sl_reduced⟩)
    (c_reduced : PySem.W.codeIn K cd_reduced "reduced" = true)
    (k_reduced : PySem.W.keepIn K (.ref a_reduced) = true)
    (l_kernel_row : K.lookup a_kernel_row = some ⟨oc_kernel_row, od_kernel_row, .func (PySem.W.fnOf "_kernel_row" "_kernel_row" (defArgs s_kernel_row) (defBody s_kernel_row) (defScope s_kernel_row) .none kV_kernel_row dc_kernel_row pm_kernel_row an_kernel_row cd_kernel_row ct_kernel_row), sl_kernel_row⟩)
    (c_kernel_row : PySem.W.codeIn K cd_kernel_row "_kernel_row" = true)
    (k_kernel_row : PySem.W.keepIn K (.ref a_kernel_row) = true)
    (l_kernel_rows : K.lookup a_kernel_rows = some ⟨oc_kernel_rows, od_kernel_rows, .func (PySem.W.fnOf "kernel_rows" "kernel_rows" (defArgs s_kernel_rows) (defBody s_kernel_rows) (defScope s_kernel_rows) .none kV_kernel_rows dc_kernel_rows pm_kernel_rows an_kernel_rows cd_kernel_rows ct_kernel_rows), sl_kernel_rows⟩)
    (c_kernel_rows : PySem.W.codeIn K cd_kernel_rows "kernel_rows" = true)
    (k_kernel_rows : PySem.W.keepIn K (.ref a_kernel_rows) = true)
    (l_ratio_rows : K.lookup a_ratio_rows = some ⟨oc_ratio_rows, od_ratio_rows, .func (PySem.W.fnOf "_ratio_rows" "_ratio_rows" (defArgs s_ratio_rows) (defBody s_ratio_rows) (defScope s_ratio_rows) .none kV_ratio_rows dc_ratio_rows pm_ratio_rows an_ratio_rows cd_ratio_rows ct_ratio_rows), sl_ratio_rows⟩)
    (c_ratio_rows : PySem.W.codeIn K cd_ratio_rows "_ratio_rows" = true)
    (k_ratio_rows : PySem.W.keepIn K (.ref a_ratio_rows) = true)
    (l_whole_rows : K.lookup a_whole_rows = some ⟨oc_whole_rows, od_whole_rows, .func (PySem.W.fnOf "_whole_rows" "_whole_rows" (defArgs s_whole_rows) (defBody s_whole_rows) (defScope s_whole_rows) .none kV_whole_rows dc_whole_rows pm_whole_rows an_whole_rows cd_whole_rows ct_whole_rows), sl_whole_rows⟩)
    (c_whole_rows : PySem.W.codeIn K cd_whole_rows "_whole_rows" = true)
    (k_whole_rows : PySem.W.keepIn K (.ref a_whole_rows) = true)
    (l_is_width : K.lookup a_is_width = some ⟨oc_is_width, od_is_width, .func (PySem.W.fnOf "_is_width" "_is_width" (defArgs s_is_width) (defBody s_is_width) (defScope s_is_width) .none kV_is_width dc_is_width pm_is_width an_is_width cd_is_width ct_is_width), sl_is_width⟩)
    (c_is_width : PySem.W.codeIn K cd_is_width "_is_width" = true)
    (k_is_width : PySem.W.keepIn K (.ref a_is_width) = true)
    (l_check_rows : K.lookup a_check_rows = some ⟨oc_check_rows, od_check_rows, .func (PySem.W.fnOf "_check_rows" "_check_rows" (defArgs s_check_rows) (defBody s_check_rows) (defScope s_check_rows) .none kV_check_rows dc_check_rows pm_check_rows an_check_rows cd_check_rows ct_check_rows), sl_check_rows⟩)
    (c_check_rows : PySem.W.codeIn K cd_check_rows "_check_rows" = true)
    (k_check_rows : PySem.W.keepIn K (.ref a_check_rows) = true)
    (l_steps : K.lookup a_steps = some ⟨oc_steps, od_steps, .func (PySem.W.fnOf "steps" "steps" (defArgs s_steps) (defBody s_steps) (defScope s_steps) .none kV_steps dc_steps pm_steps an_steps cd_steps ct_steps), sl_steps⟩)
    (c_steps : PySem.W.codeIn K cd_steps "steps" = true)
    (k_steps : PySem.W.keepIn K (.ref a_steps) = true)
    (l_kernel : K.lookup a_kernel = some ⟨oc_kernel, od_kernel, .func (PySem.W.fnOf "kernel" "kernel" (defArgs s_kernel) (defBody s_kernel) (defScope s_kernel) .none kV_kernel dc_kernel pm_kernel an_kernel cd_kernel ct_kernel), sl_kernel⟩)
    (c_kernel : PySem.W.codeIn K cd_kernel "kernel" = true)
    (k_kernel : PySem.W.keepIn K (.ref a_kernel) = true)
    (l_law_all_told : K.lookup a_law_all_told = some ⟨oc_law_all_told, od_law_all_told, .func (PySem.W.fnOf "_law_all_told" "_law_all_told" (defArgs s_law_all_told) (defBody s_law_all_told) (defScope s_law_all_told) .none kV_law_all_told dc_law_all_told pm_law_all_told an_law_all_told cd_law_all_told ct_law_all_told), sl_law_all_told⟩)
    (c_law_all_told : PySem.W.codeIn K cd_law_all_told "_law_all_told" = true)
    (k_law_all_told : PySem.W.keepIn K (.ref a_law_all_told) = true)
    (l_law_led : K.lookup a_law_led = some ⟨oc_law_led, od_law_led, .func (PySem.W.fnOf "_law_led" "_law_led" (defArgs s_law_led) (defBody s_law_led) (defScope s_law_led) .none kV_law_led dc_law_led pm_law_led an_law_led cd_law_led ct_law_led), sl_law_led⟩)
    (c_law_led : PySem.W.codeIn K cd_law_led "_law_led" = true)
    (k_law_led : PySem.W.keepIn K (.ref a_law_led) = true)
    (l_law_own : K.lookup a_law_own = some ⟨oc_law_own, od_law_own, .func (PySem.W.fnOf "_law_own" "_law_own" (defArgs s_law_own) (defBody s_law_own) (defScope s_law_own) .none kV_law_own dc_law_own pm_law_own an_law_own cd_law_own ct_law_own), sl_law_own⟩)
    (c_law_own : PySem.W.codeIn K cd_law_own "_law_own" = true)
    (k_law_own : PySem.W.keepIn K (.ref a_law_own) = true)
    (l_law_head : K.lookup a_law_head = some ⟨oc_law_head, od_law_head, .func (PySem.W.fnOf "_law_head" "_law_head" (defArgs s_law_head) (defBody s_law_head) (defScope s_law_head) .none kV_law_head dc_law_head pm_law_head an_law_head cd_law_head ct_law_head), sl_law_head⟩)
    (c_law_head : PySem.W.codeIn K cd_law_head "_law_head" = true)
    (k_law_head : PySem.W.keepIn K (.ref a_law_head) = true)
    (l_law_taken_off : K.lookup a_law_taken_off = some ⟨oc_law_taken_off, od_law_taken_off, .func (PySem.W.fnOf "_law_taken_off" "_law_taken_off" (defArgs s_law_taken_off) (defBody s_law_taken_off) (defScope s_law_taken_off) .none kV_law_taken_off dc_law_taken_off pm_law_taken_off an_law_taken_off cd_law_taken_off ct_law_taken_off), sl_law_taken_off⟩)
    (c_law_taken_off : PySem.W.codeIn K cd_law_taken_off "_law_taken_off" = true)
    (k_law_taken_off : PySem.W.keepIn K (.ref a_law_taken_off) = true)
    (l_Ratio_eq : K.lookup a_Ratio_eq = some ⟨oc_Ratio_eq, od_Ratio_eq, .func (PySem.W.fnOf "__eq__" "Ratio.__eq__" (defArgs s_Ratio_eq) (defBody s_Ratio_eq) (defScope s_Ratio_eq) .none kV_Ratio_eq dc_Ratio_eq pm_Ratio_eq an_Ratio_eq cd_Ratio_eq ct_Ratio_eq), sl_Ratio_eq⟩)
    (c_Ratio_eq : PySem.W.codeIn K cd_Ratio_eq "Ratio.__eq__" = true)
    (k_Ratio_eq : PySem.W.keepIn K (.ref a_Ratio_eq) = true)
    (l_law_is_nought : K.lookup a_law_is_nought = some ⟨oc_law_is_nought, od_law_is_nought, .func (PySem.W.fnOf "_law_is_nought" "_law_is_nought" (defArgs s_law_is_nought) (defBody s_law_is_nought) (defScope s_law_is_nought) .none kV_law_is_nought dc_law_is_nought pm_law_is_nought an_law_is_nought cd_law_is_nought ct_law_is_nought), sl_law_is_nought⟩)
    (c_law_is_nought : PySem.W.codeIn K cd_law_is_nought "_law_is_nought" = true)
    (k_law_is_nought : PySem.W.keepIn K (.ref a_law_is_nought) = true)
    (l_law_is_in_steps : K.lookup a_law_is_in_steps = some ⟨oc_law_is_in_steps, od_law_is_in_steps, .func (PySem.W.fnOf "_law_is_in_steps" "_law_is_in_steps" (defArgs s_law_is_in_steps) (defBody s_law_is_in_steps) (defScope s_law_is_in_steps) .none kV_law_is_in_steps dc_law_is_in_steps pm_law_is_in_steps an_law_is_in_steps cd_law_is_in_steps ct_law_is_in_steps), sl_law_is_in_steps⟩)
    (c_law_is_in_steps : PySem.W.codeIn K cd_law_is_in_steps "_law_is_in_steps" = true)
    (k_law_is_in_steps : PySem.W.keepIn K (.ref a_law_is_in_steps) = true)
    (l_law_free : K.lookup a_law_free = some ⟨oc_law_free, od_law_free, .func (PySem.W.fnOf "_law_free" "_law_free" (defArgs s_law_free) (defBody s_law_free) (defScope s_law_free) .none kV_law_free dc_law_free pm_law_free an_law_free cd_law_free ct_law_free), sl_law_free⟩)
    (c_law_free : PySem.W.codeIn K cd_law_free "_law_free" = true)
    (k_law_free : PySem.W.keepIn K (.ref a_law_free) = true)
    (l_law_are_ratios : K.lookup a_law_are_ratios = some ⟨oc_law_are_ratios, od_law_are_ratios, .func (PySem.W.fnOf "_law_are_ratios" "_law_are_ratios" (defArgs s_law_are_ratios) (defBody s_law_are_ratios) (defScope s_law_are_ratios) .none kV_law_are_ratios dc_law_are_ratios pm_law_are_ratios an_law_are_ratios cd_law_are_ratios ct_law_are_ratios), sl_law_are_ratios⟩)
    (c_law_are_ratios : PySem.W.codeIn K cd_law_are_ratios "_law_are_ratios" = true)
    (k_law_are_ratios : PySem.W.keepIn K (.ref a_law_are_ratios) = true)
    (l_law_bare : K.lookup a_law_bare = some ⟨oc_law_bare, od_law_bare, .func (PySem.W.fnOf "_law_bare" "_law_bare" (defArgs s_law_bare) (defBody s_law_bare) (defScope s_law_bare) .none kV_law_bare dc_law_bare pm_law_bare an_law_bare cd_law_bare ct_law_bare), sl_law_bare⟩)
    (c_law_bare : PySem.W.codeIn K cd_law_bare "_law_bare" = true)
    (k_law_bare : PySem.W.keepIn K (.ref a_law_bare) = true)
    (l_Ratio_repr : K.lookup a_Ratio_repr = some ⟨oc_Ratio_repr, od_Ratio_repr, .func (PySem.W.fnOf "__repr__" "Ratio.__repr__" (defArgs s_Ratio_repr) (defBody s_Ratio_repr) (defScope s_Ratio_repr) .none kV_Ratio_repr dc_Ratio_repr pm_Ratio_repr an_Ratio_repr cd_Ratio_repr ct_Ratio_repr), sl_Ratio_repr⟩)
    (c_Ratio_repr : PySem.W.codeIn K cd_Ratio_repr "Ratio.__repr__" = true)
    (k_Ratio_repr : PySem.W.keepIn K (.ref a_Ratio_repr) = true)
    (l_law_right : K.lookup a_law_right = some ⟨oc_law_right, od_law_right, .func (PySem.W.fnOf "_law_right" "_law_right" (defArgs s_law_right) (defBody s_law_right) (defScope s_law_right) .none kV_law_right dc_law_right pm_law_right an_law_right cd_law_right ct_law_right), sl_law_right⟩)
    (c_law_right : PySem.W.codeIn K cd_law_right "_law_right" = true)
    (k_law_right : PySem.W.keepIn K (.ref a_law_right) = true)
    (l_law : K.lookup a_law = some ⟨oc_law, od_law, .func (PySem.W.fnOf "law" "law" (defArgs s_law) (defBody s_law) (defScope s_law) .none kV_law dc_law pm_law an_law cd_law ct_law), sl_law⟩)
    (c_law : PySem.W.codeIn K cd_law "law" = true)
    (k_law : PySem.W.keepIn K (.ref a_law) = true)
    : ∃ (fd : FuncData) (T : CT), T.sc = scOf K ∧ (∀ (s : Shared) (v : Value), BindsTo s fd ⟨[v], []⟩ [("_law_script", v)]) ∧ ∀ base : Heap, K.In base → base.Ns mainGlobals mg → FnG l.prog w K mg base 9 fa fd ["_law_script"] (sp0 T 1 G_law) := by
  have e := (PySem.W.mg_of X G h_law).symm.trans hfa
  have e2 : a_law = fa := by
    injection e with e
    injection e with e
  subst e2
  let M : Facts K mg := {
    C_Ratio := C_Ratio,
    a_law_pot := a_law_pot,
    d_law_pot := (PySem.W.fnOf "_law_pot" "_law_pot" (defArgs s_law_pot) (defBody s_law_pot) (defScope s_law_pot) .none kV_law_pot dc_law_pot pm_law_pot an_law_pot cd_law_pot ct_law_pot),
    a_law_draw := a_law_draw,
    d_law_draw := (PySem.W.fnOf "_law_draw" "_law_draw" (defArgs s_law_draw) (defBody s_law_draw) (defScope s_law_draw) .none kV_law_draw dc_law_draw pm_law_draw an_law_draw cd_law_draw ct_law_draw),
    a_law_pick := a_law_pick,
    d_law_pick := (PySem.W.fnOf "_law_pick" "_law_pick" (defArgs s_law_pick) (defBody s_law_pick) (defScope s_law_pick) .none kV_law_pick dc_law_pick pm_law_pick an_law_pick cd_law_pick ct_law_pick),
    a_law_sum := a_law_sum,
    d_law_sum := (PySem.W.fnOf "_law_sum" "_law_sum" (defArgs s_law_sum) (defBody s_law_sum) (defScope s_law_sum) .none kV_law_sum dc_law_sum pm_law_sum an_law_sum cd_law_sum ct_law_sum),
    a_law_product := a_law_product,
    d_law_product := (PySem.W.fnOf "_law_product" "_law_product" (defArgs s_law_product) (defBody s_law_product) (defScope s_law_product) .none kV_law_product dc_law_product pm_law_product an_law_product cd_law_product ct_law_product),
    a_is_integer := a_is_integer,
    d_is_integer := (PySem.W.fnOf "is_integer" "is_integer" (defArgs s_is_integer) (defBody s_is_integer) (defScope s_is_integer) .none kV_is_integer dc_is_integer pm_is_integer an_is_integer cd_is_integer ct_is_integer),
    a_is_count := a_is_count,
    d_is_count := (PySem.W.fnOf "is_count" "is_count" (defArgs s_is_count) (defBody s_is_count) (defScope s_is_count) .none kV_is_count dc_is_count pm_is_count an_is_count cd_is_count ct_is_count),
    a_is_list := a_is_list,
    d_is_list := (PySem.W.fnOf "is_list" "is_list" (defArgs s_is_list) (defBody s_is_list) (defScope s_is_list) .none kV_is_list dc_is_list pm_is_list an_is_list cd_is_list ct_is_list),
    a_greatest_divisor := a_greatest_divisor,
    d_greatest_divisor := (PySem.W.fnOf "greatest_divisor" "greatest_divisor" (defArgs s_greatest_divisor) (defBody s_greatest_divisor) (defScope s_greatest_divisor) .none kV_greatest_divisor dc_greatest_divisor pm_greatest_divisor an_greatest_divisor cd_greatest_divisor ct_greatest_divisor),
    a_Ratio_init := a_Ratio_init,
    d_Ratio_init := (PySem.W.fnOf "__init__" "Ratio.__init__" (defArgs s_Ratio_init) (defBody s_Ratio_init) (defScope s_Ratio_init) (.ref da_Ratio_init) kV_Ratio_init dc_Ratio_init pm_Ratio_init an_Ratio_init cd_Ratio_init ct_Ratio_init),
    a_as_ratio := a_as_ratio,
    d_as_ratio := (PySem.W.fnOf "as_ratio" "as_ratio" (defArgs s_as_ratio) (defBody s_as_ratio) (defScope s_as_ratio) .none kV_as_ratio dc_as_ratio pm_as_ratio an_as_ratio cd_as_ratio ct_as_ratio),
    a_is_number := a_is_number,
    d_is_number := (PySem.W.fnOf "is_number" "is_number" (defArgs s_is_number) (defBody s_is_number) (defScope s_is_number) .none kV_is_number dc_is_number pm_is_number an_is_number cd_is_number ct_is_number),
    a_are_numbers := a_are_numbers,
    d_are_numbers := (PySem.W.fnOf "are_numbers" "are_numbers" (defArgs s_are_numbers) (defBody s_are_numbers) (defScope s_are_numbers) .none kV_are_numbers dc_are_numbers pm_are_numbers an_are_numbers cd_are_numbers ct_are_numbers),
    a_law_number := a_law_number,
    d_law_number := (PySem.W.fnOf "_law_number" "_law_number" (defArgs s_law_number) (defBody s_law_number) (defScope s_law_number) .none kV_law_number dc_law_number pm_law_number an_law_number cd_law_number ct_law_number),
    a_law_told := a_law_told,
    d_law_told := (PySem.W.fnOf "_law_told" "_law_told" (defArgs s_law_told) (defBody s_law_told) (defScope s_law_told) .none kV_law_told dc_law_told pm_law_told an_law_told cd_law_told ct_law_told),
    a_law_row := a_law_row,
    d_law_row := (PySem.W.fnOf "_law_row" "_law_row" (defArgs s_law_row) (defBody s_law_row) (defScope s_law_row) .none kV_law_row dc_law_row pm_law_row an_law_row cd_law_row ct_law_row),
    a_law_rows := a_law_rows,
    d_law_rows := (PySem.W.fnOf "_law_rows" "_law_rows" (defArgs s_law_rows) (defBody s_law_rows) (defScope s_law_rows) .none kV_law_rows dc_law_rows pm_law_rows an_law_rows cd_law_rows ct_law_rows),
    a_Ratio_top := a_Ratio_top,
    d_Ratio_top := (PySem.W.fnOf "top" "Ratio.top" (defArgs s_Ratio_top) (defBody s_Ratio_top) (defScope s_Ratio_top) .none kV_Ratio_top dc_Ratio_top pm_Ratio_top an_Ratio_top cd_Ratio_top ct_Ratio_top),
    a_Ratio_bottom := a_Ratio_bottom,
    d_Ratio_bottom := (PySem.W.fnOf "bottom" "Ratio.bottom" (defArgs s_Ratio_bottom) (defBody s_Ratio_bottom) (defScope s_Ratio_bottom) .none kV_Ratio_bottom dc_Ratio_bottom pm_Ratio_bottom an_Ratio_bottom cd_Ratio_bottom ct_Ratio_bottom),
    p_Ratio_bottom := p_Ratio_bottom,
    a_common_bottom := a_common_bottom,
    d_common_bottom := (PySem.W.fnOf "common_bottom" "common_bottom" (defArgs s_common_bottom) (defBody s_common_bottom) (defScope s_common_bottom) .none kV_common_bottom dc_common_bottom pm_common_bottom an_common_bottom cd_common_bottom ct_common_bottom),
    p_Ratio_top := p_Ratio_top,
    a_times_whole := a_times_whole,
    d_times_whole := (PySem.W.fnOf "times_whole" "times_whole" (defArgs s_times_whole) (defBody s_times_whole) (defScope s_times_whole) .none kV_times_whole dc_times_whole pm_times_whole an_times_whole cd_times_whole ct_times_whole),
    a_short_row := a_short_row,
    d_short_row := (PySem.W.fnOf "short_row" "short_row" (defArgs s_short_row) (defBody s_short_row) (defScope s_short_row) .none kV_short_row dc_short_row pm_short_row an_short_row cd_short_row ct_short_row),
    a_whole_row := a_whole_row,
    d_whole_row := (PySem.W.fnOf "whole_row" "whole_row" (defArgs s_whole_row) (defBody s_whole_row) (defScope s_whole_row) .none kV_whole_row dc_whole_row pm_whole_row an_whole_row cd_whole_row ct_whole_row),
    a_first_with := a_first_with,
    d_first_with := (PySem.W.fnOf "_first_with" "_first_with" (defArgs s_first_with) (defBody s_first_with) (defScope s_first_with) .none kV_first_with dc_first_with pm_first_with an_first_with cd_first_with ct_first_with),
    a_less := a_less,
    d_less := (PySem.W.fnOf "_less" "_less" (defArgs s_less) (defBody s_less) (defScope s_less) .none kV_less dc_less pm_less an_less cd_less ct_less),
    a_cleared := a_cleared,
    d_cleared := (PySem.W.fnOf "_cleared" "_cleared" (defArgs s_cleared) (defBody s_cleared) (defScope s_cleared) .none kV_cleared dc_cleared pm_cleared an_cleared cd_cleared ct_cleared),
    a_reduced := a_reduced,
    d_reduced := (PySem.W.fnOf "reduced" "reduced" (defArgs s_reduced) (defBody s_reduced) (defScope s_reduced) .none kV_reduced dc_reduced pm_reduced an_reduced cd_reduced ct_reduced),
    a_kernel_row := a_kernel_row,
    d_kernel_row := (PySem.W.fnOf "_kernel_row" "_kernel_row" (defArgs s_kernel_row) (defBody s_kernel_row) (defScope s_kernel_row) .none kV_kernel_row dc_kernel_row pm_kernel_row an_kernel_row cd_kernel_row ct_kernel_row),
    a_kernel_rows := a_kernel_rows,
    d_kernel_rows := (PySem.W.fnOf "kernel_rows" "kernel_rows" (defArgs s_kernel_rows) (defBody s_kernel_rows) (defScope s_kernel_rows) .none kV_kernel_rows dc_kernel_rows pm_kernel_rows an_kernel_rows cd_kernel_rows ct_kernel_rows),
    a_ratio_rows := a_ratio_rows,
    d_ratio_rows := (PySem.W.fnOf "_ratio_rows" "_ratio_rows" (defArgs s_ratio_rows) (defBody s_ratio_rows) (defScope s_ratio_rows) .none kV_ratio_rows dc_ratio_rows pm_ratio_rows an_ratio_rows cd_ratio_rows ct_ratio_rows),
    a_whole_rows := a_whole_rows,
    d_whole_rows := (PySem.W.fnOf "_whole_rows" "_whole_rows" (defArgs s_whole_rows) (defBody s_whole_rows) (defScope s_whole_rows) .none kV_whole_rows dc_whole_rows pm_whole_rows an_whole_rows cd_whole_rows ct_whole_rows),
    a_is_width := a_is_width,
    d_is_width := (PySem.W.fnOf "_is_width" "_is_width" (defArgs s_is_width) (defBody s_is_width) (defScope s_is_width) .none kV_is_width dc_is_width pm_is_width an_is_width cd_is_width ct_is_width),
    a_check_rows := a_check_rows,
    d_check_rows := (PySem.W.fnOf "_check_rows" "_check_rows" (defArgs s_check_rows) (defBody s_check_rows) (defScope s_check_rows) .none kV_check_rows dc_check_rows pm_check_rows an_check_rows cd_check_rows ct_check_rows),
    a_steps := a_steps,
    d_steps := (PySem.W.fnOf "steps" "steps" (defArgs s_steps) (defBody s_steps) (defScope s_steps) .none kV_steps dc_steps pm_steps an_steps cd_steps ct_steps),
    a_kernel := a_kernel,
    d_kernel := (PySem.W.fnOf "kernel" "kernel" (defArgs s_kernel) (defBody s_kernel) (defScope s_kernel) .none kV_kernel dc_kernel pm_kernel an_kernel cd_kernel ct_kernel),
    a_law_all_told := a_law_all_told,
    d_law_all_told := (PySem.W.fnOf "_law_all_told" "_law_all_told" (defArgs s_law_all_told) (defBody s_law_all_told) (defScope s_law_all_told) .none kV_law_all_told dc_law_all_told pm_law_all_told an_law_all_told cd_law_all_told ct_law_all_told),
    a_law_led := a_law_led,
    d_law_led := (PySem.W.fnOf "_law_led" "_law_led" (defArgs s_law_led) (defBody s_law_led) (defScope s_law_led) .none kV_law_led dc_law_led pm_law_led an_law_led cd_law_led ct_law_led),
    a_law_own := a_law_own,
    d_law_own := (PySem.W.fnOf "_law_own" "_law_own" (defArgs s_law_own) (defBody s_law_own) (defScope s_law_own) .none kV_law_own dc_law_own pm_law_own an_law_own cd_law_own ct_law_own),
    a_law_head := a_law_head,
    d_law_head := (PySem.W.fnOf "_law_head" "_law_head" (defArgs s_law_head) (defBody s_law_head) (defScope s_law_head) .none kV_law_head dc_law_head pm_law_head an_law_head cd_law_head ct_law_head),
    a_law_taken_off := a_law_taken_off,
    d_law_taken_off := (PySem.W.fnOf "_law_taken_off" "_law_taken_off" (defArgs s_law_taken_off) (defBody s_law_taken_off) (defScope s_law_taken_off) .none kV_law_taken_off dc_law_taken_off pm_law_taken_off an_law_taken_off cd_law_taken_off ct_law_taken_off),
    a_Ratio_eq := a_Ratio_eq,
    d_Ratio_eq := (PySem.W.fnOf "__eq__" "Ratio.__eq__" (defArgs s_Ratio_eq) (defBody s_Ratio_eq) (defScope s_Ratio_eq) .none kV_Ratio_eq dc_Ratio_eq pm_Ratio_eq an_Ratio_eq cd_Ratio_eq ct_Ratio_eq),
    a_law_is_nought := a_law_is_nought,
    d_law_is_nought := (PySem.W.fnOf "_law_is_nought" "_law_is_nought" (defArgs s_law_is_nought) (defBody s_law_is_nought) (defScope s_law_is_nought) .none kV_law_is_nought dc_law_is_nought pm_law_is_nought an_law_is_nought cd_law_is_nought ct_law_is_nought),
    a_law_is_in_steps := a_law_is_in_steps,
    d_law_is_in_steps := (PySem.W.fnOf "_law_is_in_steps" "_law_is_in_steps" (defArgs s_law_is_in_steps) (defBody s_law_is_in_steps) (defScope s_law_is_in_steps) .none kV_law_is_in_steps dc_law_is_in_steps pm_law_is_in_steps an_law_is_in_steps cd_law_is_in_steps ct_law_is_in_steps),
    a_law_free := a_law_free,
    d_law_free := (PySem.W.fnOf "_law_free" "_law_free" (defArgs s_law_free) (defBody s_law_free) (defScope s_law_free) .none kV_law_free dc_law_free pm_law_free an_law_free cd_law_free ct_law_free),
    a_law_are_ratios := a_law_are_ratios,
    d_law_are_ratios := (PySem.W.fnOf "_law_are_ratios" "_law_are_ratios" (defArgs s_law_are_ratios) (defBody s_law_are_ratios) (defScope s_law_are_ratios) .none kV_law_are_ratios dc_law_are_ratios pm_law_are_ratios an_law_are_ratios cd_law_are_ratios ct_law_are_ratios),
    a_law_bare := a_law_bare,
    d_law_bare := (PySem.W.fnOf "_law_bare" "_law_bare" (defArgs s_law_bare) (defBody s_law_bare) (defScope s_law_bare) .none kV_law_bare dc_law_bare pm_law_bare an_law_bare cd_law_bare ct_law_bare),
    a_Ratio_repr := a_Ratio_repr,
    d_Ratio_repr := (PySem.W.fnOf "__repr__" "Ratio.__repr__" (defArgs s_Ratio_repr) (defBody s_Ratio_repr) (defScope s_Ratio_repr) .none kV_Ratio_repr dc_Ratio_repr pm_Ratio_repr an_Ratio_repr cd_Ratio_repr ct_Ratio_repr),
    a_law_right := a_law_right,
    d_law_right := (PySem.W.fnOf "_law_right" "_law_right" (defArgs s_law_right) (defBody s_law_right) (defScope s_law_right) .none kV_law_right dc_law_right pm_law_right an_law_right cd_law_right ct_law_right),
    a_law := a_law,
    d_law := (PySem.W.fnOf "law" "law" (defArgs s_law) (defBody s_law) (defScope s_law) .none kV_law dc_law pm_law an_law cd_law ct_law),
    n_int := (PySem.W.mg_none_of X G h_n_int),
    n_max := (PySem.W.mg_none_of X G h_n_max),
    n_len := (PySem.W.mg_none_of X G h_n_len),
    n_abs := (PySem.W.mg_none_of X G h_n_abs),
    F_law_pot := (fun_mk (st := s_law_pot) l_law_pot c_law_pot k_law_pot),
    b_law_pot := ((fun_mk (st := s_law_pot) l_law_pot c_law_pot k_law_pot).binds (ps := ["_law_script", "_law_k"]) fun _ _ _ _ _ _ us hl => match us, hl with | [_, _], _ => rfl),
    n_divmod := (PySem.W.mg_none_of X G h_n_divmod),
    F_law_draw := (fun_mk (st := s_law_draw) l_law_draw c_law_draw k_law_draw),
    b_law_draw := ((fun_mk (st := s_law_draw) l_law_draw c_law_draw k_law_draw).binds (ps := ["_law_pot_here", "_law_size"]) fun _ _ _ _ _ _ us hl => match us, hl with | [_, _], _ => rfl),
    m_law_draw := (PySem.W.mg_of X G h_m_law_draw),
    F_law_pick := (fun_mk (st := s_law_pick) l_law_pick c_law_pick k_law_pick),
    b_law_pick := ((fun_mk (st := s_law_pick) l_law_pick c_law_pick k_law_pick).binds (ps := ["_law_pot_here", "_law_some"]) fun _ _ _ _ _ _ us hl => match us, hl with | [_, _], _ => rfl),
    F_law_sum := (fun_mk (st := s_law_sum) l_law_sum c_law_sum k_law_sum),
    b_law_sum := ((fun_mk (st := s_law_sum) l_law_sum c_law_sum k_law_sum).binds (ps := ["_law_one", "_law_other"]) fun _ _ _ _ _ _ us hl => match us, hl with | [_, _], _ => rfl),
    F_law_product := (fun_mk (st := s_law_product) l_law_product c_law_product k_law_product),
    b_law_product := ((fun_mk (st := s_law_product) l_law_product c_law_product k_law_product).binds (ps := ["_law_one", "_law_other"]) fun _ _ _ _ _ _ us hl => match us, hl with | [_, _], _ => rfl),
    n_isinstance := (PySem.W.mg_none_of X G h_n_isinstance),
    ca := (fun c q h => by
      match c, h with
      | 0, h => cases h; exact ⟨⟨cl1_C_Ratio, cl2_C_Ratio, cl3_C_Ratio, cl4_C_Ratio⟩, ca_ca_C_Ratio, ca_cn, ca_ct, ca_cm_C_Ratio⟩
      | _ + 1, h => cases h),
    i_int := (fun d t h => by
      cases d with
      | non => cases h; exact (kit_ty (r := false) (by decide +kernel))
      | bl b => cases h; exact (kit_ty (r := true) (by decide +kernel))
      | int i => cases h; exact (kit_ty (r := true) (by decide +kernel))
      | str z => cases h; exact (kit_ty (r := false) (by decide +kernel))
      | lst l => cases h; exact (kit_ty (r := false) (by decide +kernel))
      | tup l => cases h; exact (kit_ty (r := false) (by decide +kernel))
      | obj c l => match c, h with
        | 0, h => cases h; exact (kit_obj i_int_obj_C_Ratio (by decide +kernel))
        | _ + 1, h => cases h
      | cls c => cases h
      | scr l => cases h),
    i_bool := (fun d t h => by
      cases d with
      | non => cases h; exact (kit_ty (r := false) (by decide +kernel))
      | bl b => cases h; exact (kit_ty (r := true) (by decide +kernel))
      | int i => cases h; exact (kit_ty (r := false) (by decide +kernel))
      | str z => cases h; exact (kit_ty (r := false) (by decide +kernel))
      | lst l => cases h; exact (kit_ty (r := false) (by decide +kernel))
      | tup l => cases h; exact (kit_ty (r := false) (by decide +kernel))
      | obj c l => match c, h with
        | 0, h => cases h; exact (kit_obj i_bool_obj_C_Ratio (by decide +kernel))
        | _ + 1, h => cases h
      | cls c => cases h
      | scr l => cases h),
    n_bool := (PySem.W.mg_none_of X G h_n_bool),
    F_is_integer := (fun_mk (st := s_is_integer) l_is_integer c_is_integer k_is_integer),
    b_is_integer := ((fun_mk (st := s_is_integer) l_is_integer c_is_integer k_is_integer).binds (ps := ["value"]) fun _ _ _ _ _ _ us hl => match us, hl with | [_], _ => rfl),
    m_is_integer := (PySem.W.mg_of X G h_m_is_integer),
    F_is_count := (fun_mk (st := s_is_count) l_is_count c_is_count k_is_count),
    b_is_count := ((fun_mk (st := s_is_count) l_is_count c_is_count k_is_count).binds (ps := ["value"]) fun _ _ _ _ _ _ us hl => match us, hl with | [_], _ => rfl),
    i_list := (fun d t h => by
      cases d with
      | non => cases h; exact (kit_ty (r := false) (by decide +kernel))
      | bl b => cases h; exact (kit_ty (r := false) (by decide +kernel))
      | int i => cases h; exact (kit_ty (r := false) (by decide +kernel))
      | str z => cases h; exact (kit_ty (r := false) (by decide +kernel))
      | lst l => cases h; exact (kit_ty (r := true) (by decide +kernel))
      | tup l => cases h; exact (kit_ty (r := false) (by decide +kernel))
      | obj c l => match c, h with
        | 0, h => cases h; exact (kit_obj i_list_obj_C_Ratio (by decide +kernel))
        | _ + 1, h => cases h
      | cls c => cases h
      | scr l => cases h),
    n_list := (PySem.W.mg_none_of X G h_n_list),
    i_tuple := (fun d t h => by
      cases d with
      | non => cases h; exact (kit_ty (r := false) (by decide +kernel))
      | bl b => cases h; exact (kit_ty (r := false) (by decide +kernel))
      | int i => cases h; exact (kit_ty (r := false) (by decide +kernel))
      | str z => cases h; exact (kit_ty (r := false) (by decide +kernel))
      | lst l => cases h; exact (kit_ty (r := false) (by decide +kernel))
      | tup l => cases h; exact (kit_ty (r := true) (by decide +kernel))
      | obj c l => match c, h with
        | 0, h => cases h; exact (kit_obj i_tuple_obj_C_Ratio (by decide +kernel))
        | _ + 1, h => cases h
      | cls c => cases h
      | scr l => cases h),
    n_tuple := (PySem.W.mg_none_of X G h_n_tuple),
    F_is_list := (fun_mk (st := s_is_list) l_is_list c_is_list k_is_list),
    b_is_list := ((fun_mk (st := s_is_list) l_is_list c_is_list k_is_list).binds (ps := ["value"]) fun _ _ _ _ _ _ us hl => match us, hl with | [_], _ => rfl),
    m_gcd := (PySem.W.mg_of X G h_m_gcd),
    F_greatest_divisor := (fun_mk (st := s_greatest_divisor) l_greatest_divisor c_greatest_divisor k_greatest_divisor),
    b_greatest_divisor := ((fun_mk (st := s_greatest_divisor) l_greatest_divisor c_greatest_divisor k_greatest_divisor).binds (ps := ["numbers"]) fun _ _ _ _ _ _ us hl => match us, hl with | [_], _ => rfl),
    hc_Ratio := ⟨cl1_C_Ratio, cl2_C_Ratio, cl3_C_Ratio, cl4_C_Ratio⟩,
    na_Ratio_top := h_na_Ratio_top,
    na_Ratio_bottom := h_na_Ratio_bottom,
    F_Ratio_init := (funD_mk (dvs := [V.int 1]) l_Ratio_init c_Ratio_init k_Ratio_init (by simp) dl_Ratio_init dd_Ratio_init (show Vals [V.int 1] [.int 1 dt0_Ratio_init] from (.cons ⟨_, rfl⟩ .nil))),
    i_Ratio := (fun d t h => by
      cases d with
      | non => cases h; exact (kit_own ic_C_Ratio it_C_Ratio i_Ratio_NoneType)
      | bl b => cases h; exact (kit_own ic_C_Ratio it_C_Ratio i_Ratio_bool)
      | int i => cases h; exact (kit_own ic_C_Ratio it_C_Ratio i_Ratio_int)
      | str z => cases h; exact (kit_own ic_C_Ratio it_C_Ratio i_Ratio_str)
      | lst l => cases h; exact (kit_own ic_C_Ratio it_C_Ratio i_Ratio_list)
      | tup l => cases h; exact (kit_own ic_C_Ratio it_C_Ratio i_Ratio_tuple)
      | obj c l => match c, h with
        | 0, h => cases h; exact kit_self
        | _ + 1, h => cases h
      | cls c => cases h
      | scr l => cases h),
    m_Ratio := (PySem.W.mg_of X G h_m_Ratio),
    mk_Ratio := ⟨mk1_mk_Ratio, f_Ratio_init, g_Ratio_init, mk2_mk_Ratio⟩,
    bi_Ratio_init_1 := (bndI_of (funD_mk (dvs := [V.int 1]) l_Ratio_init c_Ratio_init k_Ratio_init (by simp) dl_Ratio_init dd_Ratio_init (show Vals [V.int 1] [.int 1 dt0_Ratio_init] from (.cons ⟨_, rfl⟩ .nil))) 1 0 [] [.int 1] (by simp) (lits_cons rfl lits_nil) fun _ _ _ _ _ _ _ us its ws h1 h2 h3 => match us, its, ws, h1, h2, h3 with | [_, _], [_], [], _, _, _ => ⟨_, rfl, rfl⟩),
    F_as_ratio := (fun_mk (st := s_as_ratio) l_as_ratio c_as_ratio k_as_ratio),
    b_as_ratio := ((fun_mk (st := s_as_ratio) l_as_ratio c_as_ratio k_as_ratio).binds (ps := ["number"]) fun _ _ _ _ _ _ us hl => match us, hl with | [_], _ => rfl),
    F_is_number := (fun_mk (st := s_is_number) l_is_number c_is_number k_is_number),
    b_is_number := ((fun_mk (st := s_is_number) l_is_number c_is_number k_is_number).binds (ps := ["value"]) fun _ _ _ _ _ _ us hl => match us, hl with | [_], _ => rfl),
    m_is_list := (PySem.W.mg_of X G h_m_is_list),
    m_is_number := (PySem.W.mg_of X G h_m_is_number),
    n_all := (PySem.W.mg_none_of X G h_n_all),
    F_are_numbers := (fun_mk (st := s_are_numbers) l_are_numbers c_are_numbers k_are_numbers),
    b_are_numbers := ((fun_mk (st := s_are_numbers) l_are_numbers c_are_numbers k_are_numbers).binds (ps := ["value", "many"]) fun _ _ _ _ _ _ us hl => match us, hl with | [_, _], _ => rfl),
    F_law_number := (fun_mk (st := s_law_number) l_law_number c_law_number k_law_number),
    b_law_number := ((fun_mk (st := s_law_number) l_law_number c_law_number k_law_number).binds (ps := ["_law_pot_here"]) fun _ _ _ _ _ _ us hl => match us, hl with | [_], _ => rfl),
    bi_Ratio_init_2 := (bndI_of (funD_mk (dvs := [V.int 1]) l_Ratio_init c_Ratio_init k_Ratio_init (by simp) dl_Ratio_init dd_Ratio_init (show Vals [V.int 1] [.int 1 dt0_Ratio_init] from (.cons ⟨_, rfl⟩ .nil))) 2 1 [] [] (by simp) lits_nil fun _ _ _ _ _ _ _ us its ws h1 h2 h3 => match us, its, ws, h1, h2, h3 with | [_, _, _], [_], [], _, _, _ => ⟨_, rfl, rfl⟩),
    F_law_told := (fun_mk (st := s_law_told) l_law_told c_law_told k_law_told),
    b_law_told := ((fun_mk (st := s_law_told) l_law_told c_law_told k_law_told).binds (ps := ["_law_number_here"]) fun _ _ _ _ _ _ us hl => match us, hl with | [_], _ => rfl),
    n_range := (PySem.W.mg_none_of X G h_n_range),
    m_law_number := (PySem.W.mg_of X G h_m_law_number),
    F_law_row := (fun_mk (st := s_law_row) l_law_row c_law_row k_law_row),
    b_law_row := ((fun_mk (st := s_law_row) l_law_row c_law_row k_law_row).binds (ps := ["_law_pot_here", "_law_wide"]) fun _ _ _ _ _ _ us hl => match us, hl with | [_, _], _ => rfl),
    m_law_row := (PySem.W.mg_of X G h_m_law_row),
    m_law_pick := (PySem.W.mg_of X G h_m_law_pick),
    n_zip := (PySem.W.mg_none_of X G h_n_zip),
    m_law_sum := (PySem.W.mg_of X G h_m_law_sum),
    m_law_product := (PySem.W.mg_of X G h_m_law_product),
    F_law_rows := (fun_mk (st := s_law_rows) l_law_rows c_law_rows k_law_rows),
    b_law_rows := ((fun_mk (st := s_law_rows) l_law_rows c_law_rows k_law_rows).binds (ps := ["_law_pot_here", "_law_many", "_law_wide"]) fun _ _ _ _ _ _ us hl => match us, hl with | [_, _, _], _ => rfl),
    F_Ratio_top := (fun_mk (st := s_Ratio_top) l_Ratio_top c_Ratio_top k_Ratio_top),
    b_Ratio_top := ((fun_mk (st := s_Ratio_top) l_Ratio_top c_Ratio_top k_Ratio_top).binds (ps := ["self"]) fun _ _ _ _ _ _ us hl => match us, hl with | [_], _ => rfl),
    F_Ratio_bottom := (fun_mk (st := s_Ratio_bottom) l_Ratio_bottom c_Ratio_bottom k_Ratio_bottom),
    b_Ratio_bottom := ((fun_mk (st := s_Ratio_bottom) l_Ratio_bottom c_Ratio_bottom k_Ratio_bottom).binds (ps := ["self"]) fun _ _ _ _ _ _ us hl => match us, hl with | [_], _ => rfl),
    pr_Ratio_bottom := ⟨f_Ratio_bottom, pg_Ratio_bottom, pt_Ratio_bottom, rs_Ratio_bottom, pc_Ratio_bottom⟩,
    m_lcm := (PySem.W.mg_of X G h_m_lcm),
    F_common_bottom := (fun_mk (st := s_common_bottom) l_common_bottom c_common_bottom k_common_bottom),
    b_common_bottom := ((fun_mk (st := s_common_bottom) l_common_bottom c_common_bottom k_common_bottom).binds (ps := ["row"]) fun _ _ _ _ _ _ us hl => match us, hl with | [_], _ => rfl),
    pr_Ratio_top := ⟨f_Ratio_top, pg_Ratio_top, pt_Ratio_top, rs_Ratio_top, pc_Ratio_top⟩,
    F_times_whole := (fun_mk (st := s_times_whole) l_times_whole c_times_whole k_times_whole),
    b_times_whole := ((fun_mk (st := s_times_whole) l_times_whole c_times_whole k_times_whole).binds (ps := ["row", "times"]) fun _ _ _ _ _ _ us hl => match us, hl with | [_, _], _ => rfl),
    m_greatest_divisor := (PySem.W.mg_of X G h_m_greatest_divisor),
    F_short_row := (fun_mk (st := s_short_row) l_short_row c_short_row k_short_row),
    b_short_row := ((fun_mk (st := s_short_row) l_short_row c_short_row k_short_row).binds (ps := ["row"]) fun _ _ _ _ _ _ us hl => match us, hl with | [_], _ => rfl),
    m_short_row := (PySem.W.mg_of X G h_m_short_row),
    m_times_whole := (PySem.W.mg_of X G h_m_times_whole),
    m_common_bottom := (PySem.W.mg_of X G h_m_common_bottom),
    F_whole_row := (fun_mk (st := s_whole_row) l_whole_row c_whole_row k_whole_row),
    b_whole_row := ((fun_mk (st := s_whole_row) l_whole_row c_whole_row k_whole_row).binds (ps := ["row"]) fun _ _ _ _ _ _ us hl => match us, hl with | [_], _ => rfl),
    F_first_with := (fun_mk (st := s_first_with) l_first_with c_first_with k_first_with),
    b_first_with := ((fun_mk (st := s_first_with) l_first_with c_first_with k_first_with).binds (ps := ["rows", "low", "place"]) fun _ _ _ _ _ _ us hl => match us, hl with | [_, _, _], _ => rfl),
    F_less := (fun_mk (st := s_less) l_less c_less k_less),
    b_less := ((fun_mk (st := s_less) l_less c_less k_less).binds (ps := ["row", "head", "place", "pivot"]) fun _ _ _ _ _ _ us hl => match us, hl with | [_, _, _, _], _ => rfl),
    n_enumerate := (PySem.W.mg_none_of X G h_n_enumerate),
    m_less := (PySem.W.mg_of X G h_m_less),
    F_cleared := (fun_mk (st := s_cleared) l_cleared c_cleared k_cleared),
    b_cleared := ((fun_mk (st := s_cleared) l_cleared c_cleared k_cleared).binds (ps := ["rows", "at", "place", "pivot"]) fun _ _ _ _ _ _ us hl => match us, hl with | [_, _, _, _], _ => rfl),
    m_first_with := (PySem.W.mg_of X G h_m_first_with),
    m_cleared := (PySem.W.mg_of X G h_m_cleared),
    F_reduced := (fun_mk (st := s_reduced) l_reduced c_reduced k_reduced),
    b_reduced := ((fun_mk (st := s_reduced) l_reduced c_reduced k_reduced).binds (ps := ["rows", "wide"]) fun _ _ _ _ _ _ us hl => match us, hl with | [_, _], _ => rfl),
    F_kernel_row := (fun_mk (st := s_kernel_row) l_kernel_row c_kernel_row k_kernel_row),
    b_kernel_row := ((fun_mk (st := s_kernel_row) l_kernel_row c_kernel_row k_kernel_row).binds (ps := ["found", "heads", "pivot", "free", "wide"]) fun _ _ _ _ _ _ us hl => match us, hl with | [_, _, _, _, _], _ => rfl),
    m_reduced := (PySem.W.mg_of X G h_m_reduced),
    m_kernel_row := (PySem.W.mg_of X G h_m_kernel_row),
    F_kernel_rows := (fun_mk (st := s_kernel_rows) l_kernel_rows c_kernel_rows k_kernel_rows),
    b_kernel_rows := ((fun_mk (st := s_kernel_rows) l_kernel_rows c_kernel_rows k_kernel_rows).binds (ps := ["rows", "wide"]) fun _ _ _ _ _ _ us hl => match us, hl with | [_, _], _ => rfl),
    m_as_ratio := (PySem.W.mg_of X G h_m_as_ratio),
    F_ratio_rows := (fun_mk (st := s_ratio_rows) l_ratio_rows c_ratio_rows k_ratio_rows),
    b_ratio_rows := ((fun_mk (st := s_ratio_rows) l_ratio_rows c_ratio_rows k_ratio_rows).binds (ps := ["rows"]) fun _ _ _ _ _ _ us hl => match us, hl with | [_], _ => rfl),
    m_ratio_rows := (PySem.W.mg_of X G h_m_ratio_rows),
    m_whole_row := (PySem.W.mg_of X G h_m_whole_row),
    F_whole_rows := (fun_mk (st := s_whole_rows) l_whole_rows c_whole_rows k_whole_rows),
    b_whole_rows := ((fun_mk (st := s_whole_rows) l_whole_rows c_whole_rows k_whole_rows).binds (ps := ["rows"]) fun _ _ _ _ _ _ us hl => match us, hl with | [_], _ => rfl),
    m_is_count := (PySem.W.mg_of X G h_m_is_count),
    mi_MOST_WIDE := ⟨_, PySem.W.mg_of X G h_mi_MOST_WIDE⟩,
    F_is_width := (fun_mk (st := s_is_width) l_is_width c_is_width k_is_width),
    b_is_width := ((fun_mk (st := s_is_width) l_is_width c_is_width k_is_width).binds (ps := ["value"]) fun _ _ _ _ _ _ us hl => match us, hl with | [_], _ => rfl),
    mi_MOST_ROWS := ⟨_, PySem.W.mg_of X G h_mi_MOST_ROWS⟩,
    m_is_width := (PySem.W.mg_of X G h_m_is_width),
    m_are_numbers := (PySem.W.mg_of X G h_m_are_numbers),
    F_check_rows := (fun_mk (st := s_check_rows) l_check_rows c_check_rows k_check_rows),
    b_check_rows := ((fun_mk (st := s_check_rows) l_check_rows c_check_rows k_check_rows).binds (ps := ["rows"]) fun _ _ _ _ _ _ us hl => match us, hl with | [_], _ => rfl),
    m_check_rows := (PySem.W.mg_of X G h_m_check_rows),
    m_whole_rows := (PySem.W.mg_of X G h_m_whole_rows),
    F_steps := (fun_mk (st := s_steps) l_steps c_steps k_steps),
    b_steps := ((fun_mk (st := s_steps) l_steps c_steps k_steps).binds (ps := ["rows"]) fun _ _ _ _ _ _ us hl => match us, hl with | [_], _ => rfl),
    m_kernel_rows := (PySem.W.mg_of X G h_m_kernel_rows),
    F_kernel := (fun_mk (st := s_kernel) l_kernel c_kernel k_kernel),
    b_kernel := ((fun_mk (st := s_kernel) l_kernel c_kernel k_kernel).binds (ps := ["rows", "wide"]) fun _ _ _ _ _ _ us hl => match us, hl with | [_, _], _ => rfl),
    m_law_told := (PySem.W.mg_of X G h_m_law_told),
    F_law_all_told := (fun_mk (st := s_law_all_told) l_law_all_told c_law_all_told k_law_all_told),
    b_law_all_told := ((fun_mk (st := s_law_all_told) l_law_all_told c_law_all_told k_law_all_told).binds (ps := ["_law_rows_here"]) fun _ _ _ _ _ _ us hl => match us, hl with | [_], _ => rfl),
    F_law_led := (fun_mk (st := s_law_led) l_law_led c_law_led k_law_led),
    b_law_led := ((fun_mk (st := s_law_led) l_law_led c_law_led k_law_led).binds (ps := ["_law_row_here", "_law_other"]) fun _ _ _ _ _ _ us hl => match us, hl with | [_, _], _ => rfl),
    F_law_own := (fun_mk (st := s_law_own) l_law_own c_law_own k_law_own),
    b_law_own := ((fun_mk (st := s_law_own) l_law_own c_law_own k_law_own).binds (ps := ["_law_numbers"]) fun _ _ _ _ _ _ us hl => match us, hl with | [_], _ => rfl),
    F_law_head := (fun_mk (st := s_law_head) l_law_head c_law_head k_law_head),
    b_law_head := ((fun_mk (st := s_law_head) l_law_head c_law_head k_law_head).binds (ps := ["_law_row_here"]) fun _ _ _ _ _ _ us hl => match us, hl with | [_], _ => rfl),
    m_law_head := (PySem.W.mg_of X G h_m_law_head),
    F_law_taken_off := (fun_mk (st := s_law_taken_off) l_law_taken_off c_law_taken_off k_law_taken_off),
    b_law_taken_off := ((fun_mk (st := s_law_taken_off) l_law_taken_off c_law_taken_off k_law_taken_off).binds (ps := ["_law_row_here", "_law_others"]) fun _ _ _ _ _ _ us hl => match us, hl with | [_, _], _ => rfl),
    F_Ratio_eq := (fun_mk (st := s_Ratio_eq) l_Ratio_eq c_Ratio_eq k_Ratio_eq),
    b_Ratio_eq := ((fun_mk (st := s_Ratio_eq) l_Ratio_eq c_Ratio_eq k_Ratio_eq).binds (ps := ["self", "other"]) fun _ _ _ _ _ _ us hl => match us, hl with | [_, _], _ => rfl),
    e_Ratio_eq := h_e_Ratio_eq,
    ef_Ratio_eq := h_ef_Ratio_eq,
    tp_Ratio := (fun d t h => by
      cases d with
      | non => cases h; exact tp_Ratio_NoneType
      | bl b => cases h; exact tp_Ratio_bool
      | int i => cases h; exact tp_Ratio_int
      | str z => cases h; exact tp_Ratio_str
      | lst l => cases h; exact tp_Ratio_list
      | tup l => cases h; exact tp_Ratio_tuple
      | obj c l => match c, h with
        | 0, h => cases h; exact tp_Ratio_obj_C_Ratio
        | _ + 1, h => cases h
      | cls c => cases h
      | scr l => cases h),
    ne_Ratio_eq := h_ne_Ratio_eq,
    ob_Ratio := h_ob_Ratio,
    F_law_is_nought := (fun_mk (st := s_law_is_nought) l_law_is_nought c_law_is_nought k_law_is_nought),
    b_law_is_nought := ((fun_mk (st := s_law_is_nought) l_law_is_nought c_law_is_nought k_law_is_nought).binds (ps := ["_law_row_here"]) fun _ _ _ _ _ _ us hl => match us, hl with | [_], _ => rfl),
    m_law_is_nought := (PySem.W.mg_of X G h_m_law_is_nought),
    F_law_is_in_steps := (fun_mk (st := s_law_is_in_steps) l_law_is_in_steps c_law_is_in_steps k_law_is_in_steps),
    b_law_is_in_steps := ((fun_mk (st := s_law_is_in_steps) l_law_is_in_steps c_law_is_in_steps k_law_is_in_steps).binds (ps := ["_law_rows_here"]) fun _ _ _ _ _ _ us hl => match us, hl with | [_], _ => rfl),
    m_law_taken_off := (PySem.W.mg_of X G h_m_law_taken_off),
    F_law_free := (fun_mk (st := s_law_free) l_law_free c_law_free k_law_free),
    b_law_free := ((fun_mk (st := s_law_free) l_law_free c_law_free k_law_free).binds (ps := ["_law_rows_here"]) fun _ _ _ _ _ _ us hl => match us, hl with | [_], _ => rfl),
    F_law_are_ratios := (fun_mk (st := s_law_are_ratios) l_law_are_ratios c_law_are_ratios k_law_are_ratios),
    b_law_are_ratios := ((fun_mk (st := s_law_are_ratios) l_law_are_ratios c_law_are_ratios k_law_are_ratios).binds (ps := ["_law_row_here"]) fun _ _ _ _ _ _ us hl => match us, hl with | [_], _ => rfl),
    m_law_own := (PySem.W.mg_of X G h_m_law_own),
    F_law_bare := (fun_mk (st := s_law_bare) l_law_bare c_law_bare k_law_bare),
    b_law_bare := ((fun_mk (st := s_law_bare) l_law_bare c_law_bare k_law_bare).binds (ps := ["_law_rows_here"]) fun _ _ _ _ _ _ us hl => match us, hl with | [_], _ => rfl),
    F_Ratio_repr := (fun_mk (st := s_Ratio_repr) l_Ratio_repr c_Ratio_repr k_Ratio_repr),
    b_Ratio_repr := ((fun_mk (st := s_Ratio_repr) l_Ratio_repr c_Ratio_repr k_Ratio_repr).binds (ps := ["self"]) fun _ _ _ _ _ _ us hl => match us, hl with | [_], _ => rfl),
    s_Ratio_repr := h_s_Ratio_repr,
    sf_Ratio_repr := h_sf_Ratio_repr,
    m_law_rows := (PySem.W.mg_of X G h_m_law_rows),
    m_law_all_told := (PySem.W.mg_of X G h_m_law_all_told),
    n_repr := (PySem.W.mg_none_of X G h_n_repr),
    m_steps := (PySem.W.mg_of X G h_m_steps),
    m_law_bare := (PySem.W.mg_of X G h_m_law_bare),
    m_law_are_ratios := (PySem.W.mg_of X G h_m_law_are_ratios),
    m_law_is_in_steps := (PySem.W.mg_of X G h_m_law_is_in_steps),
    m_law_free := (PySem.W.mg_of X G h_m_law_free),
    m_kernel := (PySem.W.mg_of X G h_m_kernel),
    m_law_led := (PySem.W.mg_of X G h_m_law_led),
    F_law_right := (fun_mk (st := s_law_right) l_law_right c_law_right k_law_right),
    b_law_right := ((fun_mk (st := s_law_right) l_law_right c_law_right k_law_right).binds (ps := ["_law_pot_here"]) fun _ _ _ _ _ _ us hl => match us, hl with | [_], _ => rfl),
    m_law_right := (PySem.W.mg_of X G h_m_law_right),
    m_law_pot := (PySem.W.mg_of X G h_m_law_pot),
    F_law := (fun_mk (st := s_law) l_law c_law k_law),
    b_law := ((fun_mk (st := s_law) l_law c_law k_law).binds (ps := ["_law_script"]) fun _ _ _ _ _ _ us hl => match us, hl with | [_], _ => rfl) }
  exact ⟨M.d_law, TT K C_Ratio, rfl, fun s v => .of_eq rfl, fun base _ _ => ok_law M⟩
end My
namespace My
open PySem PySem.Spec PyProof.Rows L2 ClX Dl PyProof
section
variable {l : List D} {a1 a2 a3 a4 a5 a6 a7 a8 a9 a10 a11 : Sl} {w b b' k : Nat} {rs : List (List P2)} {A T N : List (List Int)} {p p2 : Int} {h g fr : Nat → Nat} {F : Nat → Vec}
theorem y10 {hd d : D} (e : G_kernel [hd, .int (w : Int)] = some d) : r10 (JJ l (.val (.int (w : Int))) a2 a3 (.val hd) a5 a6 a7 a8 a9 a10 a11) = some (.nx (JJ l (.val (.int (w : Int))) a2 a3 (.val hd) a5 a6 a7 a8 (.val d) a10 a11)) := set_eq (call2 rfl rfl e)
theorem y11 {hd d : D} (e : G_law_bare [hd] = some d) : r11 (JJ l a1 a2 a3 a4 a5 a6 a7 a8 (.val hd) a10 a11) = some (.nx (JJ l a1 a2 a3 a4 a5 a6 a7 a8 (.val hd) (.val d) a11)) := set_eq (call1 rfl e)
theorem y12 (S : Stp w b A T p h) (K : Knl w b' A N p2 k g F fr) (hw : w ≤ 5) (hb : b' ≤ 383) : r12 (JJ l (.val (.int (w : Int))) a2 a3 a4 a5 a6 (.val (encRR (T.map (bareR p)))) a8 a9 (.val (encRR (N.map (bareR p2)))) a11) = some (.nx (JJ l (.val (.int (w : Int))) a2 a3 a4 a5 a6 (.val (encRR (T.map (bareR p)))) a8 a9 (.val (encRR (N.map (bareR p2)))) a11)) := by
  have mny := kn_many S K
  have i := p_steps_in K.lw (show w ≤ 1000 by omega) (by omega) K.pz K.kr.frw K.kr.st K.bd K.bp (by omega)
  have c1 : fNot (fB (fCall G_law_is_in_steps (gPos []) (fCons (fV 10) fNil) fNil)) (JJ l (.val (.int (w : Int))) a2 a3 a4 a5 a6 (.val (encRR (T.map (bareR p)))) a8 a9 (.val (encRR (N.map (bareR p2)))) a11) = some (false, JJ l (.val (.int (w : Int))) a2 a3 a4 a5 a6 (.val (encRR (T.map (bareR p)))) a8 a9 (.val (encRR (N.map (bareR p2)))) a11) := not_f (fB_eq (call1 rfl i))
  have n1 : fLenN 10 (JJ l (.val (.int (w : Int))) a2 a3 a4 a5 a6 (.val (encRR (T.map (bareR p)))) a8 a9 (.val (encRR (N.map (bareR p2)))) a11) = some (.int (N.length : Int), JJ l (.val (.int (w : Int))) a2 a3 a4 a5 a6 (.val (encRR (T.map (bareR p)))) a8 a9 (.val (encRR (N.map (bareR p2)))) a11) := by
    have : fLenN 10 (JJ l (.val (.int (w : Int))) a2 a3 a4 a5 a6 (.val (encRR (T.map (bareR p)))) a8 a9 (.val (encRR (N.map (bareR p2)))) a11) = some (.int (((N.map (bareR p2)).map encR).length : Int), JJ l (.val (.int (w : Int))) a2 a3 a4 a5 a6 (.val (encRR (T.map (bareR p)))) a8 a9 (.val (encRR (N.map (bareR p2)))) a11) := rfl
    rw [this, List.length_map, List.length_map]
  have n2 : fLenN 7 (JJ l (.val (.int (w : Int))) a2 a3 a4 a5 a6 (.val (encRR (T.map (bareR p)))) a8 a9 (.val (encRR (N.map (bareR p2)))) a11) = some (.int (T.length : Int), JJ l (.val (.int (w : Int))) a2 a3 a4 a5 a6 (.val (encRR (T.map (bareR p)))) a8 a9 (.val (encRR (N.map (bareR p2)))) a11) := by
    have : fLenN 7 (JJ l (.val (.int (w : Int))) a2 a3 a4 a5 a6 (.val (encRR (T.map (bareR p)))) a8 a9 (.val (encRR (N.map (bareR p2)))) a11) = some (.int (((T.map (bareR p)).map encR).length : Int), JJ l (.val (.int (w : Int))) a2 a3 a4 a5 a6 (.val (encRR (T.map (bareR p)))) a8 a9 (.val (encRR (N.map (bareR p2)))) a11) := rfl
    rw [this, List.length_map, List.length_map]
  have gg := gN3_int ((N.length : Int) + (T.length : Int)) (w : Int)
  rw [decide_eq_true (by omega)] at gg
  have c2 : fB (fBin gN3 (fBin gAdd0 (fLenN 10) (fLenN 7)) (fV 1)) (JJ l (.val (.int (w : Int))) a2 a3 a4 a5 a6 (.val (encRR (T.map (bareR p)))) a8 a9 (.val (encRR (N.map (bareR p2)))) a11) = some (false, JJ l (.val (.int (w : Int))) a2 a3 a4 a5 a6 (.val (encRR (T.map (bareR p)))) a8 a9 (.val (encRR (N.map (bareR p2)))) a11) := fB_eq (bin_eq (bin_eq n1 n2 (add0_int _ _)) rfl gg)
  exact sIf_f ((or_f c1).trans c2)
theorem lead0 (H : Hnd w rs) (K : Knl w b' (rs.map msO) N p2 k g F fr) {r : List P2} (hr : r ∈ rs) {x : List Int} (hx : x ∈ N) : (ledP r (bareR p2 x) (0, 1)).1 = 0 := by
  obtain ⟨i, hi, e⟩ := List.mem_iff_getElem.mp hx
  have e1 : rw' N i = x := by show N[i]?.getD [] = x; rw [List.getElem?_eq_getElem hi, e]; rfl
  have lb : (bareR p2 x).length = w := by show (List.map _ _).length = w; rw [List.length_map]; exact K.lw x hx
  obtain ⟨⟨m, bm⟩, v⟩ := led_dot (H.lw r hr) lb (H.pb hr) (bare_pb K.pz K.bp (K.bd x hx))
  refine (vp0 bm).mp ?_
  rw [v]
  have o := kn_orth K (List.mem_map_of_mem hr) hi
  have q : dot w (vr r) (vr (bareR p2 x)) = (1 / 7776) * dot w (vq (msO r)) (vE N p2 i) := by
    show sm w _ = _ * sm w _
    rw [← sm_mul]
    refine sm_congr fun j _ => ?_
    have e2 := vr_ms (H.ok r hr) j
    have e3 := vr_bare K.pz x j
    show vr r j * vr (bareR p2 x) j = 1 / 7776 * (vq (msO r) j * (((cf (rw' N i) j : Int) : Rat) / (p2 : Rat)))
    rw [e3, e1, e2]
    grind
  rw [q]
  show 1 / 7776 * dot w (vq (msO r)) (vE N p2 i) = 0
  rw [o]
  grind
theorem y13 (H : Hnd w rs) (K : Knl w b' (rs.map msO) N p2 k g F fr) (hN : N.length ≤ 5) (hw : w ≤ 5) (hb : b' ≤ 383) : ∃ a11', r13 (JJ l a1 a2 (.val (encRR rs)) a4 a5 a6 a7 a8 a9 (.val (encRR (N.map (bareR p2)))) a11) = some (.nx (JJ l a1 a2 (.val (encRR rs)) a4 a5 a6 a7 a8 a9 (.val (encRR (N.map (bareR p2)))) a11')) := by
  obtain ⟨δ', e, hI⟩ := loop_inv (f := encR) (ft := gN 11) (g := r13b) (fun q δ => (∀ r, r ∈ q → r ∈ rs) ∧ ∃ s, δ = JJ l a1 a2 (.val (encRR rs)) a4 a5 a6 a7 a8 a9 (.val (encRR (N.map (bareR p2)))) s) rs (JJ l a1 a2 (.val (encRR rs)) a4 a5 a6 a7 a8 a9 (.val (encRR (N.map (bareR p2)))) a11) (fun r q δ ⟨hm, s, ed⟩ => by
    subst ed
    have hr := hm r (List.mem_cons_self ..)
    refine ⟨JJ l a1 a2 (.val (encRR rs)) a4 a5 a6 a7 a8 a9 (.val (encRR (N.map (bareR p2)))) (.val (encR r)), JJ l a1 a2 (.val (encRR rs)) a4 a5 a6 a7 a8 a9 (.val (encRR (N.map (bareR p2)))) (.val (encR r)), rfl, ?_, fun x hx => hm x (List.mem_cons_of_mem _ hx), _, rfl⟩
    have m := fr_eq (flc_filt (δ0 := JJ l a1 a2 (.val (encRR rs)) a4 a5 a6 a7 a8 a9 (.val (encRR (N.map (bareR p2)))) (.val (encR r))) (fI := fSq (fV 10)) (ft := gN 13) (fc := fB (fBin gN3 (fBin gIx (fCall G_law_led (gPos []) (fCons (fV 11) (fCons (fV 13) fNil)) fNil) (fC (.int 0))) (fC (.int 0)))) (fe := fC (.int 1)) (vs := [13]) (f := encR) (c := fun _ => false) (g := fun _ => D.int 1) (l := N.map (bareR p2)) rfl rfl (by rw [List.length_map]; unfold big; omega) fun y hy => ⟨[.own .pot l, a1, a2, .val (encRR rs), a4, a5, a6, a7, a8, a9, .val (encRR (N.map (bareR p2))), .val (encR r), .un, .val (encR y), .un], rfl, by
      obtain ⟨x, hx, rfl⟩ := List.mem_map.mp hy
      have ld := p_led (H.pb hr) (bare_pb K.pz K.bp (K.bd x hx)) (by rw [H.lw r hr]; exact hw) (by omega)
      have gg := gN3_int (ledP r (bareR p2 x) (0, 1)).1 0
      rw [decide_eq_true (lead0 H K hr hx)] at gg
      exact fB_eq (bin_eq (bin_eq (call2 rfl rfl ld) rfl (ix_0 _ _)) rfl gg), fun z => (by cases z), rfl⟩)
    rw [List.filter_eq_nil_iff.mpr (fun _ _ => by simp)] at m
    have c : fB (fBin gN3 (fFr (fLc (fSq (fV 10)) (gN 13) (fB (fBin gN3 (fBin gIx (fCall G_law_led (gPos []) (fCons (fV 11) (fCons (fV 13) fNil)) fNil) (fC (.int 0))) (fC (.int 0)))) (fC (.int 1)) [13])) (fFr (fLst fNil))) (JJ l a1 a2 (.val (encRR rs)) a4 a5 a6 a7 a8 a9 (.val (encRR (N.map (bareR p2)))) (.val (encR r))) = some (false, JJ l a1 a2 (.val (encRR rs)) a4 a5 a6 a7 a8 a9 (.val (encRR (N.map (bareR p2)))) (.val (encR r))) := fB_eq (bin_eq m rfl (gN3_lst (eqLs_nil [])))
    exact sIf_f c) ⟨fun r hr => hr, a11, rfl⟩
  obtain ⟨_, s, rfl⟩ := hI
  exact ⟨s, for_eq rfl e⟩
theorem y14 {hd : D} {t : Str} (S : Stp w b A T p h) (K : Knl w b' A N p2 k g F fr) (h0 : 1 ≤ w) (hw : w ≤ 5) (hb : b ≤ 383) (hb' : b' ≤ 383) (hb0 : 1 ≤ b) (hb0' : 1 ≤ b') (ht : funRp rp2 [hd] = some (.str t)) : ∃ δ, r14 (JJ l (.val (.int (w : Int))) a2 a3 (.val hd) (.val (.str t)) (.val (.lst (T.map (rowR p)))) a7 a8 (.val (.lst (N.map (rowR p2)))) a10 a11) = some (.rt (.bl true) δ) ∧ δ = JJ l (.val (.int (w : Int))) a2 a3 (.val hd) (.val (.str t)) (.val (.lst (T.map (rowR p)))) a7 a8 (.val (.lst (N.map (rowR p2)))) a10 a11 := by
  have mny := kn_many S K
  obtain ⟨N', p', k', g', F', fr', e1, K2⟩ := p_kernel K.pz (K.bp.mono (by omega)) (rs_rows p2 N) (by omega) K.lw h0 hw hb0' hb' K.bd
  rw [kn_kn S K K2] at e1
  obtain ⟨T', q', h', e2, S2⟩ := p_steps S.pz (S.bp.mono (by omega)) (rs_rows p T) (by omega) S.lw h0 hw hb0 hb S.bd
  rw [st_st S S2] at e2
  have gT := gE3_lst (eqT_self p T)
  have c1 : fBin gE3 (fCall G_kernel (gPos []) fNil (fCons (fV 9) (fCons (fV 1) fNil))) (fV 6) (JJ l (.val (.int (w : Int))) a2 a3 (.val hd) (.val (.str t)) (.val (.lst (T.map (rowR p)))) a7 a8 (.val (.lst (N.map (rowR p2)))) a10 a11) = some (.bl true, JJ l (.val (.int (w : Int))) a2 a3 (.val hd) (.val (.str t)) (.val (.lst (T.map (rowR p)))) a7 a8 (.val (.lst (N.map (rowR p2)))) a10 a11) := bin_eq (callKw2 rfl rfl e1) rfl gT
  have c2 : fBin gE3 (fCall G_steps (gPos []) (fCons (fV 6) fNil) fNil) (fV 6) (JJ l (.val (.int (w : Int))) a2 a3 (.val hd) (.val (.str t)) (.val (.lst (T.map (rowR p)))) a7 a8 (.val (.lst (N.map (rowR p2)))) a10 a11) = some (.bl true, JJ l (.val (.int (w : Int))) a2 a3 (.val hd) (.val (.str t)) (.val (.lst (T.map (rowR p)))) a7 a8 (.val (.lst (N.map (rowR p2)))) a10 a11) := bin_eq (call1 rfl e2) rfl gT
  have f : fFun (funRp rp2) (fCons (fV 4) fNil) (JJ l (.val (.int (w : Int))) a2 a3 (.val hd) (.val (.str t)) (.val (.lst (T.map (rowR p)))) a7 a8 (.val (.lst (N.map (rowR p2)))) a10 a11) = some (.str t, JJ l (.val (.int (w : Int))) a2 a3 (.val hd) (.val (.str t)) (.val (.lst (T.map (rowR p)))) a7 a8 (.val (.lst (N.map (rowR p2)))) a10 a11) := fun_eq rfl ht
  have c3 : fBin gE3 (fFun (funRp rp2) (fCons (fV 4) fNil)) (fV 5) (JJ l (.val (.int (w : Int))) a2 a3 (.val hd) (.val (.str t)) (.val (.lst (T.map (rowR p)))) a7 a8 (.val (.lst (N.map (rowR p2)))) a10 a11) = some (.bl true, JJ l (.val (.int (w : Int))) a2 a3 (.val hd) (.val (.str t)) (.val (.lst (T.map (rowR p)))) a7 a8 (.val (.lst (N.map (rowR p2)))) a10 a11) := bin_eq f rfl (gE3_str t)
  exact ⟨_, ret_eq (and_t c1 (and_t c2 c3)), rfl⟩
end
theorem p_right {l : List D} (P : Pot l) : ∃ l', G_law_right l [] = some (.bl true, l') := by
  obtain ⟨w, m, l1, e1, h0, hw, hm, P1⟩ := y1 P
  obtain ⟨rs, l2, e2, n, Fr⟩ := y2 P1 hw hm
  have hn : rs.length ≤ 5 := by omega
  have H := Fr.hnd hn
  obtain ⟨t, ht⟩ := handed_txt H hw
  have b3 := b383 hw
  have b1 : 1 ≤ bt 23 (w - 1) := by
    have := bt_le 23 (Nat.zero_le (w - 1))
    change 23 ≤ _ at this
    omega
  have ms := msO_ok H
  have bQ : Bd (7776 : Int) 8900 := (bd_of (x := 7776) (n := 13) 7777 (by decide) (by decide) (by decide)).mono (by decide)
  obtain ⟨T, p, h, eT, S⟩ := p_steps (Q := 7776) (by decide) bQ (rs_told H) (by rw [List.length_map]; omega) ms.1 h0 hw (show 1 ≤ 23 by decide) (by decide) ms.2
  obtain ⟨N, p2, k, g, F, fr, eN, K⟩ := p_kernel (Q := 7776) (by decide) bQ (rs_told H) (by rw [List.length_map]; omega) ms.1 h0 hw (show 1 ≤ 23 by decide) (by decide) ms.2
  have mny := kn_many S K
  have bT := p_bare (p := p) (T := T) (by omega) (fun r hr => by rw [S.lw r hr]; omega)
  have bN := p_bare (p := p2) (T := N) (by omega) (fun r hr => by rw [K.lw r hr]; omega)
  rw [← n] at e1 e2
  obtain ⟨a8, e9⟩ := y9 (l := l2) (a1 := .val (.int (w : Int))) (a4 := .val (.lst (rs.map toldR))) (a5 := .val (.str t)) (a7 := .val (encRR (T.map (bareR p)))) Fr hn S h0 hw
  obtain ⟨a11, e13⟩ := y13 (l := l2) (a1 := .val (.int (w : Int))) (a2 := .val (.int (rs.length : Int))) (a4 := .val (.lst (rs.map toldR))) (a5 := .val (.str t)) (a6 := .val (.lst (T.map (rowR p)))) (a7 := .val (encRR (T.map (bareR p)))) (a8 := a8) (a9 := .val (.lst (N.map (rowR p2)))) (a11 := U) H K (by omega) hw b3
  obtain ⟨δ, e14, eδ⟩ := y14 (l := l2) (a2 := .val (.int (rs.length : Int))) (a3 := .val (encRR rs)) (a7 := .val (encRR (T.map (bareR p)))) (a8 := a8) (a10 := .val (encRR (N.map (bareR p2)))) (a11 := a11) S K h0 hw b3 b3 b1 b1 ht
  subst eδ
  refine ⟨l2, ?_⟩
  show (g_law_right (JJ l U U U U U U U U U U U)).bind endP = _
  rw [right_is, seq_nx e1, seq_nx e2, seq_nx (y3 H hw), seq_nx (y4 ht), seq_nx (y5 eT), seq_nx (y6 bT), seq_nx (y7 S hw b3), seq_nx (y8 H hn S hw b3), seq_nx e9, seq_nx (y10 eN), seq_nx (y11 bN), seq_nx (y12 S K hw b3), seq_nx e13, e14]
  rfl
theorem pure (ns : List Int) (h : ns.length ≤ 63) : G_law [.scr ns] = some (.bl true) := by
  obtain ⟨l, e, P⟩ := p_pot ns
  obtain ⟨l', e2⟩ := p_right P
  have f : fCallF G_law_pot (fCons (fV 0) (fCons (fC (.int 0)) fNil)) [.val (.scr ns)] = some (l, [.val (.scr ns)]) := by
    rw [fCallF, cons2 rfl rfl, Option.bind_some]
    dsimp only
    rw [e]
    rfl
  have f2 : fCallPF G_law_right (fCallF G_law_pot (fCons (fV 0) (fCons (fC (.int 0)) fNil))) [.val (.scr ns)] = some (.bl true, [.val (.scr ns)]) := by
    rw [fCallPF, f, Option.bind_some]
    dsimp only
    rw [e2]
    rfl
  exact out1 (d := some (.bl true)) f2
end My
open PySem PySem.W PyProof.Rows
set_option maxRecDepth 100000 in
set_option maxHeartbeats 0 in
theorem PySem.Challenge.cw_soughtrows_k12_whole_steps_and_kernels_holds : PySem.Challenge.rw_soughtrows_k12_whole_steps_and_kernels.Holds := by
  w_on; o_law; k_head; (case hw => w_witness2)
  k_fill
  refine Dl.walk_G (l := PySem.Challenge.rw_soughtrows_k12_whole_steps_and_kernels) (n := _) (k := 9) (G := My.G_law) (x := "_law_script") rfl (by decide) rfl ⟨rfl, by decide, by decide⟩ rfl (fun w h Y => PySem.W.kIn_of Y) ?F ?pure
  case pure => exact My.pure
  case F =>
    intro w mg fa h KX G hmg
    refine' My.all_mk KX G hmg ?h_n_int ?h_n_max ?h_n_len ?h_n_abs ?h_n_divmod ?h_m_law_draw ?h_n_isinstance ?h_n_bool ?h_m_is_integer ?h_n_list ?h_n_tuple ?h_m_gcd ?h_m_Ratio ?h_m_is_list ?h_m_is_number ?h_n_all ?h_n_range ?h_m_law_number ?h_m_law_row ?h_m_law_pick ?h_n_zip ?h_m_law_sum ?h_m_law_product ?h_m_lcm ?h_m_greatest_divisor ?h_m_short_row ?h_m_times_whole ?h_m_common_bottom ?h_n_enumerate ?h_m_less ?h_m_first_with ?h_m_cleared ?h_m_reduced ?h_m_kernel_row ?h_m_as_ratio ?h_m_ratio_rows ?h_m_whole_row ?h_m_is_count ?h_m_is_width ?h_m_are_numbers ?h_m_check_rows ?h_m_whole_rows ?h_m_kernel_rows ?h_m_law_told ?h_m_law_head ?h_m_law_is_nought ?h_m_law_taken_off ?h_m_law_own ?h_m_law_rows ?h_m_law_all_told ?h_n_repr ?h_m_steps ?h_m_law_bare ?h_m_law_are_ratios ?h_m_law_is_in_steps ?h_m_law_free ?h_m_kernel ?h_m_law_led ?h_m_law_right ?h_m_law_pot ?h_mi_MOST_WIDE ?h_mi_MOST_ROWS ?h_law ?mk1_mk_Ratio ?f_Ratio_init ?g_Ratio_init ?mk2_mk_Ratio ?f_Ratio_bottom ?pg_Ratio_bottom ?pt_Ratio_bottom ?pc_Ratio_bottom ?f_Ratio_top ?pg_Ratio_top ?pt_Ratio_top ?pc_Ratio_top ?ca_ca_C_Ratio ?ca_cn ?ca_ct ?ca_cm_C_Ratio ?cl1_C_Ratio ?cl2_C_Ratio ?cl3_C_Ratio ?cl4_C_Ratio ?i_int_obj_C_Ratio ?i_bool_obj_C_Ratio ?i_list_obj_C_Ratio ?i_tuple_obj_C_Ratio ?h_na_Ratio_top ?h_na_Ratio_bottom ?ic_C_Ratio ?it_C_Ratio ?i_Ratio_NoneType ?i_Ratio_bool ?i_Ratio_int ?i_Ratio_str ?i_Ratio_list ?i_Ratio_tuple ?h_e_Ratio_eq ?h_ef_Ratio_eq ?tp_Ratio_NoneType ?tp_Ratio_bool ?tp_Ratio_int ?tp_Ratio_str ?tp_Ratio_list ?tp_Ratio_tuple ?tp_Ratio_obj_C_Ratio ?h_ne_Ratio_eq ?h_ob_Ratio ?h_s_Ratio_repr ?h_sf_Ratio_repr ?l_law_pot ?c_law_pot ?k_law_pot ?l_law_draw ?c_law_draw ?k_law_draw ?l_law_pick ?c_law_pick ?k_law_pick ?l_law_sum ?c_law_sum ?k_law_sum ?l_law_product ?c_law_product ?k_law_product ?l_is_integer ?c_is_integer ?k_is_integer ?l_is_count ?c_is_count ?k_is_count ?l_is_list ?c_is_list ?k_is_list ?l_greatest_divisor ?c_greatest_divisor ?k_greatest_divisor ?l_Ratio_init ?c_Ratio_init ?k_Ratio_init ?dl_Ratio_init ?dd_Ratio_init ?l_as_ratio ?c_as_ratio ?k_as_ratio ?l_is_number ?c_is_number ?k_is_number ?l_are_numbers ?c_are_numbers ?k_are_numbers ?l_law_number ?c_law_number ?k_law_number ?l_law_told ?c_law_told ?k_law_told ?l_law_row ?c_law_row ?k_law_row ?l_law_rows ?c_law_rows ?k_law_rows ?l_Ratio_top ?c_Ratio_top ?k_Ratio_top ?l_Ratio_bottom ?c_Ratio_bottom ?k_Ratio_bottom ?l_common_bottom ?c_common_bottom ?k_common_bottom ?l_times_whole ?c_times_whole ?k_times_whole ?l_short_row ?c_short_row ?k_short_row ?l_whole_row ?c_whole_row ?k_whole_row ?l_first_with ?c_first_with ?k_first_with ?l_less ?c_less ?k_less ?l_cleared ?c_cleared ?k_cleared ?l_reduced ?c_reduced ?k_reduced ?l_kernel_row ?c_kernel_row ?k_kernel_row ?l_kernel_rows ?c_kernel_rows ?k_kernel_rows ?l_ratio_rows ?c_ratio_rows ?k_ratio_rows ?l_whole_rows ?c_whole_rows ?k_whole_rows ?l_is_width ?c_is_width ?k_is_width ?l_check_rows ?c_check_rows ?k_check_rows ?l_steps ?c_steps ?k_steps ?l_kernel ?c_kernel ?k_kernel ?l_law_all_told ?c_law_all_told ?k_law_all_told ?l_law_led ?c_law_led ?k_law_led ?l_law_own ?c_law_own ?k_law_own ?l_law_head ?c_law_head ?k_law_head ?l_law_taken_off ?c_law_taken_off ?k_law_taken_off ?l_Ratio_eq ?c_Ratio_eq ?k_Ratio_eq ?l_law_is_nought ?c_law_is_nought ?k_law_is_nought ?l_law_is_in_steps ?c_law_is_in_steps ?k_law_is_in_steps ?l_law_free ?c_law_free ?k_law_free ?l_law_are_ratios ?c_law_are_ratios ?k_law_are_ratios ?l_law_bare ?c_law_bare ?k_law_bare ?l_Ratio_repr ?c_Ratio_repr ?k_Ratio_repr ?l_law_right ?c_law_right ?k_law_right ?l_law ?c_law ?k_law
    (case h_n_int => k_is)
    (case h_n_max => k_is)
    (case h_n_len => k_is)
    (case h_n_abs => k_is)
    (case h_n_divmod => k_is)
    (case h_m_law_draw => k_is)
    (case h_n_isinstance => k_is)
    (case h_n_bool => k_is)
    (case h_m_is_integer => k_is)
    (case h_n_list => k_is)
    (case h_n_tuple => k_is)
    (case h_m_gcd => k_is)
    (case h_m_Ratio => k_is)
    (case h_m_is_list => k_is)
    (case h_m_is_number => k_is)
    (case h_n_all => k_is)
    (case h_n_range => k_is)
    (case h_m_law_number => k_is)
    (case h_m_law_row => k_is)
    (case h_m_law_pick => k_is)
    (case h_n_zip => k_is)
    (case h_m_law_sum => k_is)
    (case h_m_law_product => k_is)
    (case h_m_lcm => k_is)
    (case h_m_greatest_divisor => k_is)
    (case h_m_short_row => k_is)
    (case h_m_times_whole => k_is)
    (case h_m_common_bottom => k_is)
    (case h_n_enumerate => k_is)
    (case h_m_less => k_is)
    (case h_m_first_with => k_is)
    (case h_m_cleared => k_is)
    (case h_m_reduced => k_is)
    (case h_m_kernel_row => k_is)
    (case h_m_as_ratio => k_is)
    (case h_m_ratio_rows => k_is)
    (case h_m_whole_row => k_is)
    (case h_m_is_count => k_is)
    (case h_m_is_width => k_is)
    (case h_m_are_numbers => k_is)
    (case h_m_check_rows => k_is)
    (case h_m_whole_rows => k_is)
    (case h_m_kernel_rows => k_is)
    (case h_m_law_told => k_is)
    (case h_m_law_head => k_is)
    (case h_m_law_is_nought => k_is)
    (case h_m_law_taken_off => k_is)
    (case h_m_law_own => k_is)
    (case h_m_law_rows => k_is)
    (case h_m_law_all_told => k_is)
    (case h_n_repr => k_is)
    (case h_m_steps => k_is)
    (case h_m_law_bare => k_is)
    (case h_m_law_are_ratios => k_is)
    (case h_m_law_is_in_steps => k_is)
    (case h_m_law_free => k_is)
    (case h_m_kernel => k_is)
    (case h_m_law_led => k_is)
    (case h_m_law_right => k_is)
    (case h_m_law_pot => k_is)
    (case h_mi_MOST_WIDE => k_is)
    (case h_mi_MOST_ROWS => k_is)
    (case h_law => k_is)
    (case mk1_mk_Ratio => k_is)
    (case f_Ratio_init => k_is)
    (case g_Ratio_init => k_is)
    (case mk2_mk_Ratio => k_is)
    (case f_Ratio_bottom => k_is)
    (case pg_Ratio_bottom => k_is)
    (case pt_Ratio_bottom => k_is)
    (case pc_Ratio_bottom => k_is)
    (case f_Ratio_top => k_is)
    (case pg_Ratio_top => k_is)
    (case pt_Ratio_top => k_is)
    (case pc_Ratio_top => k_is)
    (case ca_ca_C_Ratio => k_is)
    (case ca_cn => k_is)
    (case ca_ct => k_is)
    (case ca_cm_C_Ratio => k_is)
    (case cl1_C_Ratio => k_is)
    (case cl2_C_Ratio => k_is)
    (case cl3_C_Ratio => k_is)
    (case cl4_C_Ratio => k_is)
    (case i_int_obj_C_Ratio => k_is)
    (case i_bool_obj_C_Ratio => k_is)
    (case i_list_obj_C_Ratio => k_is)
    (case i_tuple_obj_C_Ratio => k_is)
    (case h_na_Ratio_top => k_is)
    (case h_na_Ratio_bottom => k_is)
    (case ic_C_Ratio => k_is)
    (case it_C_Ratio => k_is)
    (case i_Ratio_NoneType => k_is)
    (case i_Ratio_bool => k_is)
    (case i_Ratio_int => k_is)
    (case i_Ratio_str => k_is)
    (case i_Ratio_list => k_is)
    (case i_Ratio_tuple => k_is)
    (case h_e_Ratio_eq => k_is)
    (case h_ef_Ratio_eq => k_is)
    (case tp_Ratio_NoneType => k_is)
    (case tp_Ratio_bool => k_is)
    (case tp_Ratio_int => k_is)
    (case tp_Ratio_str => k_is)
    (case tp_Ratio_list => k_is)
    (case tp_Ratio_tuple => k_is)
    (case tp_Ratio_obj_C_Ratio => k_is)
    (case h_ne_Ratio_eq => k_is)
    (case h_ob_Ratio => k_is)
    (case h_s_Ratio_repr => k_is)
    (case h_sf_Ratio_repr => k_is)
    (case l_law_pot => k_is)
    (case c_law_pot => k_is)
    (case k_law_pot => k_is)
    (case l_law_draw => k_is)
    (case c_law_draw => k_is)
    (case k_law_draw => k_is)
    (case l_law_pick => k_is)
    (case c_law_pick => k_is)
    (case k_law_pick => k_is)
    (case l_law_sum => k_is)
    (case c_law_sum => k_is)
    (case k_law_sum => k_is)
    (case l_law_product => k_is)
    (case c_law_product => k_is)
    (case k_law_product => k_is)
    (case l_is_integer => k_is)
    (case c_is_integer => k_is)
    (case k_is_integer => k_is)
    (case l_is_count => k_is)
    (case c_is_count => k_is)
    (case k_is_count => k_is)
    (case l_is_list => k_is)
    (case c_is_list => k_is)
    (case k_is_list => k_is)
    (case l_greatest_divisor => k_is)
    (case c_greatest_divisor => k_is)
    (case k_greatest_divisor => k_is)
    (case l_Ratio_init => k_is)
    (case c_Ratio_init => k_is)
    (case k_Ratio_init => k_is)
    (case dl_Ratio_init => k_is)
    (case dd_Ratio_init => exact rfl)
    (case l_as_ratio => k_is)
    (case c_as_ratio => k_is)
    (case k_as_ratio => k_is)
    (case l_is_number => k_is)
    (case c_is_number => k_is)
    (case k_is_number => k_is)
    (case l_are_numbers => k_is)
    (case c_are_numbers => k_is)
    (case k_are_numbers => k_is)
    (case l_law_number => k_is)
    (case c_law_number => k_is)
    (case k_law_number => k_is)
    (case l_law_told => k_is)
    (case c_law_told => k_is)
    (case k_law_told => k_is)
    (case l_law_row => k_is)
    (case c_law_row => k_is)
    (case k_law_row => k_is)
    (case l_law_rows => k_is)
    (case c_law_rows => k_is)
    (case k_law_rows => k_is)
    (case l_Ratio_top => k_is)
    (case c_Ratio_top => k_is)
    (case k_Ratio_top => k_is)
    (case l_Ratio_bottom => k_is)
    (case c_Ratio_bottom => k_is)
    (case k_Ratio_bottom => k_is)
    (case l_common_bottom => k_is)
    (case c_common_bottom => k_is)
    (case k_common_bottom => k_is)
    (case l_times_whole => k_is)
    (case c_times_whole => k_is)
    (case k_times_whole => k_is)
    (case l_short_row => k_is)
    (case c_short_row => k_is)
    (case k_short_row => k_is)
    (case l_whole_row => k_is)
    (case c_whole_row => k_is)
    (case k_whole_row => k_is)
    (case l_first_with => k_is)
    (case c_first_with => k_is)
    (case k_first_with => k_is)
    (case l_less => k_is)
    (case c_less => k_is)
    (case k_less => k_is)
    (case l_cleared => k_is)
    (case c_cleared => k_is)
    (case k_cleared => k_is)
    (case l_reduced => k_is)
    (case c_reduced => k_is)
    (case k_reduced => k_is)
    (case l_kernel_row => k_is)
    (case c_kernel_row => k_is)
    (case k_kernel_row => k_is)
    (case l_kernel_rows => k_is)
    (case c_kernel_rows => k_is)
    (case k_kernel_rows => k_is)
    (case l_ratio_rows => k_is)
    (case c_ratio_rows => k_is)
    (case k_ratio_rows => k_is)
    (case l_whole_rows => k_is)
    (case c_whole_rows => k_is)
    (case k_whole_rows => k_is)
    (case l_is_width => k_is)
    (case c_is_width => k_is)
    (case k_is_width => k_is)
    (case l_check_rows => k_is)
    (case c_check_rows => k_is)
    (case k_check_rows => k_is)
    (case l_steps => k_is)
    (case c_steps => k_is)
    (case k_steps => k_is)
    (case l_kernel => k_is)
    (case c_kernel => k_is)
    (case k_kernel => k_is)
    (case l_law_all_told => k_is)
    (case c_law_all_told => k_is)
    (case k_law_all_told => k_is)
    (case l_law_led => k_is)
    (case c_law_led => k_is)
    (case k_law_led => k_is)
    (case l_law_own => k_is)
    (case c_law_own => k_is)
    (case k_law_own => k_is)
    (case l_law_head => k_is)
    (case c_law_head => k_is)
    (case k_law_head => k_is)
    (case l_law_taken_off => k_is)
    (case c_law_taken_off => k_is)
    (case k_law_taken_off => k_is)
    (case l_Ratio_eq => k_is)
    (case c_Ratio_eq => k_is)
    (case k_Ratio_eq => k_is)
    (case l_law_is_nought => k_is)
    (case c_law_is_nought => k_is)
    (case k_law_is_nought => k_is)
    (case l_law_is_in_steps => k_is)
    (case c_law_is_in_steps => k_is)
    (case k_law_is_in_steps => k_is)
    (case l_law_free => k_is)
    (case c_law_free => k_is)
    (case k_law_free => k_is)
    (case l_law_are_ratios => k_is)
    (case c_law_are_ratios => k_is)
    (case k_law_are_ratios => k_is)
    (case l_law_bare => k_is)
    (case c_law_bare => k_is)
    (case k_law_bare => k_is)
    (case l_Ratio_repr => k_is)
    (case c_Ratio_repr => k_is)
    (case k_Ratio_repr => k_is)
    (case l_law_right => k_is)
    (case c_law_right => k_is)
    (case k_law_right => k_is)
    (case l_law => k_is)
    (case c_law => k_is)
    (case k_law => k_is)
