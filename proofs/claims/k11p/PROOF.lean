import PyProof.Rows.All
import HandS.ForMost
import HandS.OwnEq
import HandS.SlotsOwn
import HandS.Gcd
import KE.KOpsOwn
import HandS.Flow
import HandS.Property
import HandS.Defaults
import HandS.MakeKw
import HandS.ClsMeth
import HandS.More
import HandS.IsInst
import HandS.FStr
import HandS.RaiseMore
import HandS.Wide
import HandS.WideBits
import HandS.Style
import HandS.TupLe
import KE.KCallOwn
import PyProof.ReprRoads
import HandS.Deep
import HandS.Ends
import OpenK.AllK
import Wide.All
import Wide.FinOn
import Open.SpecLaws
import KE.OsGo
import PySem.Challenge.RW_soughtrows_k11_whole_numbers_reckoned
set_option Elab.async false
set_option maxRecDepth 100000
set_option maxHeartbeats 8000000
set_option linter.all false
/-! The data layer: values as data (numbers, texts, lists, tuples, objects), defs as functions of data; over the hand layer's judgements. -/
namespace Dl
open PySem L2

/-- a value as data -/
inductive D where
  | non | bl (b : Bool) | int (i : Int) | str (s : Str) | lst (xs : List D) | tup (xs : List D) | obj (c : Nat) (fs : List D) | cls (c : Nat) | scr (ns : List Int)
/-- no plain value: an own class itself; the law's script -/
def isC : D → Bool
  | .cls _ => true | .scr _ => true | _ => false
/-- the own classes: where class c stands, its attributes in the order in which they are stored -/
structure CT where
  cl : Nat → Option (Addr × List Str)
  /-- lists of ints among the module's own objects -/
  sc : Addr → List Int → Prop
instance : CoeFun CT fun _ => Nat → Option (Addr × List Str) := ⟨CT.cl⟩

mutual
/-- v bears d in H, by objects that S does not hold -/
def Rep (T : CT) (H : Hp) (S : Addr → Prop) : D → V → Prop
  | .non, v => v = .non
  | .bl b, v => v = .bl b
  | .int i, v => v = .int i
  | .str s, v => v = .str s
  | .lst ds, v => ∃ a vs, v = .ref a ∧ H a = some (.lst vs) ∧ ¬ S a ∧ Reps T H S ds vs
  | .tup ds, v => ∃ a vs, v = .ref a ∧ H a = some (.tup vs) ∧ ¬ S a ∧ Reps T H S ds vs
  | .obj c ds, v => ∃ a dx C ns vs, v = .ref a ∧ T c = some (C, ns) ∧ H a = some (.ins C dx (ns.zip vs)) ∧ ns.length = vs.length ∧ ¬ S a ∧ Reps T H S ds vs
  | .cls c, v => ∃ C ns, T c = some (C, ns) ∧ v = .ref C
  | .scr ns, v => ∃ a, v = .ref a ∧ (T.sc a ns ∨ ∃ o, H a = some (.frz o (.lst (ns.map V.int))) ∧ ¬ S a)
def Reps (T : CT) (H : Hp) (S : Addr → Prop) : List D → List V → Prop
  | [], vs => vs = []
  | d :: ds, vs => ∃ v r, vs = v :: r ∧ Rep T H S d v ∧ Reps T H S ds r
end

section
variable {T : CT} {H H' : Hp} {S S' : Addr → Prop}
mutual
theorem Rep.move (hk : ∀ b o, H b = some o → ¬ S b → H' b = some o) (hs : ∀ b, S' b → S b ∨ H b = none) : ∀ {d : D} {v : V}, Rep T H S d v → Rep T H' S' d v
  | .non, _, h => by simpa [Rep] using h
  | .bl _, _, h => by simpa [Rep] using h
  | .int _, _, h => by simpa [Rep] using h
  | .str _, _, h => by simpa [Rep] using h
  | .cls _, _, h => by rw [Rep] at h ⊢; exact h
  | .scr ns, v, h => by
    rw [Rep] at h ⊢
    obtain ⟨a, e, h | ⟨o, ha, na⟩⟩ := h
    · exact ⟨a, e, .inl h⟩
    · exact ⟨a, e, .inr ⟨o, hk _ _ ha na, fun z => (hs a z).elim na fun q => (by rw [q] at ha; cases ha)⟩⟩
  | .lst ds, v, h => by
    rw [Rep] at h ⊢
    obtain ⟨a, vs, e, ha, na, r⟩ := h
    exact ⟨a, vs, e, hk _ _ ha na, fun z => (hs a z).elim na fun q => (by rw [q] at ha; cases ha), Reps.move hk hs r⟩
  | .tup ds, v, h => by
    rw [Rep] at h ⊢
    obtain ⟨a, vs, e, ha, na, r⟩ := h
    exact ⟨a, vs, e, hk _ _ ha na, fun z => (hs a z).elim na fun q => (by rw [q] at ha; cases ha), Reps.move hk hs r⟩
  | .obj c ds, v, h => by
    rw [Rep] at h ⊢
    obtain ⟨a, dx, C, ns, vs, e, hc, ha, hl, na, r⟩ := h
    exact ⟨a, dx, C, ns, vs, e, hc, hk _ _ ha na, hl, fun z => (hs a z).elim na fun q => (by rw [q] at ha; cases ha), Reps.move hk hs r⟩
theorem Reps.move (hk : ∀ b o, H b = some o → ¬ S b → H' b = some o) (hs : ∀ b, S' b → S b ∨ H b = none) : ∀ {ds : List D} {vs : List V}, Reps T H S ds vs → Reps T H' S' ds vs
  | [], _, h => by simpa [Reps] using h
  | d :: ds, vs, h => by
    rw [Reps] at h ⊢
    obtain ⟨v, r, e, h1, h2⟩ := h
    exact ⟨v, r, e, Rep.move hk hs h1, Reps.move hk hs h2⟩
end
theorem Rep.same (hk : Same H H') {d : D} {v : V} (h : Rep T H S d v) : Rep T H' S d v := h.move (fun b o e _ => hk b o e) fun _ z => .inl z
theorem Reps.same (hk : Same H H') {d : List D} {v : List V} (h : Reps T H S d v) : Reps T H' S d v := h.move (fun b o e _ => hk b o e) fun _ z => .inl z
theorem Rep.sub (hs : ∀ b, S' b → S b) {d : D} {v : V} (h : Rep T H S d v) : Rep T H S' d v := h.move (fun _ _ e _ => e) fun b z => .inl (hs b z)
theorem Reps.sub (hs : ∀ b, S' b → S b) {d : List D} {v : List V} (h : Reps T H S d v) : Reps T H S' d v := h.move (fun _ _ e _ => e) fun b z => .inl (hs b z)
theorem Reps.length : ∀ {ds : List D} {vs : List V}, Reps T H S ds vs → vs.length = ds.length
  | [], _, h => by rw [Reps] at h; subst h; rfl
  | d :: ds, _, h => by
    rw [Reps] at h
    obtain ⟨v, r, e, _, h2⟩ := h
    subst e
    simp [Reps.length h2]
theorem Reps.get : ∀ {ds : List D} {vs : List V} {i : Nat} {d : D}, Reps T H S ds vs → ds[i]? = some d → ∃ v, vs[i]? = some v ∧ Rep T H S d v
  | [], _, _, _, _, e => by simp at e
  | d :: ds, _, i, d', h, e => by
    rw [Reps] at h
    obtain ⟨v, r, e1, h1, h2⟩ := h
    subst e1
    cases i with
    | zero => simp at e; subst e; exact ⟨v, rfl, h1⟩
    | succ i =>
      simp at e
      obtain ⟨w, q1, q2⟩ := Reps.get h2 e
      exact ⟨w, by simpa using q1, q2⟩
theorem Reps.getV : ∀ {ds : List D} {vs : List V} {i : Nat} {v : V}, Reps T H S ds vs → vs[i]? = some v → ∃ d, ds[i]? = some d ∧ Rep T H S d v := by
  intro ds vs i v h e
  have hl := h.length
  obtain ⟨hi, _⟩ := List.getElem?_eq_some_iff.mp e
  have hd : ds[i]? = some ds[i] := List.getElem?_eq_getElem (by omega)
  obtain ⟨w, q1, q2⟩ := h.get hd
  rw [e] at q1; cases q1
  exact ⟨_, hd, q2⟩
theorem Reps.nil : Reps T H S [] [] := by rw [Reps]
theorem Reps.cons {d : D} {v : V} {ds : List D} {vs : List V} (h : Rep T H S d v) (hs : Reps T H S ds vs) : Reps T H S (d :: ds) (v :: vs) := by rw [Reps]; exact ⟨v, vs, rfl, h, hs⟩
theorem Reps.append : ∀ {ds es : List D} {vs ws : List V}, Reps T H S ds vs → Reps T H S es ws → Reps T H S (ds ++ es) (vs ++ ws)
  | [], _, _, _, h, h' => by rw [Reps] at h; subst h; exact h'
  | d :: ds, _, _, _, h, h' => by
    rw [Reps] at h
    obtain ⟨v, r, e, h1, h2⟩ := h
    subst e
    exact Reps.cons h1 (Reps.append h2 h')
theorem Reps.take : ∀ {ds : List D} {vs : List V} (n : Nat), Reps T H S ds vs → Reps T H S (ds.take n) (vs.take n)
  | [], _, n, h => by rw [Reps] at h; subst h; simpa using Reps.nil
  | d :: ds, _, 0, h => by simpa using Reps.nil
  | d :: ds, _, n + 1, h => by
    rw [Reps] at h
    obtain ⟨v, r, e, h1, h2⟩ := h
    subst e
    exact Reps.cons h1 (Reps.take n h2)
theorem Reps.drop : ∀ {ds : List D} {vs : List V} (n : Nat), Reps T H S ds vs → Reps T H S (ds.drop n) (vs.drop n)
  | [], _, n, h => by rw [Reps] at h; subst h; simpa using Reps.nil
  | d :: ds, _, 0, h => by simpa using h
  | d :: ds, _, n + 1, h => by
    rw [Reps] at h
    obtain ⟨v, r, e, h1, h2⟩ := h
    subst e
    exact Reps.drop n h2
theorem Reps.set {d : D} {v : V} (r : Rep T H S d v) : ∀ {ds : List D} {vs : List V} (i : Nat), Reps T H S ds vs → Reps T H S (ds.set i d) (vs.set i v)
  | [], _, _, h => by rw [Reps] at h; subst h; simpa using Reps.nil
  | d' :: ds, _, 0, h => by
    rw [Reps] at h
    obtain ⟨v', r', e, h1, h2⟩ := h
    subst e
    exact Reps.cons r h2
  | d' :: ds, _, n + 1, h => by
    rw [Reps] at h
    obtain ⟨v', r', e, h1, h2⟩ := h
    subst e
    exact Reps.cons h1 (Reps.set r n h2)
theorem Reps.reverse {ds : List D} {vs : List V} (h : Reps T H S ds vs) : Reps T H S ds.reverse vs.reverse := by
  induction ds generalizing vs with
  | nil => rw [Reps] at h; subst h; exact Reps.nil
  | cons d ds ih =>
    rw [Reps] at h
    obtain ⟨v, r, e, h1, h2⟩ := h
    subst e
    simp only [List.reverse_cons]
    exact (ih h2).append (Reps.cons h1 Reps.nil)
end

/-! ### the slots -/
/-- what a name alone holds: a list of its own; the caller's list, handed in; an object that is being made -/
inductive Ow where
  | mine | pot | ini (C dx : Addr) (ns : List Str)
def hoOf : Ow → List V → HO
  | .mine, vs => .lst vs
  | .pot, vs => .lst vs
  | .ini C dx ns, vs => .ins C dx (ns.zip vs)
inductive Sl where
  /-- nothing is known -/
  | un
  | val (d : D)
  /-- what may change: it hangs on this name alone -/
  | own (p : Ow) (ds : List D)
abbrev Es := List Sl
def ownAt (σ : L2.St) (δ : Es) (b : Addr) : Prop := ∃ (i : Nat) (p : Ow) (ds : List D), δ[i]? = some (Sl.own p ds) ∧ σ[i]? = some (some (.ref b))
def Av (S0 : Addr → Prop) (σ : L2.St) (δ : Es) (b : Addr) : Prop := S0 b ∨ ownAt σ δ b

structure Ok (T : CT) (S0 : Addr → Prop) (σ : L2.St) (δ : Es) (H : Hp) : Prop where
  len : σ.length = δ.length
  tr : ∀ b, S0 b → ∃ o, H b = some o
  sl : ∀ (i : Nat) d, δ[i]? = some (.val d) → ∃ v, σ[i]? = some (some v) ∧ Rep T H (Av S0 σ δ) d v
  ow : ∀ (i : Nat) p ds, δ[i]? = some (.own p ds) → ∃ a vs, σ[i]? = some (some (.ref a)) ∧ H a = some (hoOf p vs) ∧ Reps T H (Av S0 σ δ) ds vs ∧ (p = .mine → ¬ S0 a)
  dj : ∀ (i j : Nat) p q ds es a, δ[i]? = some (.own p ds) → δ[j]? = some (.own q es) → σ[i]? = some (some (.ref a)) → σ[j]? = some (some (.ref a)) → i = j

structure Step (σ : L2.St) (δ : Es) (H : Hp) (σ' : L2.St) (δ' : Es) (H' : Hp) : Prop where
  keep : ∀ b o, H b = some o → ¬ ownAt σ δ b → H' b = some o
  own : ∀ b, ownAt σ' δ' b → ownAt σ δ b ∨ H b = none
  trk : ∀ b o, H b = some o → ∃ o', H' b = some o'
  pot : ∀ (i : Nat) p ds, p ≠ .mine → δ'[i]? = some (.own p ds) → (∃ ds', δ[i]? = some (.own p ds')) ∧ σ'[i]? = σ[i]?
section
variable {T : CT} {S0 : Addr → Prop} {σ σ1 σ2 : L2.St} {δ δ1 δ2 : Es} {H H1 H2 : Hp}
theorem Step.refl : Step σ δ H σ δ H := ⟨fun _ _ e _ => e, fun _ z => .inl z, fun _ o e => ⟨o, e⟩, fun _ _ ds _ e => ⟨⟨ds, e⟩, rfl⟩⟩
theorem Step.trans (a : Step σ δ H σ1 δ1 H1) (b : Step σ1 δ1 H1 σ2 δ2 H2) : Step σ δ H σ2 δ2 H2 where
  keep := fun c o e n => b.keep c o (a.keep c o e n) fun z => (a.own c z).elim n fun q => by rw [q] at e; cases e
  own := fun c z => (b.own c z).elim (a.own c) fun q => by
    cases e : H c with
    | none => exact .inr rfl
    | some o =>
      obtain ⟨o', e'⟩ := a.trk c o e
      rw [q] at e'; cases e'
  trk := fun c o e => by
    obtain ⟨o1, e1⟩ := a.trk c o e
    exact b.trk c o1 e1
  pot := fun i p ds hp e => by
    obtain ⟨⟨es, e1⟩, q1⟩ := b.pot i p ds hp e
    obtain ⟨z, q2⟩ := a.pot i p es hp e1
    exact ⟨z, q1.trans q2⟩
theorem Step.same (h : Same H H1) : Step σ δ H σ δ H1 := ⟨fun b o e _ => h b o e, fun _ z => .inl z, fun b o e => ⟨o, h b o e⟩, fun _ _ ds _ e => ⟨⟨ds, e⟩, rfl⟩⟩
theorem Ok.trk (k : Ok T S0 σ δ H) {b : Addr} (h : Av S0 σ δ b) : ∃ o, H b = some o := by
  rcases h with h | ⟨i, p, ds, e1, e2⟩
  · exact k.tr b h
  · obtain ⟨a, vs, e3, e4, _⟩ := k.ow i p ds e1
    rw [e2] at e3; cases e3
    exact ⟨_, e4⟩
theorem Ok.fresh (k : Ok T S0 σ δ H) {b : Addr} (h : H b = none) : ¬ Av S0 σ δ b := fun z => by
  obtain ⟨o, e⟩ := k.trk z
  rw [h] at e; cases e
theorem Ok.same (k : Ok T S0 σ δ H) (h : Same H H1) : Ok T S0 σ δ H1 where
  len := k.len
  tr := fun b z => let ⟨o, e⟩ := k.tr b z; ⟨o, h b o e⟩
  sl := fun i d e => let ⟨v, e1, r⟩ := k.sl i d e; ⟨v, e1, r.same h⟩
  ow := fun i p ds e => let ⟨a, vs, e1, e2, r, n⟩ := k.ow i p ds e; ⟨a, vs, e1, h _ _ e2, r.same h, n⟩
  dj := k.dj
/-- a value that was read stays what it is -/
theorem Step.rep (s : Step σ δ H σ1 δ1 H1) {d : D} {v : V} (h : Rep T H (Av S0 σ δ) d v) : Rep T H1 (Av S0 σ1 δ1) d v :=
  h.move (fun b o e n => s.keep b o e fun z => n (.inr z)) fun b z => z.elim (fun z => .inl (.inl z)) fun z => (s.own b z).elim (fun z => .inl (.inr z)) .inr
theorem Step.reps (s : Step σ δ H σ1 δ1 H1) {d : List D} {v : List V} (h : Reps T H (Av S0 σ δ) d v) : Reps T H1 (Av S0 σ1 δ1) d v :=
  h.move (fun b o e n => s.keep b o e fun z => n (.inr z)) fun b z => z.elim (fun z => .inl (.inl z)) fun z => (s.own b z).elim (fun z => .inl (.inr z)) .inr
end

/-! ### the readings by data -/
abbrev FE := Es → Option (D × Es)
abbrev FA := Es → Option (List D × Es)
abbrev FT := Es → Option (Bool × Es)
def tD (T : CT) (f : FE) : TE := fun σ H Q => ∃ S0 δ d δ', Ok T S0 σ δ H ∧ f δ = some (d, δ') ∧ ∀ v H', Ok T S0 σ δ' H' → Step σ δ H σ δ' H' → Rep T H' (Av S0 σ δ') d v → Q v H'
def tDs (T : CT) (f : FA) : TA := fun σ H Q => ∃ S0 δ ds δ', Ok T S0 σ δ H ∧ f δ = some (ds, δ') ∧ ∀ vs H', Ok T S0 σ δ' H' → Step σ δ H σ δ' H' → Reps T H' (Av S0 σ δ') ds vs → Q vs H'
def tDt (T : CT) (f : FT) : TT := fun σ H Q => ∃ S0 δ d δ', Ok T S0 σ δ H ∧ f δ = some (d, δ') ∧ ∀ H', Ok T S0 σ δ' H' → Step σ δ H σ δ' H' → Q d H'
/-- how a statement ends -/
inductive Fl where
  | nx (δ : Es) | bk (δ : Es) | ct (δ : Es) | rt (d : D) (δ : Es)
abbrev FS := Es → Option Fl
def flQ (T : CT) (S0 : Addr → Prop) (σ : L2.St) (δ : Es) (H : Hp) (E : Ends) : Fl → Prop
  | .nx δ' => ∀ σ' H', Ok T S0 σ' δ' H' → Step σ δ H σ' δ' H' → E.nx σ' H'
  | .bk δ' => ∀ σ' H', Ok T S0 σ' δ' H' → Step σ δ H σ' δ' H' → E.bk σ' H'
  | .ct δ' => ∀ σ' H', Ok T S0 σ' δ' H' → Step σ δ H σ' δ' H' → E.ct σ' H'
  | .rt d δ' => ∀ v σ' H', Ok T S0 σ' δ' H' → Step σ δ H σ' δ' H' → Rep T H' (Av S0 σ' δ') d v → E.rt v H'
def tSt (T : CT) (g : FS) : TS := fun E σ H => ∃ S0 δ r, Ok T S0 σ δ H ∧ g δ = some r ∧ flQ T S0 σ δ H E r

section
variable {X : Cx} {T : CT}
theorem PE.imp {e : Expr} {t u : TE} (h : PE X e t) (i : ∀ σ H Q, u σ H Q → t σ H Q) : PE X e u := ⟨fun pins s σ H Q I q => h.run pins s σ H Q I (i σ H Q q)⟩
theorem PT.imp {e : Expr} {t u : TT} (h : PT X e t) (i : ∀ σ H Q, u σ H Q → t σ H Q) : PT X e u := ⟨fun pins s σ H Q I q => h.run pins s σ H Q I (i σ H Q q)⟩
theorem PW.imp {e : Expr} {t u : TT} (h : PW X e t) (i : ∀ σ H Q, u σ H Q → t σ H Q) : PW X e u := ⟨fun w pins s σ H Q I q => h.run w pins s σ H Q I (i σ H Q q)⟩
theorem PA.imp {e : List Expr} {t u : TA} (h : PA X e t) (i : ∀ σ H Q, u σ H Q → t σ H Q) : PA X e u := ⟨fun p pins s σ H Q I q => h.run p pins s σ H Q I (i σ H Q q)⟩
theorem PK.imp {e : List Keyword} {t u : TA} (h : PK X e t) (i : ∀ σ H Q, u σ H Q → t σ H Q) : PK X e u := ⟨fun p pins s σ H Q I q => h.run p pins s σ H Q I (i σ H Q q)⟩
theorem PS.imp {e : Stmt} {t u : TS} (h : PS X e t) (i : ∀ E σ H, u E σ H → t E σ H) : PS X e u := ⟨fun pins s σ H E I q => h.run pins s σ H E I (i E σ H q)⟩
theorem PSs.imp {e : List Stmt} {t u : TS} (h : PSs X e t) (i : ∀ E σ H, u E σ H → t E σ H) : PSs X e u := ⟨fun pins s σ H E I q => h.run pins s σ H E I (i E σ H q)⟩

/-- a constant -/
def fC (d : D) : FE := fun δ => some (d, δ)
def litV : D → Option V
  | .non => some .non | .bl b => some (.bl b) | .int i => some (.int i) | .str s => some (.str s) | _ => none
theorem rep_lit {H : Hp} {S : Addr → Prop} {d : D} {v : V} (h : litV d = some v) : Rep T H S d v := by
  cases d <;> simp [litV] at h <;> subst h <;> simp [Rep]
theorem pd_c {e : Expr} {d : D} {v : V} (h : PE X e (tC v)) (hl : litV d = some v := by rfl) : PE X e (tD T (fC d)) := PE.imp h fun σ H Q ⟨S0, δ, d', δ', ok, e, q⟩ => by
  cases e
  exact q v H ok Step.refl (rep_lit hl)
theorem pd_int {i j pos} : PE X (.Constant (.int i) j pos) (tD T (fC (.int i))) := pd_c pe_int
theorem pd_bl {i j pos} : PE X (.Constant (.bool i) j pos) (tD T (fC (.bl i))) := pd_c pe_bl
theorem pd_non {j pos} : PE X (.Constant .none j pos) (tD T (fC .non)) := pd_c pe_non
theorem pd_str {i j pos} : PE X (.Constant (.str i) j pos) (tD T (fC (.str i))) := pd_c pe_str

/-- a name -/
def fV (i : Nat) : FE := fun δ => match δ[i]? with
  | some (.val d) => some (d, δ)
  | some (.own .mine ds) => some (.lst ds, δ.set i (.val (.lst ds)))
  | _ => none
theorem Ok.freeze {S0 : Addr → Prop} {σ : L2.St} {δ : Es} {H : Hp} {i : Nat} {ds : List D} (k : Ok T S0 σ δ H) (e : δ[i]? = some (.own .mine ds)) :
    ∃ v, σ[i]? = some (some v) ∧ Rep T H (Av S0 σ (δ.set i (.val (.lst ds)))) (.lst ds) v ∧ Ok T S0 σ (δ.set i (.val (.lst ds))) H ∧ Step σ δ H σ (δ.set i (.val (.lst ds))) H := by
  obtain ⟨a, vs, e1, e2, r, na⟩ := k.ow i .mine ds e
  have hi : i < δ.length := (List.getElem?_eq_some_iff.mp e).1
  have own' : ∀ b, ownAt σ (δ.set i (.val (.lst ds))) b → ownAt σ δ b ∧ b ≠ a := fun b ⟨j, p, es, h1, h2⟩ => by
    have hj : j ≠ i := fun z => by
      subst z
      rw [List.getElem?_set_self hi] at h1; cases h1
    rw [List.getElem?_set_ne (Ne.symm hj)] at h1
    refine ⟨⟨j, p, es, h1, h2⟩, fun z => ?_⟩
    subst z
    exact hj (k.dj j i p .mine es ds b h1 e h2 e1)
  have sub : ∀ b, Av S0 σ (δ.set i (.val (.lst ds))) b → Av S0 σ δ b := fun b z => z.elim .inl fun z => .inr (own' b z).1
  have rep : Rep T H (Av S0 σ (δ.set i (.val (.lst ds)))) (.lst ds) (.ref a) := by
    rw [Rep]
    exact ⟨a, vs, rfl, e2, fun z => z.elim (na rfl) fun z => (own' a z).2 rfl, r.sub sub⟩
  refine ⟨_, e1, rep, ⟨by rw [List.length_set]; exact k.len, k.tr, fun j d h => ?_, fun j p es h => ?_, fun j l p q es fs b h1 h2 h3 h4 => ?_⟩, ⟨fun _ _ z _ => z, fun b z => .inl (own' b z).1, fun _ o z => ⟨o, z⟩, fun j p ds' _ h => ?_⟩⟩
  · by_cases hj : j = i
    · subst hj
      rw [List.getElem?_set_self hi] at h; cases h
      exact ⟨_, e1, rep⟩
    · rw [List.getElem?_set_ne (Ne.symm hj)] at h
      obtain ⟨v, q1, q2⟩ := k.sl j d h
      exact ⟨v, q1, q2.sub sub⟩
  · by_cases hj : j = i
    · subst hj
      rw [List.getElem?_set_self hi] at h; cases h
    · rw [List.getElem?_set_ne (Ne.symm hj)] at h
      obtain ⟨b, ws, q1, q2, q3, q4⟩ := k.ow j p es h
      exact ⟨b, ws, q1, q2, q3.sub sub, q4⟩
  · have hj : j ≠ i := fun z => by
      subst z
      rw [List.getElem?_set_self hi] at h1; cases h1
    have hl : l ≠ i := fun z => by
      subst z
      rw [List.getElem?_set_self hi] at h2; cases h2
    rw [List.getElem?_set_ne (Ne.symm hj)] at h1
    rw [List.getElem?_set_ne (Ne.symm hl)] at h2
    exact k.dj j l p q es fs b h1 h2 h3 h4
  · by_cases hj : j = i
    · subst hj
      rw [List.getElem?_set_self hi] at h; cases h
    · rw [List.getElem?_set_ne (Ne.symm hj)] at h
      exact ⟨⟨_, h⟩, rfl⟩
theorem pd_v (i : Nat) {x : Str} {pos : Pos} (hN : X.N[i]? = some x := by rfl) (hv : Vis X.env.scope x := by first | exact Or.inl rfl | exact Or.inr (Or.inl rfl) | exact Or.inr (Or.inr rfl)) (hd : (x == ("__debug__" : Str)) = false := by decide)
    (hcd : (x == ("__classdict__" : Str)) = false := by decide) : PE X (.Name x pos) (tD T (fV i)) := PE.imp (pe_var hN hv hd hcd) fun σ H Q ⟨S0, δ, d, δ', ok, e, q⟩ => by
  unfold fV at e
  cases h : δ[i]? with
  | none => rw [h] at e; cases e
  | some s =>
    rw [h] at e
    cases s with
    | un => cases e
    | val d' =>
      cases e
      obtain ⟨v, e1, r⟩ := ok.sl i _ h
      exact ⟨v, e1, q v H ok Step.refl r⟩
    | own p ds =>
      cases p with
      | pot => cases e
      | ini _ _ _ => cases e
      | mine =>
        cases e
        obtain ⟨v, e1, r, ok', st⟩ := ok.freeze h
        exact ⟨v, e1, q v H ok' st r⟩

/-! arguments -/
def fNil : FA := fun δ => some ([], δ)
def fCons (f : FE) (g : FA) : FA := fun δ => (f δ).bind fun (d, δ1) => (g δ1).bind fun (ds, δ2) => some (d :: ds, δ2)
theorem bind_some2 {α β γ : Type} {o : Option (α × β)} {k : α × β → Option γ} {c : γ} (h : o.bind k = some c) : ∃ a b, o = some (a, b) ∧ k (a, b) = some c := by
  cases o with
  | none => cases h
  | some p => exact ⟨p.1, p.2, rfl, h⟩
theorem pds_nil : PA X [] (tDs T fNil) := PA.imp pa_nil fun σ H Q ⟨S0, δ, ds, δ', ok, e, q⟩ => by
  cases e
  exact q [] H ok Step.refl Reps.nil
theorem pds_cons {e : Expr} {es : List Expr} {f : FE} {g : FA} (h1 : PE X e (tD T f)) (h2 : PA X es (tDs T g))
    (he : starEach (e :: es) X.env = (false, eval e X.env) :: starEach es X.env := by rfl) : PA X (e :: es) (tDs T (fCons f g)) := PA.imp (pa_cons h1 h2 he) fun σ H Q ⟨S0, δ, ds, δ', ok, e, q⟩ => by
  obtain ⟨d, δ1, e1, e⟩ := bind_some2 e
  obtain ⟨dr, δ2, e2, e⟩ := bind_some2 e
  cases e
  exact ⟨S0, δ, d, δ1, ok, e1, fun v H1 ok1 s1 r1 => ⟨S0, δ1, dr, δ', ok1, e2, fun vs H2 ok2 s2 r2 => q _ H2 ok2 (s1.trans s2) (Reps.cons (s2.rep r1) r2)⟩⟩
end
end Dl
/-! own operators: an instance on the left, on the right of an int, in front -/
namespace OwB
open PySem PySem.W PySem.SeqAt PyProof.Rows
open AutoSeq1 (wpAny_loadPart')
section
variable {prog : Program} {w : World} {M : Model} {A : Around} {E : Value → Shared → Prop} {s : Shared} {K : Frag} {x y C f : Addr} {h₀ : Heap} {m : Str → Option Value} {ox : Obj} {od : Option Obj} {nm T : String}

/-- both of one own class -/
theorem bin_same {op : Operator} {Q : Value → Shared → Prop} {oy : Obj} {ody : Option Obj} (X : K.In s.heap) (I : InstAt s.heap x ox C od) (J : InstAt s.heap y oy C ody) (hc : selfFirst K C = true)
    (hs : findIn K (.ref C) (PySem.dunder op.info.2) = some (some (.ref f))) (hf : isFn K (.ref f) = true)
    (h : wpAny (model prog w) A (call (.ref f) [.ref x, .ref y]) (PySem.W.CmpBack Q) E s) : wpAny (model prog w) A (binaryOp op (.ref x) (.ref y)) Q E s := by
  obtain ⟨cd, rest, hcd, hm⟩ := ksp_first hc
  rcases hi : op.info with ⟨sym, nm'⟩
  rw [hi] at hs
  dsimp only at hs
  have one := ksp_try X I hs hf h
  obtain ⟨hh, g, d, tt, os⟩ := s
  have L1 : Looks (model prog w) hh (typeOf (.ref x)) (.ref C) := I.type
  have L2 : Looks (model prog w) hh (typeOf (.ref y)) (.ref C) := J.type
  have L3 : Looks (model prog w) hh (fillsNumberSlot (.ref C) nm') true := fills_K X hcd hm hs
  simp only [binaryOp, hi]
  refine wpAny_holding (wpAny_bind ?_)
  unfold binaryOp1
  refine wpAny_bind (L1.at (wpAny_bind (L2.at (wpAny_bind (L3.at ?_)))))
  simp only [beq_self_eq_true, if_true]
  ksp_lk
  refine wpAny_mono one (fun r s' hr' => ?_) fun _ _ e => e
  obtain ⟨v, rfl, hq⟩ := hr'
  ksp_lk
  exact hq

theorem int_add_dec (b : Int) (u : Tok) (l C dx : Addr) : Meets (Builtin.«int.__add__» ⟨[.int b u, .ref l], []⟩) (fun _ R s => s.heap.get? l = some (instObj C dx) ∧ R (.ok (.ret .notImplemented)) s) :=
  .of_wp fun prog w A R s h => by obtain ⟨hp, g, d, tk, os⟩ := s; obtain ⟨hl, h⟩ := h; wp_walk using wpAny_loadPart' hl, wpAny_load hl; exact ⟨_, rfl, h⟩
theorem int_sub_dec (b : Int) (u : Tok) (l C dx : Addr) : Meets (Builtin.«int.__sub__» ⟨[.int b u, .ref l], []⟩) (fun _ R s => s.heap.get? l = some (instObj C dx) ∧ R (.ok (.ret .notImplemented)) s) :=
  .of_wp fun prog w A R s h => by obtain ⟨hp, g, d, tk, os⟩ := s; obtain ⟨hl, h⟩ := h; wp_walk using wpAny_loadPart' hl, wpAny_load hl; exact ⟨_, rfl, h⟩
theorem int_mul_dec (b : Int) (u : Tok) (l C dx : Addr) : Meets (Builtin.«int.__mul__» ⟨[.int b u, .ref l], []⟩) (fun _ R s => s.heap.get? l = some (instObj C dx) ∧ R (.ok (.ret .notImplemented)) s) :=
  .of_wp fun prog w A R s h => by obtain ⟨hp, g, d, tk, os⟩ := s; obtain ⟨hl, h⟩ := h; wp_walk using wpAny_loadPart' hl, wpAny_load hl; exact ⟨_, rfl, h⟩

theorem try_dec {nm' id : String} {B : Builtin} {b : Int} {t : Tok} {l dx : Addr} {Q : Option Value → Shared → Prop} (slot : Slot "int" (PySem.dunder nm') id) (entry : entryFor table id = some B) (args : argsOk id ⟨[.int b t, .ref l], []⟩)
    (g : Meets (B ⟨[.int b t, .ref l], []⟩) (fun _ R s => s.heap.get? l = some (instObj C dx) ∧ R (.ok (.ret .notImplemented)) s)) (hl : s.heap.get? l = some (instObj C dx)) (h : Q none s) :
    wpAny (model prog w) A (tryMethod (.int b t) (PySem.dunder nm') (.ref l)) Q E s :=
  wpAny_tryMethod_declines (T := "int") rfl slot (call_meets slot rfl entry args g ⟨hl, ⟨rfl, h⟩⟩)

/-- an int on the left: its own slot declines, the class's reflected one answers -/
theorem bin_rev {op : Operator} {id : String} {B : Builtin} {b : Int} {t : Tok} {g dx : Addr} {Q : Value → Shared → Prop} {oy : Obj} {ody : Option Obj} (X : K.In s.heap) (J : InstAt s.heap y oy C ody) (hc : selfFirst K C = true)
    (hs : findIn K (.ref C) (PySem.dunder op.info.2) = some (some (.ref f))) (hr : findIn K (.ref C) (PySem.dunderR op.info.2) = some (some (.ref g))) (hf : isFn K (.ref g) = true) (hsub : subIn K (.ref C) (.type "int") = some false)
    (fills : fillsNumberSlot (.type "int") op.info.2 = pure true) (slot : Slot "int" (PySem.dunder op.info.2) id) (entry : entryFor table id = some B) (args : argsOk id ⟨[.int b t, .ref y], []⟩)
    (dec : Meets (B ⟨[.int b t, .ref y], []⟩) (fun _ R s => s.heap.get? y = some (instObj C dx) ∧ R (.ok (.ret .notImplemented)) s)) (hy : s.heap.get? y = some (instObj C dx))
    (h : wpAny (model prog w) A (call (.ref g) [.ref y, .int b t]) (PySem.W.CmpBack Q) E s) : wpAny (model prog w) A (binaryOp op (.int b t) (.ref y)) Q E s := by
  obtain ⟨cd, rest, hcd, hm⟩ := ksp_first hc
  rcases hi : op.info with ⟨sym, nm'⟩
  rw [hi] at hs hr fills slot
  dsimp only at hs hr fills slot
  have one := ksp_try X J hr hf h
  have two : ∀ Q' : Option Value → Shared → Prop, Q' none s → wpAny (model prog w) A (tryMethod (.int b t) (PySem.dunder nm') (.ref y)) Q' E s := fun Q' q => try_dec slot entry args dec hy q
  have L1 : Looks (model prog w) s.heap (typeOf (.int b t)) (.type "int") := Looks.of_pure rfl
  have L2 : Looks (model prog w) s.heap (typeOf (.ref y)) (.ref C) := J.type
  have L3 : Looks (model prog w) s.heap (fillsNumberSlot (.ref C) nm') true := fills_K X hcd hm hs
  have L4 : Looks (model prog w) s.heap (fillsNumberSlot (.type "int") nm') true := Looks.of_pure fills
  have L5 : Looks (model prog w) s.heap (isSubtype (.ref C) (.type "int")) false := looks_subIn X hsub
  have L6 : Looks (model prog w) s.heap (numberSlotInPython (.type "int") nm') false := Looks.of_pure rfl
  have hne : (Value.type "int" == Value.ref C) = false := Bool.eq_false_iff.mpr fun q => by cases beq_iff_eq.mp q
  simp only [binaryOp, hi]
  refine wpAny_holding (wpAny_bind ?_)
  unfold binaryOp1
  refine wpAny_bind (L1.here (wpAny_bind (L2.here (wpAny_bind (L4.here ?_)))))
  simp only [hne, Bool.false_eq_true, if_false]
  refine wpAny_bind (L3.here ?_)
  simp only [Bool.and_self, if_true]
  refine wpAny_bind (L5.here ?_)
  simp only [Bool.false_eq_true, if_false, pure_bind, Bool.not_false, Bool.and_self, if_true]
  refine wpAny_bind (L6.here ?_)
  simp only [Bool.false_eq_true, if_false, pure_bind, Bool.not_false, Bool.and_self, if_true]
  refine wpAny_bind (two _ ?_)
  simp only [Bool.false_eq_true, if_false, pure_bind, Bool.not_false, Bool.and_self, if_true]
  refine wpAny_bind (wpAny_mono one (fun r s' hr' => ?_) fun _ _ e => e)
  obtain ⟨v, rfl, hq⟩ := hr'
  exact wpAny_bind (wpAny_rule (wpAny_pure (wpAny_pure hq)))
end
end OwB
namespace Dl
open PySem L2
section
variable {T : CT} {S0 : Addr → Prop} {σ : L2.St} {δ : Es} {H H' : Hp}

theorem get_set {α : Type} {l : List α} {i j : Nat} {x y : α} (h : (l.set i x)[j]? = some y) : (j = i ∧ i < l.length ∧ y = x) ∨ (j ≠ i ∧ l[j]? = some y) := by
  by_cases e : j = i
  · subst e
    by_cases hl : j < l.length
    · rw [List.getElem?_set_self hl] at h
      exact .inl ⟨rfl, hl, (Option.some.inj h).symm⟩
    · rw [List.set_eq_of_length_le (Nat.le_of_not_lt hl)] at h
      exact absurd (List.getElem?_eq_some_iff.mp h).1 hl
  · rw [List.getElem?_set_ne (Ne.symm e)] at h
    exact .inr ⟨e, h⟩

/-- a name is stored -/
theorem Ok.store {i : Nat} {d : D} {v : V} (k : Ok T S0 σ δ H) (r : Rep T H (Av S0 σ δ) d v) :
    Ok T S0 (σ.set i (some v)) (δ.set i (.val d)) H ∧ Step σ δ H (σ.set i (some v)) (δ.set i (.val d)) H := by
  have own' : ∀ b, ownAt (σ.set i (some v)) (δ.set i (.val d)) b → ownAt σ δ b := fun b ⟨j, p, es, h1, h2⟩ => by
    rcases get_set h1 with ⟨_, _, z⟩ | ⟨hj, h1⟩
    · cases z
    · rw [List.getElem?_set_ne (Ne.symm hj)] at h2
      exact ⟨j, p, es, h1, h2⟩
  have sub : ∀ b, Av S0 (σ.set i (some v)) (δ.set i (.val d)) b → Av S0 σ δ b := fun b z => z.elim .inl fun z => .inr (own' b z)
  refine ⟨⟨by rw [List.length_set, List.length_set]; exact k.len, k.tr, fun j e h => ?_, fun j p es h => ?_, fun j l p q es fs b h1 h2 h3 h4 => ?_⟩, ⟨fun _ _ z _ => z, fun b z => .inl (own' b z), fun _ o z => ⟨o, z⟩, fun j p es hp h => ?_⟩⟩
  · rcases get_set h with ⟨rfl, hi, z⟩ | ⟨hj, h⟩
    · cases z
      rw [List.getElem?_set_self (by rw [k.len]; exact hi)]
      exact ⟨v, rfl, r.sub sub⟩
    · obtain ⟨w, q1, q2⟩ := k.sl j e h
      rw [List.getElem?_set_ne (Ne.symm hj)]
      exact ⟨w, q1, q2.sub sub⟩
  · rcases get_set h with ⟨_, _, z⟩ | ⟨hj, h⟩
    · cases z
    · obtain ⟨b, ws, q1, q2, q3, q4⟩ := k.ow j p es h
      rw [List.getElem?_set_ne (Ne.symm hj)]
      exact ⟨b, ws, q1, q2, q3.sub sub, q4⟩
  · rcases get_set h1 with ⟨_, _, z⟩ | ⟨hj, h1⟩
    · cases z
    rcases get_set h2 with ⟨_, _, z⟩ | ⟨hl, h2⟩
    · cases z
    rw [List.getElem?_set_ne (Ne.symm hj)] at h3
    rw [List.getElem?_set_ne (Ne.symm hl)] at h4
    exact k.dj j l p q es fs b h1 h2 h3 h4
  · rcases get_set h with ⟨_, _, z⟩ | ⟨hj, h⟩
    · cases z
    · rw [List.getElem?_set_ne (Ne.symm hj)]
      exact ⟨⟨es, h⟩, rfl⟩
/-- a name is stored whose value does not matter -/
theorem Ok.junk {i : Nat} {v : Option V} (k : Ok T S0 σ δ H) : Ok T S0 (σ.set i v) (δ.set i .un) H ∧ Step σ δ H (σ.set i v) (δ.set i .un) H := by
  have own' : ∀ b, ownAt (σ.set i v) (δ.set i .un) b → ownAt σ δ b := fun b ⟨j, p, es, h1, h2⟩ => by
    rcases get_set h1 with ⟨_, _, z⟩ | ⟨hj, h1⟩
    · cases z
    · rw [List.getElem?_set_ne (Ne.symm hj)] at h2
      exact ⟨j, p, es, h1, h2⟩
  have sub : ∀ b, Av S0 (σ.set i v) (δ.set i .un) b → Av S0 σ δ b := fun b z => z.elim .inl fun z => .inr (own' b z)
  refine ⟨⟨by rw [List.length_set, List.length_set]; exact k.len, k.tr, fun j e h => ?_, fun j p es h => ?_, fun j l p q es fs b h1 h2 h3 h4 => ?_⟩, ⟨fun _ _ z _ => z, fun b z => .inl (own' b z), fun _ o z => ⟨o, z⟩, fun j p es hp h => ?_⟩⟩
  · rcases get_set h with ⟨_, _, z⟩ | ⟨hj, h⟩
    · cases z
    · obtain ⟨w, q1, q2⟩ := k.sl j e h
      rw [List.getElem?_set_ne (Ne.symm hj)]
      exact ⟨w, q1, q2.sub sub⟩
  · rcases get_set h with ⟨_, _, z⟩ | ⟨hj, h⟩
    · cases z
    · obtain ⟨b, ws, q1, q2, q3, q4⟩ := k.ow j p es h
      rw [List.getElem?_set_ne (Ne.symm hj)]
      exact ⟨b, ws, q1, q2, q3.sub sub, q4⟩
  · rcases get_set h1 with ⟨_, _, z⟩ | ⟨hj, h1⟩
    · cases z
    rcases get_set h2 with ⟨_, _, z⟩ | ⟨hl, h2⟩
    · cases z
    rw [List.getElem?_set_ne (Ne.symm hj)] at h3
    rw [List.getElem?_set_ne (Ne.symm hl)] at h4
    exact k.dj j l p q es fs b h1 h2 h3 h4
  · rcases get_set h with ⟨_, _, z⟩ | ⟨hj, h⟩
    · cases z
    · rw [List.getElem?_set_ne (Ne.symm hj)]
      exact ⟨⟨es, h⟩, rfl⟩
/-- a new list becomes a name's own -/
theorem Ok.storeOwn {i : Nat} {ds : List D} {a : Addr} {vs : List V} (k : Ok T S0 σ δ H) (ha : H a = none) (r : Reps T H (Av S0 σ δ) ds vs) :
    Ok T S0 (σ.set i (some (.ref a))) (δ.set i (.own .mine ds)) (upd H a (.lst vs)) ∧ Step σ δ H (σ.set i (some (.ref a))) (δ.set i (.own .mine ds)) (upd H a (.lst vs)) := by
  have sm : Same H (upd H a (.lst vs)) := fun b o e => by rw [upd_ne (ne_of_none e ha)]; exact e
  have own' : ∀ b, ownAt (σ.set i (some (.ref a))) (δ.set i (.own .mine ds)) b → ownAt σ δ b ∨ b = a := fun b ⟨j, p, es, h1, h2⟩ => by
    rcases get_set h1 with ⟨rfl, hi, z⟩ | ⟨hj, h1⟩
    · rw [List.getElem?_set_self (by rw [k.len]; exact hi)] at h2
      cases h2
      exact .inr rfl
    · rw [List.getElem?_set_ne (Ne.symm hj)] at h2
      exact .inl ⟨j, p, es, h1, h2⟩
  have sub : ∀ b, Av S0 (σ.set i (some (.ref a))) (δ.set i (.own .mine ds)) b → Av S0 σ δ b ∨ H b = none := fun b z => z.elim (fun z => .inl (.inl z)) fun z => (own' b z).elim (fun z => .inl (.inr z)) fun z => .inr (by rw [z]; exact ha)
  have mv : ∀ {d : D} {v : V}, Rep T H (Av S0 σ δ) d v → Rep T (upd H a (.lst vs)) (Av S0 (σ.set i (some (.ref a))) (δ.set i (.own .mine ds))) d v := fun h => h.move (fun b o e _ => sm b o e) sub
  have mvs : ∀ {d : List D} {v : List V}, Reps T H (Av S0 σ δ) d v → Reps T (upd H a (.lst vs)) (Av S0 (σ.set i (some (.ref a))) (δ.set i (.own .mine ds))) d v := fun h => h.move (fun b o e _ => sm b o e) sub
  refine ⟨⟨by rw [List.length_set, List.length_set]; exact k.len, fun b z => let ⟨o, e⟩ := k.tr b z; ⟨o, sm b o e⟩, fun j e h => ?_, fun j p es h => ?_, fun j l p q es fs b h1 h2 h3 h4 => ?_⟩, ⟨fun b o z _ => sm b o z, fun b z => (own' b z).elim .inl fun z => .inr (by rw [z]; exact ha), fun b o z => ⟨o, sm b o z⟩, fun j p es hp h => ?_⟩⟩
  · rcases get_set h with ⟨_, _, z⟩ | ⟨hj, h⟩
    · cases z
    · obtain ⟨w, q1, q2⟩ := k.sl j e h
      rw [List.getElem?_set_ne (Ne.symm hj)]
      exact ⟨w, q1, mv q2⟩
  · rcases get_set h with ⟨rfl, hi, z⟩ | ⟨hj, h⟩
    · cases z
      rw [List.getElem?_set_self (by rw [k.len]; exact hi)]
      exact ⟨a, vs, rfl, upd_same, mvs r, fun _ z => by obtain ⟨o, e⟩ := k.tr a z; rw [ha] at e; cases e⟩
    · obtain ⟨b, ws, q1, q2, q3, q4⟩ := k.ow j p es h
      rw [List.getElem?_set_ne (Ne.symm hj)]
      exact ⟨b, ws, q1, sm _ _ q2, mvs q3, q4⟩
  · have na : ∀ {j : Nat} {p : Ow} {es : List D}, δ[j]? = some (.own p es) → σ[j]? = some (some (.ref a)) → False := fun {j p es} h1 h2 => by
      obtain ⟨b, ws, q1, q2, _⟩ := k.ow j p es h1
      rw [h2] at q1; cases q1
      rw [ha] at q2; cases q2
    rcases get_set h1 with ⟨rfl, hi, z⟩ | ⟨hj, h1'⟩
    · rw [List.getElem?_set_self (by rw [k.len]; exact hi)] at h3
      cases h3
      rcases get_set h2 with ⟨rfl, _, _⟩ | ⟨hl, h2'⟩
      · rfl
      · rw [List.getElem?_set_ne (Ne.symm hl)] at h4
        exact (na h2' h4).elim
    · rw [List.getElem?_set_ne (Ne.symm hj)] at h3
      rcases get_set h2 with ⟨rfl, hi, _⟩ | ⟨hl, h2'⟩
      · rw [List.getElem?_set_self (by rw [k.len]; exact hi)] at h4
        cases h4
        exact (na h1' h3).elim
      · rw [List.getElem?_set_ne (Ne.symm hl)] at h4
        exact k.dj j l p q es fs b h1' h2' h3 h4
  · rcases get_set h with ⟨_, _, z⟩ | ⟨hj, h⟩
    · cases z; exact absurd rfl hp
    · rw [List.getElem?_set_ne (Ne.symm hj)]
      exact ⟨⟨es, h⟩, rfl⟩
/-- a name's own list is changed -/
theorem Ok.change {i : Nat} {p : Ow} {ds ds' : List D} {a : Addr} {us : List V} (k : Ok T S0 σ δ H) (e : δ[i]? = some (.own p ds)) (ea : σ[i]? = some (some (.ref a)))
    (hk : ∀ b o, H b = some o → b ≠ a → H' b = some o) (ha : H' a = some (hoOf p us)) (r : Reps T H' (Av S0 σ δ) ds' us) :
    Ok T S0 σ (δ.set i (.own p ds')) H' ∧ Step σ δ H σ (δ.set i (.own p ds')) H' := by
  have hi : i < δ.length := (List.getElem?_eq_some_iff.mp e).1
  have oa : ownAt σ δ a := ⟨i, p, ds, e, ea⟩
  have own' : ∀ b, ownAt σ (δ.set i (.own p ds')) b → ownAt σ δ b := fun b ⟨j, q, es, h1, h2⟩ => by
    rcases get_set h1 with ⟨rfl, _, z⟩ | ⟨hj, h1⟩
    · exact ⟨j, p, ds, e, h2⟩
    · exact ⟨j, q, es, h1, h2⟩
  have sub : ∀ b, Av S0 σ (δ.set i (.own p ds')) b → Av S0 σ δ b := fun b z => z.elim .inl fun z => .inr (own' b z)
  have mv : ∀ {d : D} {v : V}, Rep T H (Av S0 σ δ) d v → Rep T H' (Av S0 σ (δ.set i (.own p ds'))) d v := fun h => h.move (fun b o z n => hk b o z fun q => n (.inr (by rw [q]; exact oa))) fun b z => .inl (sub b z)
  have mvs : ∀ {d : List D} {v : List V}, Reps T H (Av S0 σ δ) d v → Reps T H' (Av S0 σ (δ.set i (.own p ds'))) d v := fun h => h.move (fun b o z n => hk b o z fun q => n (.inr (by rw [q]; exact oa))) fun b z => .inl (sub b z)
  have trk : ∀ b o, H b = some o → ∃ o', H' b = some o' := fun b o z => by
    by_cases q : b = a
    · exact ⟨_, by rw [q]; exact ha⟩
    · exact ⟨o, hk b o z q⟩
  refine ⟨⟨by rw [List.length_set]; exact k.len, fun b z => let ⟨o, e⟩ := k.tr b z; trk b o e, fun j d h => ?_, fun j q es h => ?_, fun j l q1 q2 es fs b h1 h2 h3 h4 => ?_⟩, ⟨fun b o z n => hk b o z fun q => n (by rw [q]; exact oa), fun b z => .inl (own' b z), trk, fun j p es hp h => ?_⟩⟩
  · rcases get_set h with ⟨_, _, z⟩ | ⟨hj, h⟩
    · cases z
    · obtain ⟨w, q1, q2⟩ := k.sl j d h
      exact ⟨w, q1, mv q2⟩
  · rcases get_set h with ⟨rfl, _, z⟩ | ⟨hj, h⟩
    · cases z
      obtain ⟨b, ws, q1, _, _, q4⟩ := k.ow j p ds e
      rw [ea] at q1; cases q1
      exact ⟨a, us, ea, ha, r.sub sub, q4⟩
    · obtain ⟨b, ws, q1, q2, q3, q4⟩ := k.ow j q es h
      have nb : b ≠ a := fun z => hj (k.dj j i q p es ds a h e (by rw [q1, z]) ea)
      exact ⟨b, ws, q1, hk _ _ q2 nb, mvs q3, q4⟩
  · have g : ∀ {j : Nat} {q : Ow} {es : List D}, (δ.set i (.own p ds'))[j]? = some (.own q es) → ∃ q' es', δ[j]? = some (.own q' es') := fun {j q es} h => by
      rcases get_set h with ⟨rfl, _, _⟩ | ⟨_, h⟩
      · exact ⟨p, ds, e⟩
      · exact ⟨q, es, h⟩
    obtain ⟨_, _, g1⟩ := g h1
    obtain ⟨_, _, g2⟩ := g h2
    exact k.dj j l _ _ _ _ b g1 g2 h3 h4
  · rcases get_set h with ⟨rfl, _, z⟩ | ⟨hj, h⟩
    · cases z
      exact ⟨⟨ds, e⟩, rfl⟩
    · exact ⟨⟨es, h⟩, rfl⟩
end

section
variable {X : Cx} {T : CT}
/-- what a statement's end asks, seen from an earlier state -/
theorem flQ.back {S0 : Addr → Prop} {σ σ1 : L2.St} {δ δ1 : Es} {H H1 : Hp} {E : Ends} (st : Step σ δ H σ1 δ1 H1) : ∀ {r : Fl}, flQ T S0 σ δ H E r → flQ T S0 σ1 δ1 H1 E r
  | .nx _, q => fun σ' H' ok s => q σ' H' ok (st.trans s)
  | .bk _, q => fun σ' H' ok s => q σ' H' ok (st.trans s)
  | .ct _, q => fun σ' H' ok s => q σ' H' ok (st.trans s)
  | .rt _ _, q => fun v σ' H' ok s => q v σ' H' ok (st.trans s)

/-! ### statements -/
def sNil : FS := fun δ => some (.nx δ)
def sSeq (g h : FS) : FS := fun δ => (g δ).bind fun r => match r with
  | .nx δ1 => h δ1
  | r => some r
theorem sts_nil : PSs X [] (tSt T sNil) := PSs.imp pss_nil fun E σ H ⟨S0, δ, r, ok, e, q⟩ => by
  cases e
  exact q σ H ok Step.refl
theorem sts_one {st : Stmt} {g : FS} (h : PS X st (tSt T g)) : PSs X [st] (tSt T g) := pss_one h
theorem sts_cons {st : Stmt} {rest : List Stmt} {g h : FS} (h1 : PS X st (tSt T g)) (h2 : PSs X rest (tSt T h)) : PSs X (st :: rest) (tSt T (sSeq g h)) := PSs.imp (pss_cons h1 h2) fun E σ H ⟨S0, δ, r, ok, e, q⟩ => by
  unfold sSeq at e
  cases hg : g δ with
  | none => rw [hg] at e; cases e
  | some r1 =>
    rw [hg] at e
    refine ⟨S0, δ, r1, ok, hg, ?_⟩
    cases r1 with
    | nx δ1 => exact fun σ1 H1 ok1 s1 => ⟨S0, δ1, r, ok1, e, flQ.back s1 q⟩
    | bk δ1 => cases e; exact q
    | ct δ1 => cases e; exact q
    | rt d δ1 => cases e; exact q
def sRet (f : FE) : FS := fun δ => (f δ).map fun (d, δ') => .rt d δ'
theorem map_some2 {α β γ : Type} {o : Option (α × β)} {k : α × β → γ} {c : γ} (h : o.map k = some c) : ∃ a b, o = some (a, b) ∧ k (a, b) = c := by
  cases o with
  | none => cases h
  | some p => exact ⟨p.1, p.2, rfl, Option.some.inj h⟩
theorem st_ret {e : Expr} {f : FE} {pos : Pos} (h : PE X e (tD T f)) : PS X (.Return (some e) pos) (tSt T (sRet f)) := PS.imp (ps_ret h) fun E σ H ⟨S0, δ, r, ok, e, q⟩ => by
  obtain ⟨d, δ', e1, e2⟩ := map_some2 e
  subst e2
  exact ⟨S0, δ, d, δ', ok, e1, fun v H' ok' s r => q v σ H' ok' s r⟩
def sExpr (f : FE) : FS := fun δ => (f δ).map fun (_, δ') => .nx δ'
theorem st_expr {e : Expr} {f : FE} {pos : Pos} (h : PE X e (tD T f)) (hs : swapsWith e none pos.line X.env = pure false := by rfl) : PS X (.Expr e pos) (tSt T (sExpr f)) := PS.imp (ps_expr h hs) fun E σ H ⟨S0, δ, r, ok, e, q⟩ => by
  obtain ⟨d, δ', e1, e2⟩ := map_some2 e
  subst e2
  exact ⟨S0, δ, d, δ', ok, e1, fun v H' ok' s r => q σ H' ok' s⟩
/-- name = e -/
def sSet (i : Nat) (f : FE) : FS := fun δ => (f δ).map fun (d, δ') => .nx (δ'.set i (.val d))
theorem st_set (i : Nat) {x : Str} {e : Expr} {f : FE} {pos pos' : Pos} (hN : X.N.Nodup) (h : PE X e (tD T f)) (hi : X.N[i]? = some x := by rfl) (hx : Loc X.env.scope x := by first | exact .inl rfl | exact .inr rfl)
    (hs : swapsWith e (some (.Name x pos')) pos.line X.env = pure false := by rfl) (hf : X.fn x = true ∨ X.env.scope.names.lookup x = some .local := by first | exact .inl rfl | exact .inr rfl | assumption) :
    PS X (.Assign [.Name x pos'] e pos) (tSt T (sSet i f)) := PS.imp (ps_set hN hi hx h hs hf) fun E σ H ⟨S0, δ, r, ok, e, q⟩ => by
  obtain ⟨d, δ', e1, e2⟩ := map_some2 e
  subst e2
  refine ⟨S0, δ, d, δ', ok, e1, fun v H' ok' s r => ?_⟩
  obtain ⟨ok2, s2⟩ := ok'.store (i := i) r
  exact q _ H' ok2 (s.trans s2)
/-- a fresh list -/
def tF (T : CT) (f : FA) : TE := fun σ H Q => ∃ S0 δ ds δ', Ok T S0 σ δ H ∧ f δ = some (ds, δ') ∧ ∀ a vs H1, Ok T S0 σ δ' H1 → Step σ δ H σ δ' H1 → H1 a = none → Reps T H1 (Av S0 σ δ') ds vs → Q (.ref a) (upd H1 a (.lst vs))
def sOwn (i : Nat) (f : FA) : FS := fun δ => (f δ).map fun (ds, δ') => .nx (δ'.set i (.own .mine ds))
theorem st_own (i : Nat) {x : Str} {e : Expr} {f : FA} {pos pos' : Pos} (hN : X.N.Nodup) (h : PE X e (tF T f)) (hi : X.N[i]? = some x := by rfl) (hx : Loc X.env.scope x := by first | exact .inl rfl | exact .inr rfl)
    (hs : swapsWith e (some (.Name x pos')) pos.line X.env = pure false := by rfl) (hf : X.fn x = true ∨ X.env.scope.names.lookup x = some .local := by first | exact .inl rfl | exact .inr rfl | assumption) :
    PS X (.Assign [.Name x pos'] e pos) (tSt T (sOwn i f)) := PS.imp (ps_set hN hi hx h hs hf) fun E σ H ⟨S0, δ, r, ok, e, q⟩ => by
  obtain ⟨d, δ', e1, e2⟩ := map_some2 e
  subst e2
  refine ⟨S0, δ, d, δ', ok, e1, fun a vs H' ok' s ha r => ?_⟩
  obtain ⟨ok2, s2⟩ := ok'.storeOwn (i := i) ha r
  exact q _ _ ok2 (s.trans s2)
/-- a fresh list as a value -/
def fFr (f : FA) : FE := fun δ => (f δ).map fun (ds, δ') => (.lst ds, δ')
theorem pd_fr {e : Expr} {f : FA} (h : PE X e (tF T f)) : PE X e (tD T (fFr f)) := PE.imp h fun σ H Q ⟨S0, δ, d, δ', ok, e, q⟩ => by
  obtain ⟨ds, δ2, e1, e2⟩ := map_some2 e
  cases e2
  refine ⟨S0, δ, ds, δ', ok, e1, fun a vs H1 ok1 s ha r => ?_⟩
  have sm : Same H1 (upd H1 a (.lst vs)) := fun b o e => by rw [upd_ne (ne_of_none e ha)]; exact e
  refine q _ _ (ok1.same sm) (s.trans (Step.same sm)) ?_
  rw [Rep]
  exact ⟨a, vs, rfl, upd_same, ok1.fresh ha, r.same sm⟩
def big : Nat := 1000000
theorem big_line {n : Nat} (h : n ≤ big) : n ≤ sizeLine := Nat.le_trans h (by decide)
theorem big_line' {n : Nat} (h : n ≤ big) : n < sizeLine := Nat.lt_of_le_of_lt h (by decide)
def fLst (g : FA) : FA := fun δ => (g δ).bind fun (ds, δ') => if ds.length ≤ big then some (ds, δ') else none
theorem ite_some {α : Type} {c : Prop} [Decidable c] {a b : α} (h : (if c then some a else none) = some b) : c ∧ a = b := by
  by_cases q : c
  · rw [if_pos q] at h; exact ⟨q, Option.some.inj h⟩
  · rw [if_neg q] at h; cases h
theorem pf_lst {es : List Expr} {g : FA} {pos : Pos} (h : PA X es (tDs T g)) : PE X (.List es pos) (tF T (fLst g)) := PE.imp (pe_lst h) fun σ H Q ⟨S0, δ, ds, δ', ok, e, q⟩ => by
  obtain ⟨d1, δ1, e1, e2⟩ := bind_some2 e
  obtain ⟨hb, e2⟩ := ite_some e2
  cases e2
  exact ⟨S0, δ, ds, δ', ok, e1, fun vs H1 ok1 s r => ⟨by rw [r.length]; exact big_line hb, fun p hp => q p vs H1 ok1 s hp r⟩⟩
def fTup (g : FA) : FE := fun δ => (g δ).bind fun (ds, δ') => if ds.length ≤ big then some (.tup ds, δ') else none
theorem pd_tup {es : List Expr} {g : FA} {k : Nat} {pos : Pos} (h : PA X es (tDs T g)) : PE X (.Tuple es k pos) (tD T (fTup g)) := PE.imp (pe_tup h) fun σ H Q ⟨S0, δ, ds, δ', ok, e, q⟩ => by
  obtain ⟨d1, δ1, e1, e2⟩ := bind_some2 e
  obtain ⟨hb, e2⟩ := ite_some e2
  cases e2
  refine ⟨S0, δ, d1, δ', ok, e1, fun vs H1 ok1 s r => ⟨by rw [r.length]; exact big_line hb, fun p hp => ?_⟩⟩
  have sm : Same H1 (upd H1 p (.tup vs)) := fun b o e => by rw [upd_ne (ne_of_none e hp)]; exact e
  refine q _ _ (ok1.same sm) (s.trans (Step.same sm)) ?_
  rw [Rep]
  exact ⟨p, vs, rfl, upd_same, ok1.fresh hp, r.same sm⟩

/-! ### tests and branches -/
def fB (f : FE) : FT := fun δ => (f δ).bind fun (d, δ') => match d with
  | .bl b => some (b, δ')
  | _ => none
theorem fB_some {f : FE} {δ δ' : Es} {b : Bool} (h : fB f δ = some (b, δ')) : f δ = some (.bl b, δ') := by
  obtain ⟨d, δ1, e1, e2⟩ := bind_some2 h
  cases d <;> first | (cases e2; exact e1) | cases e2
theorem rep_bl {H : Hp} {S : Addr → Prop} {b : Bool} {v : V} (h : Rep T H S (.bl b) v) : v = .bl b := by rwa [Rep] at h
theorem rep_int {H : Hp} {S : Addr → Prop} {b : Int} {v : V} (h : Rep T H S (.int b) v) : v = .int b := by rwa [Rep] at h
theorem rep_str {H : Hp} {S : Addr → Prop} {b : Str} {v : V} (h : Rep T H S (.str b) v) : v = .str b := by rwa [Rep] at h
theorem rep_non {H : Hp} {S : Addr → Prop} {v : V} (h : Rep T H S .non v) : v = .non := by rwa [Rep] at h
theorem pt_d {e : Expr} {f : FE} (h : PE X e (tD T f)) (he : ∀ whole, isTrue e X.env whole = (do let v ← whole; standAt e.pos; holding [v] (truthy v)) := by intro _; rfl) : PT X e (tDt T (fB f)) := PT.imp (pt_val h he) fun σ H Q ⟨S0, δ, d, δ', ok, e, q⟩ => by
  have e1 := fB_some e
  exact ⟨S0, δ, _, δ', ok, e1, fun v H' ok' s r => ⟨d, rep_bl r, q H' ok' s⟩⟩
def fNot (f : FT) : FT := fun δ => (f δ).map fun (b, δ') => (!b, δ')
theorem pt_n {e : Expr} {f : FT} {pos : Pos} (h : PT X e (tDt T f)) : PT X (.UnaryOp .Not e pos) (tDt T (fNot f)) := PT.imp (pt_not h) fun σ H Q ⟨S0, δ, d, δ', ok, e, q⟩ => by
  obtain ⟨b, δ1, e1, e2⟩ := map_some2 e
  cases e2
  exact ⟨S0, δ, b, δ', ok, e1, fun H' ok' s => q H' ok' s⟩
def fAnd (f g : FT) : FT := fun δ => (f δ).bind fun (b, δ1) => if b = true then g δ1 else some (false, δ1)
def fOr (f g : FT) : FT := fun δ => (f δ).bind fun (b, δ1) => if b = true then some (true, δ1) else g δ1
theorem w_and1 {a : Expr} {f : FT} {pos : Pos} (h : PT X a (tDt T f)) : PW X (.BoolOp .And [a] pos) (tDt T f) := pw_and1 h
theorem w_or1 {a : Expr} {f : FT} {pos : Pos} (h : PT X a (tDt T f)) : PW X (.BoolOp .Or [a] pos) (tDt T f) := pw_or1 h
theorem w_and {a b : Expr} {rest : List Expr} {f g : FT} {pos : Pos} (ha : PT X a (tDt T f)) (hb : PW X (.BoolOp .And (b :: rest) pos) (tDt T g)) : PW X (.BoolOp .And (a :: b :: rest) pos) (tDt T (fAnd f g)) := PW.imp (pw_and ha hb) fun σ H Q ⟨S0, δ, d, δ', ok, e, q⟩ => by
  obtain ⟨c, δ1, e1, e2⟩ := bind_some2 e
  refine ⟨S0, δ, c, δ1, ok, e1, fun H1 ok1 s1 => ?_⟩
  cases c with
  | true => (try dsimp only at e2); rw [if_pos rfl] at e2 ⊢; exact ⟨S0, δ1, d, δ', ok1, e2, fun H' ok' s => q H' ok' (s1.trans s)⟩
  | false => (try dsimp only at e2); rw [if_neg Bool.false_ne_true] at e2 ⊢; cases e2; exact q H1 ok1 s1
theorem w_or {a b : Expr} {rest : List Expr} {f g : FT} {pos : Pos} (ha : PT X a (tDt T f)) (hb : PW X (.BoolOp .Or (b :: rest) pos) (tDt T g)) : PW X (.BoolOp .Or (a :: b :: rest) pos) (tDt T (fOr f g)) := PW.imp (pw_or ha hb) fun σ H Q ⟨S0, δ, d, δ', ok, e, q⟩ => by
  obtain ⟨c, δ1, e1, e2⟩ := bind_some2 e
  refine ⟨S0, δ, c, δ1, ok, e1, fun H1 ok1 s1 => ?_⟩
  cases c with
  | false => (try dsimp only at e2); rw [if_neg Bool.false_ne_true] at e2 ⊢; exact ⟨S0, δ1, d, δ', ok1, e2, fun H' ok' s => q H' ok' (s1.trans s)⟩
  | true => (try dsimp only at e2); rw [if_pos rfl] at e2 ⊢; cases e2; exact q H1 ok1 s1
def fIf (c : FT) (f g : FE) : FE := fun δ => (c δ).bind fun (b, δ1) => if b = true then f δ1 else g δ1
theorem pd_if {c a b : Expr} {fc : FT} {f g : FE} {pos : Pos} (hc : PT X c (tDt T fc)) (ha : PE X a (tD T f)) (hb : PE X b (tD T g)) : PE X (.IfExp c a b pos) (tD T (fIf fc f g)) := PE.imp (pe_ifExp hc ha hb) fun σ H Q ⟨S0, δ, d, δ', ok, e, q⟩ => by
  obtain ⟨k, δ1, e1, e2⟩ := bind_some2 e
  refine ⟨S0, δ, k, δ1, ok, e1, fun H1 ok1 s1 => ?_⟩
  cases k with
  | true => (try dsimp only at e2); rw [if_pos rfl] at e2 ⊢; exact ⟨S0, δ1, d, δ', ok1, e2, fun v H' ok' s => q v H' ok' (s1.trans s)⟩
  | false => (try dsimp only at e2); rw [if_neg Bool.false_ne_true] at e2 ⊢; exact ⟨S0, δ1, d, δ', ok1, e2, fun v H' ok' s => q v H' ok' (s1.trans s)⟩
/-- and, or, not as values -/
def fAndV (f g : FE) : FE := fun δ => (fB f δ).bind fun (b, δ1) => if b = true then g δ1 else some (.bl false, δ1)
def fOrV (f g : FE) : FE := fun δ => (fB f δ).bind fun (b, δ1) => if b = true then some (.bl true, δ1) else g δ1
def fNotV (f : FE) : FE := fun δ => (fB f δ).map fun (b, δ1) => (.bl (!b), δ1)
theorem pd_one {op} {a : Expr} {f : FE} {pos : Pos} (h : PE X a (tD T f)) : PE X (.BoolOp op [a] pos) (tD T f) := pe_one h
theorem pd_and {a b : Expr} {rest : List Expr} {f g : FE} {pos : Pos} (ha : PE X a (tD T f)) (hb : PE X (.BoolOp .And (b :: rest) pos) (tD T g)) : PE X (.BoolOp .And (a :: b :: rest) pos) (tD T (fAndV f g)) := PE.imp (pe_and ha hb) fun σ H Q ⟨S0, δ, d, δ', ok, e, q⟩ => by
  obtain ⟨c, δ1, e1, e2⟩ := bind_some2 e
  refine ⟨S0, δ, _, δ1, ok, fB_some e1, fun v H1 ok1 s1 r => ⟨c, rep_bl r, ?_⟩⟩
  cases c with
  | true => (try dsimp only at e2); rw [if_pos rfl] at e2 ⊢; exact ⟨S0, δ1, d, δ', ok1, e2, fun v H' ok' s => q v H' ok' (s1.trans s)⟩
  | false => (try dsimp only at e2); rw [if_neg Bool.false_ne_true] at e2 ⊢; cases e2; exact q _ H1 ok1 s1 (rep_lit rfl)
theorem pd_or {a b : Expr} {rest : List Expr} {f g : FE} {pos : Pos} (ha : PE X a (tD T f)) (hb : PE X (.BoolOp .Or (b :: rest) pos) (tD T g)) : PE X (.BoolOp .Or (a :: b :: rest) pos) (tD T (fOrV f g)) := PE.imp (pe_or ha hb) fun σ H Q ⟨S0, δ, d, δ', ok, e, q⟩ => by
  obtain ⟨c, δ1, e1, e2⟩ := bind_some2 e
  refine ⟨S0, δ, _, δ1, ok, fB_some e1, fun v H1 ok1 s1 r => ⟨c, rep_bl r, ?_⟩⟩
  cases c with
  | false => (try dsimp only at e2); rw [if_neg Bool.false_ne_true] at e2 ⊢; exact ⟨S0, δ1, d, δ', ok1, e2, fun v H' ok' s => q v H' ok' (s1.trans s)⟩
  | true => (try dsimp only at e2); rw [if_pos rfl] at e2 ⊢; cases e2; exact q _ H1 ok1 s1 (rep_lit rfl)
theorem pd_not {e : Expr} {f : FE} {pos : Pos} (h : PE X e (tD T f)) : PE X (.UnaryOp .Not e pos) (tD T (fNotV f)) := PE.imp (pe_not h) fun σ H Q ⟨S0, δ, d, δ', ok, e, q⟩ => by
  obtain ⟨b, δ1, e1, e2⟩ := map_some2 e
  cases e2
  exact ⟨S0, δ, _, δ', ok, fB_some e1, fun v H' ok' s r => ⟨b, rep_bl r, q _ H' ok' s (rep_lit rfl)⟩⟩
def sIf (c : FT) (g h : FS) : FS := fun δ => (c δ).bind fun (b, δ1) => if b = true then g δ1 else h δ1
theorem st_if {c : Expr} {a b : List Stmt} {fc : FT} {g h : FS} {pos : Pos} (hc : PT X c (tDt T fc)) (ha : PSs X a (tSt T g)) (hb : PSs X b (tSt T h)) : PS X (.If c a b pos) (tSt T (sIf fc g h)) := PS.imp (ps_if hc ha hb) fun E σ H ⟨S0, δ, r, ok, e, q⟩ => by
  obtain ⟨k, δ1, e1, e2⟩ := bind_some2 e
  refine ⟨S0, δ, k, δ1, ok, e1, fun H1 ok1 s1 => ?_⟩
  cases k with
  | true => (try dsimp only at e2); rw [if_pos rfl] at e2 ⊢; exact ⟨S0, δ1, r, ok1, e2, flQ.back s1 q⟩
  | false => (try dsimp only at e2); rw [if_neg Bool.false_ne_true] at e2 ⊢; exact ⟨S0, δ1, r, ok1, e2, flQ.back s1 q⟩
/-- what is never come to -/
def sNo : FS := fun _ => none
theorem st_no {st : Stmt} : PS X st (tSt T sNo) := PS.imp ps_never fun E σ H ⟨S0, δ, r, ok, e, q⟩ => by cases e
def sBk : FS := fun δ => some (.bk δ)
def sCt : FS := fun δ => some (.ct δ)
theorem st_break {pos : Pos} : PS X (.Break pos) (tSt T sBk) := PS.imp ps_break fun E σ H ⟨S0, δ, r, ok, e, q⟩ => by cases e; exact q σ H ok Step.refl
theorem st_continue {pos : Pos} : PS X (.Continue pos) (tSt T sCt) := PS.imp ps_continue fun E σ H ⟨S0, δ, r, ok, e, q⟩ => by cases e; exact q σ H ok Step.refl
theorem st_pass {pos : Pos} : PS X (.Pass pos) (tSt T sNil) := PS.imp ps_pass fun E σ H ⟨S0, δ, r, ok, e, q⟩ => by cases e; exact q σ H ok Step.refl

/-! ### operators -/
/-- by values: what r asks follows from what g gives -/
def OpV (T : CT) (r : R2) (g : D → D → Option D) : Prop := ∀ (S : Addr → Prop) (x y : D) (vx vy : V) (H : Hp) (d : D) (Q : VK), (∀ b, S b → ∃ o, H b = some o) → Rep T H S x vx → Rep T H S y vy → g x y = some d →
  (∀ v H', Same H H' → Rep T H' S d v → Q v H') → r vx vy H Q
def fBin (g : D → D → Option D) (fa fb : FE) : FE := fun δ => (fa δ).bind fun (x, δ1) => (fb δ1).bind fun (y, δ2) => (g x y).map fun d => (d, δ2)
theorem map_some1 {α γ : Type} {o : Option α} {k : α → γ} {c : γ} (h : o.map k = some c) : ∃ a, o = some a ∧ k a = c := by
  cases o with
  | none => cases h
  | some p => exact ⟨p, rfl, Option.some.inj h⟩
theorem bin_imp {r : R2} {g : D → D → Option D} {fa fb : FE} (hv : OpV T r g) {σ : L2.St} {H : Hp} {Q : VK} (h : tD T (fBin g fa fb) σ H Q) : tOp r (tD T fa) (tD T fb) σ H Q := by
  obtain ⟨S0, δ, d, δ', ok, e, q⟩ := h
  obtain ⟨x, δ1, e1, e2⟩ := bind_some2 e
  obtain ⟨y, δ2, e2, e3⟩ := bind_some2 e2
  dsimp only at e3
  obtain ⟨z, e5, e4⟩ := map_some1 e3
  cases e4
  refine ⟨S0, δ, x, δ1, ok, e1, fun vx H1 ok1 s1 r1 => ⟨S0, δ1, y, δ', ok1, e2, fun vy H2 ok2 s2 r2 => ?_⟩⟩
  exact hv _ x y vx vy H2 d Q (fun b z => ok2.trk z) (s2.rep r1) r2 e5 fun v H' sm r => q v H' (ok2.same sm) ((s1.trans s2).trans (Step.same sm)) r
theorem pd_op {a b : Expr} {op : Operator} {r : R2} {g : D → D → Option D} {fa fb : FE} {pos : Pos} (ho : OpR X (binaryOp op) r) (hv : OpV T r g) (ha : PE X a (tD T fa)) (hb : PE X b (tD T fb)) : PE X (.BinOp a op b pos) (tD T (fBin g fa fb)) :=
  PE.imp (pe_op ho ha hb) fun _ _ _ h => bin_imp hv h
theorem pd_cmp {a b : Expr} {op : CmpOp} {r : R2} {g : D → D → Option D} {fa fb : FE} {pos : Pos} (ho : OpR X (compareOp op) r) (hv : OpV T r g) (ha : PE X a (tD T fa)) (hb : PE X b (tD T fb)) (hm : behindInMarks op b = false) : PE X (.Compare a [op] [b] pos) (tD T (fBin g fa fb)) :=
  PE.imp (pe_cmpR ho ha hb hm) fun _ _ _ h => bin_imp hv h
theorem pt_cmp' {a b : Expr} {op : CmpOp} {r : R2} {g : D → D → Option D} {fa fb : FE} {pos : Pos} (ho : OpR X (compareOp op) r) (hv : OpV T r g) (ha : PE X a (tD T fa)) (hb : PE X b (tD T fb)) (hm : behindInMarks op b = false) : PT X (.Compare a [op] [b] pos) (tDt T (fB (fBin g fa fb))) :=
  PT.imp (pt_cmpR ho ha hb hm) fun σ H Q ⟨S0, δ, d, δ', ok, e, q⟩ => by
    refine bin_imp hv ⟨S0, δ, .bl d, δ', ok, fB_some e, fun v H' ok' s r => ⟨d, rep_bl r, q H' ok' s⟩⟩
def gOr (g g' : D → D → Option D) : D → D → Option D := fun x y => match g x y with
  | some d => some d
  | none => g' x y
theorem OpV.or {r r' : R2} {g g' : D → D → Option D} (h : OpV T r g) (h' : OpV T r' g') : OpV T (fun x y H Q => r x y H Q ∨ r' x y H Q) (gOr g g') := by
  intro S x y vx vy H d Q ht rx ry e q
  unfold gOr at e
  cases z : g x y with
  | some d' => rw [z] at e; cases e; exact .inl (h S x y vx vy H d Q ht rx ry z q)
  | none => rw [z] at e; exact .inr (h' S x y vx vy H d Q ht rx ry e q)
theorem OpR.or {f : Value → Value → Sem Value} {r r' : R2} (h : OpR X f r) (h' : OpR X f r') : OpR X f (fun x y H Q => r x y H Q ∨ r' x y H Q) := by
  intro pins s σ H x y v u Q I rx ry hq
  rcases hq with hq | hq
  · exact h pins s σ H x y v u Q I rx ry hq
  · exact h' pins s σ H x y v u Q I rx ry hq
/-- ints -/
def gI (C : Int → Int → Bool) (k : Int → Int → D) : D → D → Option D
  | .int i, .int j => if C i j = true then some (k i j) else none
  | _, _ => none
theorem opv_I {C : Int → Int → Prop} {c : Int → Int → Bool} {g : Int → Int → V} {k : Int → Int → D} (hc : ∀ i j, c i j = true → C i j) (hl : ∀ i j, litV (k i j) = some (g i j)) : OpV T (rI C g) (gI c k) := by
  intro S x y vx vy H d Q ht rx ry e q
  cases x <;> cases y <;> first | cases e | skip
  rename_i i j
  rw [rep_int rx, rep_int ry]
  obtain ⟨h1, h2⟩ := ite_some e
  subst h2
  exact ⟨i, j, rfl, rfl, hc i j h1, q _ H (Same.refl _) (rep_lit (hl i j))⟩
def gI0 (k : Int → Int → D) : D → D → Option D
  | .int i, .int j => some (k i j)
  | _, _ => none
theorem opv_I0 {g : Int → Int → V} {k : Int → Int → D} (hl : ∀ i j, litV (k i j) = some (g i j)) : OpV T (rI0 g) (gI0 k) := by
  intro S x y vx vy H d Q ht rx ry e q
  cases x <;> cases y <;> first | cases e | skip
  rename_i i j
  rw [rep_int rx, rep_int ry]
  exact ⟨i, j, rfl, rfl, q _ H (Same.refl _) (rep_lit (hl i j))⟩
/-- == and != of None, truths, ints, texts -/
def flatD : D → Bool
  | .non => true | .bl _ => true | .int _ => true | .str _ => true | _ => false
end
end Dl
/-! Promises that hold where no text of an object is being made: the hand layer's, with that one fact more. -/
namespace Dl
open PySem PySem.Spec PyProof.Rows L2
/-- nothing's text is being made -/
def Quiet (A : Around) : Prop := A.guards = some []
structure FnG (P : Program) (w : World) (K : PySem.W.Frag) (mg : Str → Option Value) (base : Heap) (k : Nat) (f : Addr) (fd : FuncData) (ps : List Str) (sp : Sp) : Prop where
  len : ∀ vs H Q E, sp vs H Q E → vs.length = ps.length
  run : ∀ (A : Around) (outer : List PySem.Env) (s : Shared) (H : Hp) (args : Args) (us : List Value) (vs : List V) (Q : VK) (E : XK), Quiet A → Room k A → Env0 P w K mg base A outer s H → BindsTo s fd args (ps.zip us) → Vals vs us → sp vs H Q E →
    codeAny (model P w) A (.call (.ref f) args) (CR CX0 outer P w H s Q E) s
section
variable {P : Program} {w : World} {K : PySem.W.Frag} {mg : Str → Option Value} {base : Heap} {j k : Nat} {f : Addr} {fd : FuncData} {ps : List Str} {sp sp' : Sp}
theorem FnG.mono (F : FnG P w K mg base j f fd ps sp) (h : j ≤ k) : FnG P w K mg base k f fd ps sp := ⟨F.len, fun A o s H a us vs Q E q hr => F.run A o s H a us vs Q E q (hr.mono h)⟩
theorem FnG.imp (F : FnG P w K mg base k f fd ps sp) (h : ∀ vs H Q E, sp' vs H Q E → sp vs H Q E) : FnG P w K mg base k f fd ps sp' :=
  ⟨fun vs H Q E q => F.len vs H Q E (h _ _ _ _ q), fun A o s H a us vs Q E q hr he hb hv hs => F.run A o s H a us vs Q E q hr he hb hv (h _ _ _ _ hs)⟩
/-- a def's body keeps its promise -/
theorem fnG_of {x qual : Str} {params : Arguments} {bd : List Stmt} {scope : Scope} {dV kV doc pm cdv ct oc : Value} {an od : Option Addr} {osl : Array (Option Value)} {N : List Str}
    (lk : K.lookup f = some ⟨oc, od, .func (PySem.W.fnOf x qual params bd scope dV kV doc pm an cdv ct), osl⟩) (hcd : PySem.W.codeIn K cdv qual = true) (S : FnScope N ps scope) (len : ∀ vs H Q E, sp vs H Q E → vs.length = ps.length)
    (body : ∀ (A : Around) (outer : List PySem.Env) (s : Shared) (H : Hp) (vs : List V) (Q : VK) (E : XK), Quiet A → Room k (A.deeper (envOfC qual scope s.heap.objs.size f cdv)) → sp vs H Q E →
      ∃ t, PSs (cxOf CX0 P w K mg base N qual scope f cdv A outer s H E).nox bd t ∧ t { nx := fun _ H' => Q .non H', rt := Q } (L2.start N vs) H) : FnG P w K mg base (k + 1) f (PySem.W.fnOf x qual params bd scope dV kV doc pm an cdv ct) ps sp := by
  refine ⟨len, fun A outer s H args us vs Q E hq hr e0 hb r hsp => ?_⟩
  have kept : ∀ b o, base.get? b = some o → s.heap.get? b = some o := fun b o e => (e0.bs b o e).1
  have hkind : ∀ y ∈ ps.zip us, scope.names.lookup y.1 = some .local ∨ (scope.names.lookup y.1 = some .cell ∧ ((cellsFrom (s.heap.objs.size + 1) scope.names []).lookup y.1).isSome = true) := by
    intro y hy
    obtain ⟨n, v⟩ := y
    exact (S.par n (List.of_mem_zip hy).1).imp id fun q => ⟨q, PySem.W.cellsFrom_some _ _ _ (.inl q)⟩
  have KS : K.In s.heap := e0.mod.kin.keeps kept
  apply codeAny_call_function hr.depth (KS _ _ lk) rfl S.co S.gen rfl (PySem.W.codeRec_of KS hcd)
  apply hb
  apply wpAny_newFunctionEnv_cells S.kind hkind
  intro env he s1 x
  subst he
  obtain ⟨t, ht, ha⟩ := body A outer s H vs Q E hq (hr.deeper _) hsp
  have J0 : Inv (cxOf CX0 P w K mg base N qual scope f cdv A outer s H E) [] (L2.start N vs) H s1 := inv_start S hr.hd e0 (len _ _ _ _ hsp) r x
  refine ⟨(e0.mod.nolimit.keeps kept).keeps x.toInCall.keep, codeAny_func (wpAny_mono (ht.nox.run [] s1 (L2.start N vs) H _ J0 ha) (fun fl s' hs => ?_) fun _ _ z => z)⟩
  match fl, hs with
  | .ret u, ⟨v, σ', H', J, rv, q⟩ => exact ⟨v, H', J.os, J.bare, J.base, J.hok, rv, q⟩
  | .next, ⟨σ', H', J, q⟩ => exact ⟨V.non, H', J.os, J.bare, J.base, J.hok, rfl, q⟩
  | .brk, ⟨_, _, _, q⟩ => exact q.elim
  | .cont, ⟨_, _, _, q⟩ => exact q.elim
end

/-! ### how arguments come to parameters, by data -/
/-- n values, the keywords ks: gD puts their data in the parameters' order, defaults among them -/
def Bnd (K : PySem.W.Frag) (fd : FuncData) (ps : List Str) (n : Nat) (ks : List Str) (gD : List D → List D → List D) : Prop :=
  ∃ g gV, KBn K fd ps n ks g gV ∧ ∀ (T : CT) (H : Hp) (S : Addr → Prop) (ds es : List D) (vs zs : List V), ds.length = n → es.length = ks.length → Reps T H S ds vs → Reps T H S es zs → Reps T H S (gD ds es) (gV vs zs)
def gPos (dd : List D) : List D → List D → List D := fun ds es => ds ++ es ++ dd
def Lits (dd : List D) (dvs : List V) : Prop := ∀ (T : CT) (H : Hp) (S : Addr → Prop), Reps T H S dd dvs
theorem lits_nil : Lits [] [] := fun _ _ _ => Reps.nil
theorem lits_cons {d : D} {v : V} {dd : List D} {dvs : List V} (h : litV d = some v) (hs : Lits dd dvs) : Lits (d :: dd) (v :: dvs) := fun T H S => Reps.cons (rep_lit h) (hs T H S)
theorem bnd_of {K : PySem.W.Frag} {fd : FuncData} {ps : List Str} {ds : List Value} {dvs : List V} {dd : List D} (n : Nat) (hb : Binds K fd ps ds) (hd : Vals dvs ds) (hl : Lits dd dvs) (hn : n + dvs.length = ps.length) : Bnd K fd ps n [] (gPos dd) := by
  refine ⟨fun us _ => us ++ ds, fun vs _ => vs ++ dvs, ⟨fun s us ws X l1 l2 => ?_, fun r _ => r.append hd⟩, fun T H S d e vs zs _ he r r2 => ?_⟩
  · have : ws = [] := by cases ws with | nil => rfl | cons _ _ => cases l2
    subst this
    exact hb s us X (by rw [List.length_append, l1, ← hd.length, hn])
  · cases e with
    | nil => rw [gPos, List.append_nil]; exact r.append (hl T H S)
    | cons _ _ => cases he
/-- keywords that follow in the parameters' order, all given -/
theorem bnd_kw {K : PySem.W.Frag} {x qual : Str} {st : Stmt} {f : Addr} {fd : FuncData} {ps : List Str} (n : Nat) (ks : List Str) (F : Fun K x qual st f fd)
    (h : ∀ (kV doc pm : Value) (an : Option Addr) (cdv ct : Value) (us ws : List Value), us.length = n → ws.length = ks.length → bindArgs (PySem.W.fnOf x qual (defArgs st) (defBody st) (defScope st) .none kV doc pm an cdv ct) ⟨us, ks.zip ws⟩ = pure (ps.zip (us ++ ws))) : Bnd K fd ps n ks (gPos []) := by
  obtain ⟨oc, od, kV, doc, pm, an, cdv, ct, osl, rfl, lk, hcd⟩ := F.ex
  refine ⟨fun us ws => us ++ ws, fun vs zs => vs ++ zs, ⟨fun s us ws X l1 l2 => .of_eq (h kV doc pm an cdv ct us ws l1 l2), fun r1 r2 => r1.append r2⟩, fun T H S d e vs zs _ _ r r2 => ?_⟩
  rw [gPos, List.append_nil]
  exact r.append r2

section
variable {X : Cx} {T : CT} {k n : Nat} {f C : Addr} {fd : FuncData} {ps ks : List Str} {sp : Sp} {E : XK} {x m : Str} {p pos apos : Pos} {e o : Expr} {es : List Expr} {kws : List Keyword} {ta : TE} {t tk : TA} {g : List Value → List Value → List Value} {gV : List V → List V → List V}
theorem endG {pins : List (Addr × Obj)} {σ : L2.St} {H : Hp} {s : Shared} {Q : VK} (I : Inv X pins σ H s) : ∀ (r : Result) (s' : Shared), CR CX0 X.stack X.prog X.w H s Q E r s' → (match r with
    | .ok (.ret v) => EP X pins σ Q v s'
    | .ok _ => False
    | .error e => X.xe e s')
  | .error _, _, h => (h : False).elim
  | .ok (.ret _), _, h => I.after h
  | .ok .next, _, h => (h : False).elim
  | .ok .brk, _, h => (h : False).elim
  | .ok .cont, _, h => (h : False).elim
theorem run_fnG {pins : List (Addr × Obj)} {σ : L2.St} {H : Hp} {s : Shared} {Q : VK} {us ws : List Value} {vs zs : List V} (F : FnG X.prog X.w X.K X.mg X.base k f fd ps sp) (hq : Quiet X.A) (hr : Room k X.A) (hb : KBn X.K fd ps n ks g gV)
    (I : Inv X pins σ H s) (r : Vals vs us) (rz : Vals zs ws) (l1 : vs.length = n) (l2 : zs.length = ks.length) (h : sp (gV vs zs) H Q E) : wpAny (model X.prog X.w) X.A (call (.ref f) us (ks.zip ws)) (EP X pins σ Q) X.xe s := by
  apply wpAny_call
  refine codeAny_mono (F.run X.A X.stack s H ⟨us, ks.zip ws⟩ (g us ws) (gV vs zs) Q E hq hr I.env0 (hb.to s us ws I.kIn (r.length.symm.trans l1) (rz.length.symm.trans l2)) (hb.rel r rz) h) fun z s' hz => ?_
  have e := endG I z s' hz
  match z, e with
  | .ok (.ret _), e => exact e
  | .error _, e => exact e
/-- f(e, .., k = v, ..) -/
theorem pe_callG (F : FnG X.prog X.w X.K X.mg X.base k f fd ps sp) (hq : Quiet X.A) (hr : Room k X.A) (hm : X.mg x = some (.ref f)) (hk : PySem.W.keepIn X.K (.ref f) = true) (hb : KBn X.K fd ps n ks g gV) (ha : PA X (e :: es) t) (hkw : PK X kws tk) (hg : Gl X x)
    (hall : (backToKw pos (keywordEach kws X.env)).all (·.1.isSome) = true) (hks : (backToKw pos (keywordEach kws X.env)).filterMap (·.1) = ks) (hdb : (x == ("__debug__" : Str)) = false) (he : starEach (e :: es) X.env = (false, eval e X.env) :: starEach es X.env)
    (hpl : ((backTo pos (starEach (e :: es) X.env)).any (·.1) || (backToKw pos (keywordEach kws X.env)).any (·.1.isNone)) = false) : PE X (.Call (.Name x p) (e :: es) kws pos) (tCallN n ks.length sp gV E t tk) := by
  constructor
  intro pins s σ H Q I h
  apply wpAny_Call_Name_kw
  apply ld_glob I hg hm _ hdb
  refine PySem.W.callWith_KW (h₀ := X.base) I.ok.mod.kin hk hall (thn (ha.run pos pins s σ H _ I h) ?_) hpl he
  rintro us s1 ⟨vs, H1, I1, r, q⟩
  refine thn (hkw.run pos pins s1 σ H1 _ I1 q) ?_
  rintro ws s2 ⟨zs, H2, I2, rz, l1, l2, q2⟩
  refine ⟨I2.kIn, ?_⟩
  rw [hks]
  exact run_fnG F hq hr hb I2 r rz l1 l2 q2
theorem pe_callG0 (F : FnG X.prog X.w X.K X.mg X.base k f fd ps sp) (hq : Quiet X.A) (hr : Room k X.A) (hm : X.mg x = some (.ref f)) (hk : PySem.W.keepIn X.K (.ref f) = true) (hb : KBn X.K fd ps n ks g gV) (hkw : PK X kws tk) (hg : Gl X x)
    (hall : (backToKw pos (keywordEach kws X.env)).all (·.1.isSome) = true) (hks : (backToKw pos (keywordEach kws X.env)).filterMap (·.1) = ks) (hdb : (x == ("__debug__" : Str)) = false)
    (hpl : ((backTo pos (starEach [] X.env)).any (·.1) || (backToKw pos (keywordEach kws X.env)).any (·.1.isNone)) = false) : PE X (.Call (.Name x p) [] kws pos) (tCallN n ks.length sp gV E tNil tk) := by
  constructor
  intro pins s σ H Q I h
  apply wpAny_Call_Name_kw
  apply ld_glob I hg hm _ hdb
  refine PySem.W.callWith_KW0 (h₀ := X.base) I.ok.mod.kin hk hall (thn (hkw.run pos pins s σ H _ I h) ?_) hpl
  rintro ws s2 ⟨zs, H2, I2, rz, l1, l2, q2⟩
  refine ⟨I2.kIn, ?_⟩
  rw [hks]
  exact run_fnG (us := []) (vs := []) F hq hr hb I2 .nil rz l1 l2 q2
/-- o.m(..): self and n - 1 values, the keywords -/
def tMethN (C : Addr) (m : Str) (n j : Nat) (sp : Sp) (gV : List V → List V → List V) (E : XK) (ta : TE) (t tk : TA) : TE := fun σ H Q => ta σ H fun x H1 => ∃ a dx fs, x = .ref a ∧ H1 a = some (.ins C dx fs) ∧ fs.lookup m = none ∧
  t σ H1 fun vs H2 => tk σ H2 fun zs H3 => vs.length + 1 = n ∧ zs.length = j ∧ sp (gV (x :: vs) zs) H3 Q E
theorem pe_methG {pl : Sem Bool} (ho : PE X o ta) (c : Cls X.K C) (hm : Meth X.K C m f) (F : FnG X.prog X.w X.K X.mg X.base k f fd ps sp) (hq : Quiet X.A) (hr : Room k X.A) (hb : KBn X.K fd ps n ks g gV) (ha : PA X (e :: es) t) (hkw : PK X kws tk)
    (hall : (backToKw pos (keywordEach kws X.env)).all (·.1.isSome) = true) (hks : (backToKw pos (keywordEach kws X.env)).filterMap (·.1) = ks) (he : starEach (e :: es) X.env = (false, eval e X.env) :: starEach es X.env)
    (hpl : ((backTo pos (starEach (e :: es) X.env)).any (·.1) || (backToKw pos (keywordEach kws X.env)).any (·.1.isNone)) = false)
    (ht : eval (.Call (.Attribute o m apos) (e :: es) kws pos) X.env = (do
      let y ← eval o X.env
      standAt apos.atName
      let (h, first) ← holding [y] (getMethod y m pl)
      callWith pos h first (backTo pos (starEach (e :: es) X.env)) (backToKw pos (keywordEach kws X.env)))) : PE X (.Call (.Attribute o m apos) (e :: es) kws pos) (tMethN C m n ks.length sp gV E ta t tk) := by
  constructor
  intro pins s σ H Q I h
  refine PySem.W.methodCall_KW (pl := pl) (thn (ho.run pins s σ H _ I h) ?_) ht
  rintro u s1 ⟨x, H1, I1, rx, a, dx, fs, rfl, ea, l, q⟩
  cases (show u = Value.ref a from rx)
  refine getmeth_ok I1 ea c hm l ?_
  refine PySem.W.callWith_KW (first := [.ref a]) (h₀ := X.base) I.ok.mod.kin hm.kp hall (thn (ha.run pos pins s1 σ H1 _ I1 q) ?_) hpl he
  rintro us s2 ⟨vs, H2, I2, r, q2⟩
  refine thn (hkw.run pos pins s2 σ H2 _ I2 q2) ?_
  rintro ws s3 ⟨zs, H3, I3, rz, l1, l2, q3⟩
  refine ⟨I3.kIn, ?_⟩
  rw [hks]
  exact run_fnG (us := .ref a :: us) (vs := .ref a :: vs) F hq hr hb I3 (.cons rfl r) rz l1 l2 q3
theorem pe_methG0 {pl : Sem Bool} (ho : PE X o ta) (c : Cls X.K C) (hm : Meth X.K C m f) (F : FnG X.prog X.w X.K X.mg X.base k f fd ps sp) (hq : Quiet X.A) (hr : Room k X.A) (hb : KBn X.K fd ps n ks g gV) (hkw : PK X kws tk)
    (hall : (backToKw pos (keywordEach kws X.env)).all (·.1.isSome) = true) (hks : (backToKw pos (keywordEach kws X.env)).filterMap (·.1) = ks)
    (hpl : ((backTo pos (starEach [] X.env)).any (·.1) || (backToKw pos (keywordEach kws X.env)).any (·.1.isNone)) = false)
    (ht : eval (.Call (.Attribute o m apos) [] kws pos) X.env = (do
      let y ← eval o X.env
      standAt apos.atName
      let (h, first) ← holding [y] (getMethod y m pl)
      callWith pos h first (backTo pos (starEach [] X.env)) (backToKw pos (keywordEach kws X.env)))) : PE X (.Call (.Attribute o m apos) [] kws pos) (tMethN C m n ks.length sp gV E ta tNil tk) := by
  constructor
  intro pins s σ H Q I h
  refine PySem.W.methodCall_KW (pl := pl) (thn (ho.run pins s σ H _ I h) ?_) ht
  rintro u s1 ⟨x, H1, I1, rx, a, dx, fs, rfl, ea, l, q⟩
  cases (show u = Value.ref a from rx)
  refine getmeth_ok I1 ea c hm l ?_
  refine PySem.W.callWith_KW0 (first := [.ref a]) (h₀ := X.base) I.ok.mod.kin hm.kp hall (thn (hkw.run pos pins s1 σ H1 _ I1 q) ?_) hpl
  rintro ws s3 ⟨zs, H3, I3, rz, l1, l2, q3⟩
  refine ⟨I3.kIn, ?_⟩
  rw [hks]
  exact run_fnG (us := [.ref a]) (vs := [.ref a]) F hq hr hb I3 (.cons rfl .nil) rz l1 l2 q3
/-- C(..) -/
theorem run_makeG {pins : List (Addr × Obj)} {σ : L2.St} {H : Hp} {s : Shared} {Q : VK} {us ws : List Value} {vs zs : List V} (M : Mk X.K C f) (F : FnG X.prog X.w X.K X.mg X.base k f fd ps sp) (hq : Quiet X.A) (hr : Room (k + 1) X.A) (hb : KBn X.K fd ps (n + 1) ks g gV)
    (I : Inv X pins σ H s) (r : Vals vs us) (rz : Vals zs ws) (l1 : vs.length = n) (l2 : zs.length = ks.length)
    (h : ∀ x dx, H x = none → H dx = none → dx ≠ x → sp (gV (.ref x :: vs) zs) (upd (upd H dx (.own x)) x (.ins C dx [])) (fun v H2 => v = .non ∧ Q (.ref x) H2) E) : wpAny (model X.prog X.w) X.A (call (.ref C) us (ks.zip ws)) (EP X pins σ Q) X.xe s := by
  have J := Inv.made (C := C) I
  have here := h (s.heap.objs.size + 1) s.heap.objs.size (I.hok.fresh (Nat.le_succ _)) (I.hok.fresh (Nat.le_refl _)) (Nat.ne_of_lt (Nat.lt_succ_self _))
  have r1 : Vals (V.ref (s.heap.objs.size + 1) :: vs) (Value.ref (s.heap.objs.size + 1) :: us) := .cons rfl r
  have hq' : Quiet (X.A.under (.builtin "type.__call__" ⟨.ref C :: us, ks.zip ws⟩)) := by
    have e : (Code.builtin "type.__call__" ⟨.ref C :: us, ks.zip ws⟩).guards = [] := by unfold Code.guards; rw [show (Code.builtin "type.__call__" ⟨.ref C :: us, ks.zip ws⟩).isGuard = false from (by show guardIds.contains "type.__call__" = false; decide +kernel)]; rfl
    show pushGuards (Code.builtin "type.__call__" ⟨.ref C :: us, ks.zip ws⟩).guards X.A.guards = some []
    rw [e]
    exact hq
  apply wpAny_call
  refine make_map (f := f) I.kIn M.makes M.init (beq_iff_eq.mp M.fn) (codeAny_mono (F.run _ X.stack _ _ ⟨Value.ref (s.heap.objs.size + 1) :: us, ks.zip ws⟩ (g (Value.ref (s.heap.objs.size + 1) :: us) ws) _ _ E hq' (hr.make C us (ks.zip ws)) (J.env0.make C us (ks.zip ws))
    (hb.to _ (Value.ref (s.heap.objs.size + 1) :: us) ws J.kIn (r1.length.symm.trans (congrArg Nat.succ l1)) (rz.length.symm.trans l2)) (hb.rel r1 rz) here) fun z s' hz => ?_)
  match z, hz with
  | .error _, hz => exact (hz : False).elim
  | .ok .next, hz => exact (hz : False).elim
  | .ok .brk, hz => exact (hz : False).elim
  | .ok .cont, hz => exact (hz : False).elim
  | .ok (.ret u), hz =>
    obtain ⟨v, H', I3, rv, ev, q3⟩ := J.after hz
    subst ev
    exact ⟨rv, ⟨V.ref (s.heap.objs.size + 1), H', I3, rfl, q3⟩⟩
theorem pe_makeG (M : Mk X.K C f) (F : FnG X.prog X.w X.K X.mg X.base k f fd ps sp) (hq : Quiet X.A) (hr : Room (k + 1) X.A) (hm : X.mg x = some (.ref C)) (hb : KBn X.K fd ps (n + 1) ks g gV) (ha : PA X (e :: es) t) (hkw : PK X kws tk) (hg : Gl X x)
    (hall : (backToKw pos (keywordEach kws X.env)).all (·.1.isSome) = true) (hks : (backToKw pos (keywordEach kws X.env)).filterMap (·.1) = ks) (hdb : (x == ("__debug__" : Str)) = false) (he : starEach (e :: es) X.env = (false, eval e X.env) :: starEach es X.env)
    (hpl : ((backTo pos (starEach (e :: es) X.env)).any (·.1) || (backToKw pos (keywordEach kws X.env)).any (·.1.isNone)) = false) : PE X (.Call (.Name x p) (e :: es) kws pos) (tMakeN C n ks.length sp gV E t tk) := by
  constructor
  intro pins s σ H Q I h
  apply wpAny_Call_Name_kw
  apply ld_glob I hg hm _ hdb
  refine PySem.W.callWith_KW (h₀ := X.base) I.ok.mod.kin M.kp hall (thn (ha.run pos pins s σ H _ I h) ?_) hpl he
  rintro us s1 ⟨vs, H1, I1, r, q⟩
  refine thn (hkw.run pos pins s1 σ H1 _ I1 q) ?_
  rintro ws s2 ⟨zs, H2, I2, rz, l1, l2, q2⟩
  refine ⟨I2.kIn, ?_⟩
  rw [hks]
  exact run_makeG M F hq hr hb I2 r rz l1 l2 q2
theorem pe_makeG0 (M : Mk X.K C f) (F : FnG X.prog X.w X.K X.mg X.base k f fd ps sp) (hq : Quiet X.A) (hr : Room (k + 1) X.A) (hm : X.mg x = some (.ref C)) (hb : KBn X.K fd ps (n + 1) ks g gV) (hkw : PK X kws tk) (hg : Gl X x)
    (hall : (backToKw pos (keywordEach kws X.env)).all (·.1.isSome) = true) (hks : (backToKw pos (keywordEach kws X.env)).filterMap (·.1) = ks) (hdb : (x == ("__debug__" : Str)) = false)
    (hpl : ((backTo pos (starEach [] X.env)).any (·.1) || (backToKw pos (keywordEach kws X.env)).any (·.1.isNone)) = false) : PE X (.Call (.Name x p) [] kws pos) (tMakeN C n ks.length sp gV E tNil tk) := by
  constructor
  intro pins s σ H Q I h
  apply wpAny_Call_Name_kw
  apply ld_glob I hg hm _ hdb
  refine PySem.W.callWith_KW0 (h₀ := X.base) I.ok.mod.kin M.kp hall (thn (hkw.run pos pins s σ H _ I h) ?_) hpl
  rintro ws s2 ⟨zs, H2, I2, rz, l1, l2, q2⟩
  refine ⟨I2.kIn, ?_⟩
  rw [hks]
  exact run_makeG (us := []) (vs := []) M F hq hr hb I2 .nil rz l1 l2 q2
/-- a property -/
theorem pe_propG {a' : Addr} {pr : Addr} (ho : PE X o ta) (c : Cls X.K C) (hp : PropOf X.K C m pr f) (F : FnG X.prog X.w X.K X.mg X.base k f fd ps sp) (hq : Quiet X.A) (hr : Room (k + 1) X.A) (hb : Binds X.K fd ps []) (hab : attributeBase o m X.env (eval o X.env) = eval o X.env) : PE X (.Attribute o m pos) (tProp C sp [] E ta) := by
  constructor
  intro pins s σ H Q I h
  refine attr_of hab (thn (ho.run pins s σ H _ I h) ?_)
  rintro u s1 ⟨x, H1, I1, rx, a, dx, fs, rfl, ea, q⟩
  cases (show u = Value.ref a from rx)
  obtain ⟨mA, O, _⟩ := ins_get I1.hok ea
  obtain ⟨od, J, _⟩ := O.look
  obtain ⟨rest, hrec⟩ := hp.rec_
  have I2 := I1.tok (s1.toks + 1)
  obtain ⟨cd, hcd, _⟩ := PySem.W.any_some c.hd
  have hc : (PySem.W.clsIn X.K C).isSome = true := by rw [hcd]; rfl
  have hl := F.len _ _ _ _ q
  refine PySem.W.get_bind I1.kIn J (PySem.W.plainGet_of (c.get m)).1 (PySem.W.findObj_data hc hp.at_ hp.get hp.tak) (PySem.W.plainGet_of (c.get m)).2 (wpAny_call (PySem.W.prop_get (s := { s1 with toks := s1.toks + 1 }) I1.kIn hrec ?_))
  refine codeAny_mono (F.run X.A.in1 X.stack { s1 with toks := s1.toks + 1 } H1 ⟨[.ref a], []⟩ [.ref a] [.ref a] Q E hq hr.in1 I2.env0.in1 (by simpa using hb _ [.ref a] I2.kIn (by simpa using hl)) (.cons rfl .nil) q) fun z s' hz => ?_
  match z, hz with
  | .error _, hz => exact (hz : False).elim
  | .ok .next, hz => exact (hz : False).elim
  | .ok .brk, hz => exact (hz : False).elim
  | .ok .cont, hz => exact (hz : False).elim
  | .ok (.ret u), hz =>
    obtain ⟨v, H', I3, rv, q3⟩ := I2.after hz
    show wpAny _ _ (handedOut u) _ _ _
    rw [PySem.W.handedOut_of (handed_of rv)]
    exact wpAny_pure ⟨v, H', I3, rv, q3⟩
end
end Dl
namespace Dl
open PySem PySem.Spec PyProof.Rows L2

/-! ### promises by data -/
/-- a def of n parameters that changes nothing: what F tells -/
def sp0 (T : CT) (n : Nat) (F : List D → Option D) : Sp := fun vs H Q _ => ∃ S ds d, (∀ b, S b → ∃ o, H b = some o) ∧ ds.length = n ∧ Reps T H S ds vs ∧ F ds = some d ∧ ∀ v H', Same H H' → Rep T H' S d v → Q v H'
/-- a def whose first parameter is a list that it changes, and n more -/
def sp1 (T : CT) (n : Nat) (F : List D → List D → Option (D × List D)) : Sp := fun vs H Q _ => ∃ S p us xs ws ds d xs', vs = V.ref p :: ws ∧ (∀ b, S b → ∃ o, H b = some o) ∧ S p ∧ H p = some (.lst us) ∧ Reps T H S xs us ∧ ds.length = n ∧
  Reps T H S ds ws ∧ F xs ds = some (d, xs') ∧ ∀ v H' us', (∀ b o, H b = some o → b ≠ p → H' b = some o) → H' p = some (.lst us') → Reps T H' S xs' us' → Rep T H' S d v → Q v H'
/-- an __init__: n parameters behind self; F tells the attributes -/
def spI (T : CT) (c n : Nat) (F : List D → Option (List D)) : Sp := fun vs H Q _ => ∃ S x C dx ns ws ds fs, vs = V.ref x :: ws ∧ T c = some (C, ns) ∧ H x = some (.ins C dx []) ∧ (∀ b, S b → ∃ o, H b = some o) ∧ S x ∧ ds.length = n ∧ Reps T H S ds ws ∧
  F ds = some fs ∧ ∀ H' vs', (∀ b o, H b = some o → b ≠ x → H' b = some o) → H' x = some (.ins C dx (ns.zip vs')) → ns.length = vs'.length → Reps T H' S fs vs' → Q .non H'
/-- a classmethod: the class itself first -/
def spC (T : CT) (C : Addr) (n : Nat) (F : List D → Option D) : Sp := fun vs H Q E => ∃ ws, vs = V.ref C :: ws ∧ sp0 T n F ws H Q E

def LenA (f : FA) (n : Nat) : Prop := ∀ δ ds δ', f δ = some (ds, δ') → ds.length = n
theorem lenA_nil : LenA fNil 0 := fun δ ds δ' h => by cases h; rfl
theorem lenA_cons {f : FE} {g : FA} {n : Nat} (h : LenA g n) : LenA (fCons f g) (n + 1) := fun δ ds δ' e => by
  obtain ⟨d, δ1, e1, e⟩ := bind_some2 e
  obtain ⟨dr, δ2, e2, e⟩ := bind_some2 e
  cases e
  simp [h _ _ _ e2]

section
variable {X : Cx} {T : CT} {k n c : Nat} {f C : Addr} {fd : FuncData} {ps : List Str} {x m : Str} {p pos apos : Pos} {e o : Expr} {es : List Expr} {fa : FA} {fo : FE}

/-! ### calls -/
theorem pks_nil : PK X [] (tDs T fNil) := PK.imp pk_nil fun σ H Q ⟨S0, δ, ds, δ', ok, e, q⟩ => by
  cases e
  exact q [] H ok Step.refl Reps.nil
theorem pks_cons {e : Expr} {kws : List Keyword} {nm : Option Str} {kpos : Pos} {f : FE} {g : FA} (h1 : PE X e (tD T f)) (h2 : PK X kws (tDs T g)) : PK X (⟨nm, e, kpos⟩ :: kws) (tDs T (fCons f g)) := PK.imp (pk_cons h1 h2) fun σ H Q ⟨S0, δ, ds, δ', ok, e, q⟩ => by
  obtain ⟨d, δ1, e1, e⟩ := bind_some2 e
  obtain ⟨dr, δ2, e2, e⟩ := bind_some2 e
  cases e
  exact ⟨S0, δ, d, δ1, ok, e1, fun v H1 ok1 s1 r1 => ⟨S0, δ1, dr, δ', ok1, e2, fun vs H2 ok2 s2 r2 => q _ H2 ok2 (s1.trans s2) (Reps.cons (s2.rep r1) r2)⟩⟩
def fCall (F : List D → Option D) (gD : List D → List D → List D) (fa fk : FA) : FE := fun δ => (fa δ).bind fun (ds, δ1) => (fk δ1).bind fun (es, δ2) => (F (gD ds es)).map fun d => (d, δ2)
theorem call_imp {F : List D → Option D} {gD : List D → List D → List D} {gV : List V → List V → List V} {fk : FA} {j i : Nat} (hl : LenA fa j) (hk : LenA fk i) (hn : ∀ ds es, ds.length = j → es.length = i → (gD ds es).length = n)
    (hG : ∀ (T : CT) (H : Hp) (S : Addr → Prop) (ds es : List D) (vs zs : List V), ds.length = j → es.length = i → Reps T H S ds vs → Reps T H S es zs → Reps T H S (gD ds es) (gV vs zs)) {σ : L2.St} {H : Hp} {Q : VK} {E : XK} (h : tD T (fCall F gD fa fk) σ H Q) : tCallN j i (sp0 T n F) gV E (tDs T fa) (tDs T fk) σ H Q := by
  obtain ⟨S0, δ, d, δ', ok, e, q⟩ := h
  obtain ⟨ds, δ1, e1, e2⟩ := bind_some2 e
  obtain ⟨es, δ2, e3, e4⟩ := bind_some2 e2
  dsimp only at e4
  obtain ⟨d', e5, e6⟩ := map_some1 e4
  cases e6
  refine ⟨S0, δ, ds, δ1, ok, e1, fun vs H1 ok1 s1 r1 => ⟨S0, δ1, es, δ', ok1, e3, fun zs H2 ok2 s2 r2 => ?_⟩⟩
  have r1' := s2.reps r1
  have l1 := hl _ _ _ e1
  have l2 := hk _ _ _ e3
  exact ⟨by rw [r1.length, l1], by rw [r2.length, l2], _, gD ds es, d, fun b z => ok2.trk z, hn _ _ l1 l2, hG _ _ _ _ _ _ _ l1 l2 r1' r2, e5, fun v H' sm r => q v H' (ok2.same sm) ((s1.trans s2).trans (Step.same sm)) r⟩
theorem pd_call {F : List D → Option D} {gD : List D → List D → List D} {ks : List Str} {kws : List Keyword} {fk : FA} {j : Nat} (G : FnG X.prog X.w X.K X.mg X.base k f fd ps (sp0 T n F)) (hq : Quiet X.A) (hr : Room k X.A) (hm : X.mg x = some (.ref f)) (hk : PySem.W.keepIn X.K (.ref f) = true) (hb : Bnd X.K fd ps j ks gD)
    (ha : PA X (e :: es) (tDs T fa)) (hkw : PK X kws (tDs T fk)) (hn : ∀ ds es, ds.length = j → es.length = ks.length → (gD ds es).length = n := by intro ds es h1 h2; simp [gPos, h1, h2]) (hl : LenA fa j := by repeat (first | exact lenA_nil | refine lenA_cons ?_)) (hlk : LenA fk ks.length := by repeat (first | exact lenA_nil | refine lenA_cons ?_)) (hg : Gl X x := by rfl)
    (hall : (backToKw pos (keywordEach kws X.env)).all (·.1.isSome) = true := by rfl) (hks : (backToKw pos (keywordEach kws X.env)).filterMap (·.1) = ks := by rfl) (hdb : (x == ("__debug__" : Str)) = false := by decide) (he : starEach (e :: es) X.env = (false, eval e X.env) :: starEach es X.env := by rfl)
    (hpl : ((backTo pos (starEach (e :: es) X.env)).any (·.1) || (backToKw pos (keywordEach kws X.env)).any (·.1.isNone)) = false := by rfl) : PE X (.Call (.Name x p) (e :: es) kws pos) (tD T (fCall F gD fa fk)) := by
  obtain ⟨g, gV, hb, hG⟩ := hb
  exact PE.imp (pe_callG (E := E0) G hq hr hm hk hb ha hkw hg hall hks hdb he hpl) fun _ _ _ h => call_imp hl hlk hn hG h
theorem pd_call0 {F : List D → Option D} {gD : List D → List D → List D} {ks : List Str} {kws : List Keyword} {fk : FA} (G : FnG X.prog X.w X.K X.mg X.base k f fd ps (sp0 T n F)) (hq : Quiet X.A) (hr : Room k X.A) (hm : X.mg x = some (.ref f)) (hk : PySem.W.keepIn X.K (.ref f) = true) (hb : Bnd X.K fd ps 0 ks gD)
    (hkw : PK X kws (tDs T fk)) (hn : ∀ ds es, ds.length = 0 → es.length = ks.length → (gD ds es).length = n := by intro ds es h1 h2; simp [gPos, h1, h2]) (hlk : LenA fk ks.length := by repeat (first | exact lenA_nil | refine lenA_cons ?_)) (hg : Gl X x := by rfl)
    (hall : (backToKw pos (keywordEach kws X.env)).all (·.1.isSome) = true := by rfl) (hks : (backToKw pos (keywordEach kws X.env)).filterMap (·.1) = ks := by rfl) (hdb : (x == ("__debug__" : Str)) = false := by decide)
    (hpl : ((backTo pos (starEach [] X.env)).any (·.1) || (backToKw pos (keywordEach kws X.env)).any (·.1.isNone)) = false := by rfl) : PE X (.Call (.Name x p) [] kws pos) (tD T (fCall F gD fNil fk)) := by
  obtain ⟨g, gV, hb, hG⟩ := hb
  refine PE.imp (pe_callG0 (E := E0) G hq hr hm hk hb hkw hg hall hks hdb hpl) fun σ H Q h => ?_
  obtain ⟨S0, δ, ds, δ1, ok, e1, q⟩ := call_imp (E := E0) lenA_nil hlk hn hG h
  cases e1
  exact q [] H ok Step.refl Reps.nil

/-- f(pot, ..): the first argument a name that holds its own list -/
def isL : Ow → Bool
  | .mine => true | .pot => true | .ini _ _ _ => false
theorem isL_ho : ∀ {q : Ow}, isL q = true → ∀ vs, hoOf q vs = .lst vs
  | .mine, _, _ => rfl
  | .pot, _, _ => rfl
  | .ini _ _ _, h, _ => by cases h
def isOwn : Option Sl → Bool
  | some (.own _ _) => true | _ => false
def fCallP (i : Nat) (F : List D → List D → Option (D × List D)) (fa : FA) : FE := fun δ => if isOwn δ[i]? = true then (fa δ).bind fun (ds, δ1) => match δ1[i]? with
    | some (.own w xs) => if isL w = true then (F xs ds).map fun (d, xs') => (d, δ1.set i (.own w xs')) else none
    | _ => none
  else none
theorem callP_core {q : Ow} {hq : ∀ vs, hoOf q vs = .lst vs} {i : Nat} {F : List D → List D → Option (D × List D)} {S0 : Addr → Prop} {σ : L2.St} {δ1 : Es} {H1 : Hp} {Q : VK} {E : XK} {ds xs xs' : List D} {vs : List V} {d : D} {a : Addr} (hn : ds.length = n)
    (ok1 : Ok T S0 σ δ1 H1) (ea : σ[i]? = some (some (.ref a))) (e1 : δ1[i]? = some (.own q xs)) (r1 : Reps T H1 (Av S0 σ δ1) ds vs) (eF : F xs ds = some (d, xs'))
    (h : ∀ v H', Ok T S0 σ (δ1.set i (.own q xs')) H' → Step σ δ1 H1 σ (δ1.set i (.own q xs')) H' → Rep T H' (Av S0 σ (δ1.set i (.own q xs'))) d v → Q v H') : sp1 T n F (V.ref a :: vs) H1 Q E := by
  obtain ⟨b, us, q1, q2, q3, _⟩ := ok1.ow i q xs e1
  rw [ea] at q1; cases q1
  rw [hq] at q2
  refine ⟨Av S0 σ δ1, a, us, xs, vs, ds, d, xs', rfl, fun b z => ok1.trk z, .inr ⟨i, q, xs, e1, ea⟩, q2, q3, hn, r1, eF, fun v H' us' hk ha rs r => ?_⟩
  obtain ⟨ok2, s2⟩ := ok1.change e1 ea hk (by rw [hq]; exact ha) rs
  refine h v H' ok2 s2 (r.sub fun b z => z.elim .inl fun z => .inr ?_)
  obtain ⟨j, p, es, h1, h2⟩ := z
  rcases get_set h1 with ⟨rfl, _, z⟩ | ⟨_, h1⟩
  · exact ⟨j, q, xs, e1, h2⟩
  · exact ⟨j, p, es, h1, h2⟩
theorem kbn_pos {K : PySem.W.Frag} (hb : Binds K fd ps []) (hn : ps.length = n) : KBn K fd ps n [] (fun us _ => us) (fun vs _ => vs) := ⟨fun s us ws X l1 l2 => by
  have : ws = [] := by cases ws with | nil => rfl | cons _ _ => cases l2
  subst this
  have h := hb s us X (by rw [List.append_nil, l1, hn])
  rw [List.append_nil] at h
  exact h, fun r _ => r⟩
theorem pd_callP {i : Nat} {y : Str} {F : List D → List D → Option (D × List D)} {py : Pos} (G : FnG X.prog X.w X.K X.mg X.base k f fd ps (sp1 T n F)) (hq : Quiet X.A) (hr : Room k X.A) (hm : X.mg x = some (.ref f)) (hk : PySem.W.keepIn X.K (.ref f) = true) (hb : Binds X.K fd ps []) (hps : ps.length = n + 1)
    (ha : PA X es (tDs T fa)) (hl : LenA fa n := by repeat (first | exact lenA_nil | refine lenA_cons ?_)) (hN : X.N[i]? = some y := by rfl) (hv : Vis X.env.scope y := by first | exact Or.inl rfl | exact Or.inr (Or.inl rfl) | exact Or.inr (Or.inr rfl)) (hdy : (y == ("__debug__" : Str)) = false := by decide)
    (hcd : (y == ("__classdict__" : Str)) = false := by decide) (hg : Gl X x := by rfl) (hdb : (x == ("__debug__" : Str)) = false := by decide) (he : starEach (.Name y py :: es) X.env = (false, eval (.Name y py) X.env) :: starEach es X.env := by rfl)
    (hpl : ((backTo pos (starEach (.Name y py :: es) X.env)).any (·.1) || (backToKw pos (keywordEach [] X.env)).any (·.1.isNone)) = false := by rfl) :
    PE X (.Call (.Name x p) (.Name y py :: es) [] pos) (tD T (fCallP i F fa)) := PE.imp (pe_callG (E := E0) G hq hr hm hk (kbn_pos hb hps) (pa_cons (pe_var hN hv hdy hcd) ha he) pk_nil hg rfl rfl hdb he hpl) fun σ H Q h => by
  obtain ⟨S0, δ, d, δ', ok, e, q⟩ := h
  unfold fCallP at e
  by_cases h0 : isOwn δ[i]? = true
  case neg => rw [if_neg h0] at e; cases e
  rw [if_pos h0] at e
  obtain ⟨ds, δ1, e1, e2⟩ := bind_some2 e
  obtain ⟨w0, xs0, e0⟩ : ∃ w0 xs0, δ[i]? = some (.own w0 xs0) := by
    cases z : δ[i]? with
    | none => rw [z] at h0; cases h0
    | some sl =>
      rw [z] at h0
      cases sl with
      | un => cases h0
      | val _ => cases h0
      | own p xs => exact ⟨p, xs, rfl⟩
  obtain ⟨a, us, ea, _⟩ := ok.ow i w0 xs0 e0
  refine ⟨_, ea, S0, δ, ds, δ1, ok, e1, fun vs H1 ok1 s1 r1 => ⟨by rw [List.length_cons, r1.length, hl _ _ _ e1], rfl, ?_⟩⟩
  dsimp only at e2
  cases z : δ1[i]? with
  | none => rw [z] at e2; cases e2
  | some sl =>
    rw [z] at e2
    cases sl with
    | un => cases e2
    | val _ => cases e2
    | own p1 xs =>
      dsimp only at e2
      by_cases hp : isL p1 = true
      case neg => rw [if_neg hp] at e2; cases e2
      rw [if_pos hp] at e2
      obtain ⟨d1, xs', e4, e5⟩ := map_some2 e2
      cases e5
      exact callP_core (hq := isL_ho hp) (hl _ _ _ e1) ok1 ea z r1 e4 fun v H' ok' s' r => q v H' ok' (s1.trans s') r

/-! ### attributes -/
def fFld (c j : Nat) (fo : FE) : FE := fun δ => (fo δ).bind fun (d, δ1) => match d with
  | .obj c' ds => if c' = c then (ds[j]?).map fun d => (d, δ1) else none
  | _ => none
theorem zip_look : ∀ {ns : List Str} {vs : List V} {j : Nat} {v : V} {f : Str}, ns.Nodup → ns[j]? = some f → vs[j]? = some v → (ns.zip vs).lookup f = some v
  | [], _, _, _, _, _, h, _ => by simp at h
  | _, [], _, _, _, _, _, h => by simp at h
  | g :: ns, w :: vs, 0, v, f, _, h1, h2 => by
    simp at h1 h2
    subst h1; subst h2
    simp [List.lookup]
  | g :: ns, w :: vs, j + 1, v, f, nd, h1, h2 => by
    simp at h1 h2
    have hne : f ≠ g := fun z => by
      subst z
      exact (List.nodup_cons.mp nd).1 (List.mem_of_getElem? h1)
    have hb : (f == g) = false := by simpa using hne
    rw [List.zip_cons_cons, List.lookup_cons, hb]
    exact zip_look (List.nodup_cons.mp nd).2 h1 h2
theorem zip_none : ∀ {ns : List Str} {vs : List V} {f : Str}, f ∉ ns → (ns.zip vs).lookup f = none
  | [], _, _, _ => rfl
  | _ :: _, [], _, _ => rfl
  | g :: ns, w :: vs, f, h => by
    have hne : f ≠ g := fun z => h (by rw [z]; exact List.mem_cons_self)
    have hb : (f == g) = false := by simpa using hne
    rw [List.zip_cons_cons, List.lookup_cons, hb]
    exact zip_none fun z => h (List.mem_cons_of_mem _ z)
theorem pd_fld {ns : List Str} {j : Nat} {g : Str} (ho : PE X o (tD T fo)) (hT : T c = some (C, ns)) (hc : Cls X.K C) (hn : NoAttr X.K C g) (hj : ns[j]? = some g := by rfl) (nd : ns.Nodup := by decide +kernel) (hb : attributeBase o g X.env (eval o X.env) = eval o X.env := by rfl) :
    PE X (.Attribute o g pos) (tD T (fFld c j fo)) := PE.imp (pe_fld ho hb) fun σ H Q ⟨S0, δ, d, δ', ok, e, q⟩ => by
  obtain ⟨d0, δ1, e1, e2⟩ := bind_some2 e
  cases d0 <;> first | cases e2 | skip
  rename_i c' ds
  dsimp only at e2
  by_cases hcc : c' = c
  · subst hcc
    rw [if_pos rfl] at e2
    obtain ⟨d1, e3, e4⟩ := map_some1 e2
    cases e4
    refine ⟨S0, δ, _, δ', ok, e1, fun v H1 ok1 s1 r => ?_⟩
    rw [Rep] at r
    obtain ⟨a, dx, C', ns', vs, rfl, hT', ha, hl, na, rs⟩ := r
    rw [hT] at hT'; cases hT'
    obtain ⟨v, hv, rv⟩ := rs.get e3
    exact ⟨a, C, dx, _, v, rfl, ha, hc, hn, zip_look nd hj hv, q v H1 ok1 s1 rv⟩
  · rw [if_neg hcc] at e2; cases e2
/-- a property -/
def fProp (c : Nat) (F : List D → Option D) (fo : FE) : FE := fun δ => (fo δ).bind fun (d, δ1) => match d with
  | .obj c' ds => if c' = c then (F [.obj c' ds]).map fun d => (d, δ1) else none
  | _ => none
theorem pd_prop {ns : List Str} {F : List D → Option D} {g : Str} {q : Addr} (ho : PE X o (tD T fo)) (hT : T c = some (C, ns)) (hc : Cls X.K C) (hp : PropOf X.K C g q f) (G : FnG X.prog X.w X.K X.mg X.base k f fd ps (sp0 T 1 F)) (hq : Quiet X.A) (hr : Room (k + 1) X.A) (hb : Binds X.K fd ps [])
    (hab : attributeBase o g X.env (eval o X.env) = eval o X.env := by rfl) : PE X (.Attribute o g pos) (tD T (fProp c F fo)) := PE.imp (pe_propG (E := E0) (a' := f) ho hc hp G hq hr hb hab) fun σ H Q ⟨S0, δ, d, δ', ok, e, q⟩ => by
  obtain ⟨d0, δ1, e1, e2⟩ := bind_some2 e
  cases d0 <;> first | cases e2 | skip
  rename_i c' ds
  dsimp only at e2
  by_cases hcc : c' = c
  · subst hcc
    rw [if_pos rfl] at e2
    obtain ⟨d1, e3, e4⟩ := map_some1 e2
    cases e4
    refine ⟨S0, δ, _, δ', ok, e1, fun v H1 ok1 s1 r => ?_⟩
    have r' := r
    rw [Rep] at r
    obtain ⟨a, dx, C', ns', vs, rfl, hT', ha, hl, na, rs⟩ := r
    rw [hT] at hT'; cases hT'
    exact ⟨a, dx, _, rfl, ha, _, [.obj c' ds], d, fun b z => ok1.trk z, rfl, Reps.cons r' Reps.nil, e3, fun v H' sm r => q v H' (ok1.same sm) (s1.trans (Step.same sm)) r⟩
  · rw [if_neg hcc] at e2; cases e2
/-- o.m(..) -/
def fMeth (c : Nat) (F : List D → Option D) (gD : List D → List D → List D) (fo : FE) (fa fk : FA) : FE := fun δ => (fo δ).bind fun (d, δ1) => match d with
  | .obj c' ds => if c' = c then (fa δ1).bind fun (xs, δ2) => (fk δ2).bind fun (es, δ3) => (F (gD (.obj c' ds :: xs) es)).map fun d => (d, δ3) else none
  | _ => none
theorem meth_imp {ns : List Str} {F : List D → Option D} {gD : List D → List D → List D} {gV : List V → List V → List V} {fk : FA} {j i : Nat} (hT : T c = some (C, ns)) (hmn : m ∉ ns) (hl : LenA fa j) (hk : LenA fk i) (hn : ∀ ds es, ds.length = j + 1 → es.length = i → (gD ds es).length = n)
    (hG : ∀ (T : CT) (H : Hp) (S : Addr → Prop) (ds es : List D) (vs zs : List V), ds.length = j + 1 → es.length = i → Reps T H S ds vs → Reps T H S es zs → Reps T H S (gD ds es) (gV vs zs)) {σ : L2.St} {H : Hp} {Q : VK} {E : XK} (h : tD T (fMeth c F gD fo fa fk) σ H Q) :
    tMethN C m (j + 1) i (sp0 T n F) gV E (tD T fo) (tDs T fa) (tDs T fk) σ H Q := by
  obtain ⟨S0, δ, d, δ', ok, e, q⟩ := h
  obtain ⟨d0, δ1, e1, e2⟩ := bind_some2 e
  cases d0 <;> first | cases e2 | skip
  rename_i c' ds
  dsimp only at e2
  by_cases hcc : c' = c
  · subst hcc
    rw [if_pos rfl] at e2
    obtain ⟨xs, δ2, e3, e4⟩ := bind_some2 e2
    obtain ⟨es, δ3, e5, e6⟩ := bind_some2 e4
    dsimp only at e6
    obtain ⟨d1, e7, e8⟩ := map_some1 e6
    cases e8
    refine ⟨S0, δ, _, δ1, ok, e1, fun v H1 ok1 s1 r => ?_⟩
    have r' := r
    rw [Rep] at r
    obtain ⟨a, dx, C', ns', vs, rfl, hT', ha, hlen, na, rs⟩ := r
    rw [hT] at hT'; cases hT'
    refine ⟨a, dx, _, rfl, ha, zip_none hmn, S0, δ1, xs, δ2, ok1, e3, fun ws H2 ok2 s2 r2 => ⟨S0, δ2, es, δ', ok2, e5, fun zs H3 ok3 s3 r3 => ?_⟩⟩
    have l1 := hl _ _ _ e3
    have l2 := hk _ _ _ e5
    have rr : Reps T H3 (Av S0 σ δ') (.obj c' ds :: xs) (V.ref a :: ws) := Reps.cons ((s2.trans s3).rep r') (s3.reps r2)
    exact ⟨by rw [r2.length, l1], by rw [r3.length, l2], _, _, d, fun b z => ok3.trk z, hn _ _ (by rw [List.length_cons, l1]) l2, hG _ _ _ _ _ _ _ (by rw [List.length_cons, l1]) l2 rr r3, e7, fun v H' sm r => q v H' (ok3.same sm) (((s1.trans s2).trans s3).trans (Step.same sm)) r⟩
  · rw [if_neg hcc] at e2; cases e2
theorem pd_meth {pl : Sem Bool} {ns : List Str} {F : List D → Option D} {gD : List D → List D → List D} {ks : List Str} {kws : List Keyword} {fk : FA} {j : Nat} (ho : PE X o (tD T fo)) (hT : T c = some (C, ns)) (hc : Cls X.K C) (hm : Meth X.K C m f) (G : FnG X.prog X.w X.K X.mg X.base k f fd ps (sp0 T n F)) (hq : Quiet X.A) (hr : Room k X.A) (hb : Bnd X.K fd ps (j + 1) ks gD)
    (ha : PA X (e :: es) (tDs T fa)) (hkw : PK X kws (tDs T fk)) (hmn : m ∉ ns := by decide +kernel) (hn : ∀ ds es, ds.length = j + 1 → es.length = ks.length → (gD ds es).length = n := by intro ds es h1 h2; simp [gPos, h1, h2]) (hl : LenA fa j := by repeat (first | exact lenA_nil | refine lenA_cons ?_)) (hlk : LenA fk ks.length := by repeat (first | exact lenA_nil | refine lenA_cons ?_))
    (hall : (backToKw pos (keywordEach kws X.env)).all (·.1.isSome) = true := by rfl) (hks : (backToKw pos (keywordEach kws X.env)).filterMap (·.1) = ks := by rfl) (he : starEach (e :: es) X.env = (false, eval e X.env) :: starEach es X.env := by rfl)
    (hpl : ((backTo pos (starEach (e :: es) X.env)).any (·.1) || (backToKw pos (keywordEach kws X.env)).any (·.1.isNone)) = false := by rfl)
    (ht : eval (.Call (.Attribute o m apos) (e :: es) kws pos) X.env = (do
      let y ← eval o X.env
      standAt apos.atName
      let (h, first) ← holding [y] (getMethod y m pl)
      callWith pos h first (backTo pos (starEach (e :: es) X.env)) (backToKw pos (keywordEach kws X.env))) := by rfl) : PE X (.Call (.Attribute o m apos) (e :: es) kws pos) (tD T (fMeth c F gD fo fa fk)) := by
  obtain ⟨g, gV, hb, hG⟩ := hb
  exact PE.imp (pe_methG (E := E0) ho hc hm G hq hr hb ha hkw hall hks he hpl ht) fun _ _ _ h => meth_imp hT hmn hl hlk hn hG h
theorem pd_meth0 {pl : Sem Bool} {ns : List Str} {F : List D → Option D} {gD : List D → List D → List D} {ks : List Str} {kws : List Keyword} {fk : FA} (ho : PE X o (tD T fo)) (hT : T c = some (C, ns)) (hc : Cls X.K C) (hm : Meth X.K C m f) (G : FnG X.prog X.w X.K X.mg X.base k f fd ps (sp0 T n F)) (hq : Quiet X.A) (hr : Room k X.A) (hb : Bnd X.K fd ps 1 ks gD)
    (hkw : PK X kws (tDs T fk)) (hmn : m ∉ ns := by decide +kernel) (hn : ∀ ds es, ds.length = 0 + 1 → es.length = ks.length → (gD ds es).length = n := by intro ds es h1 h2; simp [gPos, h1, h2]) (hlk : LenA fk ks.length := by repeat (first | exact lenA_nil | refine lenA_cons ?_))
    (hall : (backToKw pos (keywordEach kws X.env)).all (·.1.isSome) = true := by rfl) (hks : (backToKw pos (keywordEach kws X.env)).filterMap (·.1) = ks := by rfl)
    (hpl : ((backTo pos (starEach [] X.env)).any (·.1) || (backToKw pos (keywordEach kws X.env)).any (·.1.isNone)) = false := by rfl)
    (ht : eval (.Call (.Attribute o m apos) [] kws pos) X.env = (do
      let y ← eval o X.env
      standAt apos.atName
      let (h, first) ← holding [y] (getMethod y m pl)
      callWith pos h first (backTo pos (starEach [] X.env)) (backToKw pos (keywordEach kws X.env))) := by rfl) : PE X (.Call (.Attribute o m apos) [] kws pos) (tD T (fMeth c F gD fo fNil fk)) := by
  obtain ⟨g, gV, hb, hG⟩ := hb
  refine PE.imp (pe_methG0 (E := E0) ho hc hm G hq hr hb hkw hall hks hpl ht) fun σ H Q h => ?_
  obtain ⟨S0, δ, d, δ1, ok, e1, q⟩ := meth_imp (E := E0) hT hmn lenA_nil hlk hn hG h
  refine ⟨S0, δ, d, δ1, ok, e1, fun v H1 ok1 s1 r => ?_⟩
  obtain ⟨a, dx, fs, q1, q2, q3, S1, δ2, ds, δ3, ok2, e2, q4⟩ := q v H1 ok1 s1 r
  cases e2
  exact ⟨a, dx, fs, q1, q2, q3, q4 [] H1 ok2 Step.refl Reps.nil⟩

/-! ### objects made -/
def fMake (c : Nat) (F : List D → Option (List D)) (gD : List D → List D → List D) (fa fk : FA) : FE := fun δ => (fa δ).bind fun (ds, δ1) => (fk δ1).bind fun (es, δ2) => (F (gD ds es)).map fun fs => (.obj c fs, δ2)
theorem make_core {ns : List Str} {F : List D → Option (List D)} {ds fs : List D} {S0 : Addr → Prop} {σ : L2.St} {δ1 : Es} {H1 : Hp} {Q : VK} {E : XK} {vs : List V} {y dx : Addr} (hT : T c = some (C, ns)) (hn : ds.length = n) (ok1 : Ok T S0 σ δ1 H1) (r1 : Reps T H1 (Av S0 σ δ1) ds vs) (eF : F ds = some fs)
    (ny : H1 y = none) (nd : H1 dx = none) (ne : dx ≠ y) (q : ∀ v H', Ok T S0 σ δ1 H' → Step σ δ1 H1 σ δ1 H' → Rep T H' (Av S0 σ δ1) (.obj c fs) v → Q v H') :
    spI T c n F (V.ref y :: vs) (upd (upd H1 dx (.own y)) y (.ins C dx [])) (fun v H2 => v = .non ∧ Q (.ref y) H2) E := by
  have sm : Same H1 (upd (upd H1 dx (.own y)) y (.ins C dx [])) := fun b o e => by rw [upd_ne (ne_of_none e ny), upd_ne (ne_of_none e nd)]; exact e
  refine ⟨fun b => Av S0 σ δ1 b ∨ b = y, y, C, dx, ns, vs, ds, fs, rfl, hT, upd_same, fun b z => z.elim (fun z => let ⟨o, e⟩ := ok1.trk z; ⟨o, sm b o e⟩) (fun z => ⟨.ins C dx [], by rw [z]; exact upd_same⟩), .inr rfl, hn, r1.move (fun b o e _ => sm b o e) fun b z => z.elim .inl fun z => .inr (by rw [z]; exact ny), eF, fun H' vs' hk hy hl rs => ⟨rfl, ?_⟩⟩
  have sm' : Same H1 H' := fun b o e => hk b o (sm b o e) (ne_of_none e ny)
  refine q _ H' (ok1.same sm') (Step.same sm') ?_
  rw [Rep]
  exact ⟨y, dx, C, ns, vs', rfl, hT, hy, hl, ok1.fresh ny, rs.sub fun b z => .inl z⟩
/-- how the values behind self come to an __init__ -/
def BndI (K : PySem.W.Frag) (fd : FuncData) (ps : List Str) (n : Nat) (ks : List Str) (gD : List D → List D → List D) : Prop :=
  ∃ g gV, KBn K fd ps (n + 1) ks g gV ∧ ∃ hV : List V → List V → List V, (∀ x vs zs, vs.length = n → zs.length = ks.length → gV (x :: vs) zs = x :: hV vs zs) ∧ ∀ (T : CT) (H : Hp) (S : Addr → Prop) (ds es : List D) (vs zs : List V), ds.length = n → es.length = ks.length → Reps T H S ds vs → Reps T H S es zs → Reps T H S (gD ds es) (hV vs zs)
theorem make_imp {ns : List Str} {F : List D → Option (List D)} {gD : List D → List D → List D} {gV hV : List V → List V → List V} {fk : FA} {j i : Nat} (hT : T c = some (C, ns)) (hl : LenA fa j) (hk : LenA fk i) (hn : ∀ ds es, ds.length = j → es.length = i → (gD ds es).length = n)
    (hx : ∀ x vs zs, vs.length = j → zs.length = i → gV (x :: vs) zs = x :: hV vs zs) (hG : ∀ (T : CT) (H : Hp) (S : Addr → Prop) (ds es : List D) (vs zs : List V), ds.length = j → es.length = i → Reps T H S ds vs → Reps T H S es zs → Reps T H S (gD ds es) (hV vs zs))
    {σ : L2.St} {H : Hp} {Q : VK} {E : XK} (h : tD T (fMake c F gD fa fk) σ H Q) : tMakeN C j i (spI T c n F) gV E (tDs T fa) (tDs T fk) σ H Q := by
  obtain ⟨S0, δ, d, δ', ok, e, q⟩ := h
  obtain ⟨ds, δ1, e1, e2⟩ := bind_some2 e
  obtain ⟨es, δ2, e3, e4⟩ := bind_some2 e2
  dsimp only at e4
  obtain ⟨fs, e5, e6⟩ := map_some1 e4
  cases e6
  refine ⟨S0, δ, ds, δ1, ok, e1, fun vs H1 ok1 s1 r1 => ⟨S0, δ1, es, δ', ok1, e3, fun zs H2 ok2 s2 r2 => ?_⟩⟩
  have l1 := hl _ _ _ e1
  have l2 := hk _ _ _ e3
  refine ⟨by rw [r1.length, l1], by rw [r2.length, l2], fun y dx ny nd ne => ?_⟩
  rw [hx _ _ _ (by rw [r1.length, l1]) (by rw [r2.length, l2])]
  exact make_core hT (hn _ _ l1 l2) ok2 (hG _ _ _ _ _ _ _ l1 l2 (s2.reps r1) r2) e5 ny nd ne fun v H' ok' s' r => q v H' ok' ((s1.trans s2).trans s') r
theorem pd_make {ns : List Str} {F : List D → Option (List D)} {gD : List D → List D → List D} {ks : List Str} {kws : List Keyword} {fk : FA} {j : Nat} (hT : T c = some (C, ns)) (M : Mk X.K C f) (G : FnG X.prog X.w X.K X.mg X.base k f fd ps (spI T c n F)) (hq : Quiet X.A) (hr : Room (k + 1) X.A) (hm : X.mg x = some (.ref C)) (hb : BndI X.K fd ps j ks gD)
    (ha : PA X (e :: es) (tDs T fa)) (hkw : PK X kws (tDs T fk)) (hn : ∀ ds es, ds.length = j → es.length = ks.length → (gD ds es).length = n := by intro ds es h1 h2; simp [gPos, h1, h2]) (hl : LenA fa j := by repeat (first | exact lenA_nil | refine lenA_cons ?_)) (hlk : LenA fk ks.length := by repeat (first | exact lenA_nil | refine lenA_cons ?_)) (hg : Gl X x := by rfl)
    (hall : (backToKw pos (keywordEach kws X.env)).all (·.1.isSome) = true := by rfl) (hks : (backToKw pos (keywordEach kws X.env)).filterMap (·.1) = ks := by rfl) (hdb : (x == ("__debug__" : Str)) = false := by decide) (he : starEach (e :: es) X.env = (false, eval e X.env) :: starEach es X.env := by rfl)
    (hpl : ((backTo pos (starEach (e :: es) X.env)).any (·.1) || (backToKw pos (keywordEach kws X.env)).any (·.1.isNone)) = false := by rfl) : PE X (.Call (.Name x p) (e :: es) kws pos) (tD T (fMake c F gD fa fk)) := by
  obtain ⟨g, gV, hb, hV, hx, hG⟩ := hb
  exact PE.imp (pe_makeG (E := E0) M G hq hr hm hb ha hkw hg hall hks hdb he hpl) fun _ _ _ h => make_imp hT hl hlk hn hx hG h
theorem pd_make0 {ns : List Str} {F : List D → Option (List D)} {gD : List D → List D → List D} {ks : List Str} {kws : List Keyword} {fk : FA} (hT : T c = some (C, ns)) (M : Mk X.K C f) (G : FnG X.prog X.w X.K X.mg X.base k f fd ps (spI T c n F)) (hq : Quiet X.A) (hr : Room (k + 1) X.A) (hm : X.mg x = some (.ref C)) (hb : BndI X.K fd ps 0 ks gD)
    (hkw : PK X kws (tDs T fk)) (hn : ∀ ds es, ds.length = 0 → es.length = ks.length → (gD ds es).length = n := by intro ds es h1 h2; simp [gPos, h1, h2]) (hlk : LenA fk ks.length := by repeat (first | exact lenA_nil | refine lenA_cons ?_)) (hg : Gl X x := by rfl)
    (hall : (backToKw pos (keywordEach kws X.env)).all (·.1.isSome) = true := by rfl) (hks : (backToKw pos (keywordEach kws X.env)).filterMap (·.1) = ks := by rfl) (hdb : (x == ("__debug__" : Str)) = false := by decide)
    (hpl : ((backTo pos (starEach [] X.env)).any (·.1) || (backToKw pos (keywordEach kws X.env)).any (·.1.isNone)) = false := by rfl) : PE X (.Call (.Name x p) [] kws pos) (tD T (fMake c F gD fNil fk)) := by
  obtain ⟨g, gV, hb, hV, hx, hG⟩ := hb
  refine PE.imp (pe_makeG0 (E := E0) M G hq hr hm hb hkw hg hall hks hdb hpl) fun σ H Q h => ?_
  obtain ⟨S0, δ, ds, δ1, ok, e1, q⟩ := make_imp (E := E0) hT lenA_nil hlk hn hx hG h
  cases e1
  exact q [] H ok Step.refl Reps.nil
/-- self.f = e in an __init__: the next attribute -/
def sIni (i : Nat) (C : Addr) (ns : List Str) (g : Str) (fv : FE) : FS := fun δ => (fv δ).bind fun (d, δ1) => match δ1[i]? with
  | some (.own (.ini C' dx ns') ds) => if C' = C ∧ ns' = ns ∧ ns[ds.length]? = some g then some (.nx (δ1.set i (.own (.ini C' dx ns') (ds ++ [d])))) else none
  | _ => none
theorem putF_zip : ∀ {ns : List Str} {vs : List V} {g : Str} {v : V}, ns.Nodup → ns[vs.length]? = some g → putF g v (ns.zip vs) = ns.zip (vs ++ [v])
  | [], _, _, _, _, h => by simp at h
  | a :: ns, [], g, v, _, h => by
    simp at h
    subst h
    simp [putF]
  | a :: ns, w :: vs, g, v, nd, h => by
    simp at h
    have hne : ¬ a = g := fun z => by
      subst z
      exact (List.nodup_cons.mp nd).1 (List.mem_of_getElem? h)
    rw [List.zip_cons_cons]
    show (if a = g then _ else (a, w) :: putF g v (ns.zip vs)) = _
    rw [if_neg hne, putF_zip (List.nodup_cons.mp nd).2 h]
    rfl
theorem st_ini {i : Nat} {y g : Str} {py pa : Pos} {v : Expr} {fv : FE} {ns : List Str} (hv : PE X v (tD T fv)) (hc : Cls X.K C) (hn : NoAttr X.K C g) (nd : ns.Nodup := by decide +kernel) (hlen : ns.length < 1000 := by decide) (hN : X.N[i]? = some y := by rfl)
    (hvis : Vis X.env.scope y := by first | exact Or.inl rfl | exact Or.inr (Or.inl rfl) | exact Or.inr (Or.inr rfl)) (hdy : (y == ("__debug__" : Str)) = false := by decide) (hcd : (y == ("__classdict__" : Str)) = false := by decide)
    (hs : swapsWith v (some (.Attribute (.Name y py) g pa)) pos.line X.env = pure false := by rfl) : PS X (.Assign [.Attribute (.Name y py) g pa] v pos) (tSt T (sIni i C ns g fv)) := PS.imp (ps_fld (pe_var hN hvis hdy hcd) hv hs) fun E σ H ⟨S0, δ, r, ok, e, q⟩ => by
  obtain ⟨d, δ1, e1, e2⟩ := bind_some2 e
  refine ⟨S0, δ, d, δ1, ok, e1, fun w H1 ok1 s1 rw' => ?_⟩
  dsimp only at e2
  cases z : δ1[i]? with
  | none => rw [z] at e2; cases e2
  | some sl =>
    rw [z] at e2
    cases sl with
    | un => cases e2
    | val _ => cases e2
    | own p1 ds =>
      cases p1 with
      | mine => cases e2
      | pot => cases e2
      | ini C' dx' ns' =>
        dsimp only at e2
        obtain ⟨⟨hC, hns, hg⟩, e3⟩ := ite_some e2
        subst hC hns
        subst e3
        obtain ⟨a, vs, ea, ha, rs, _⟩ := ok1.ow i _ ds z
        have hl := rs.length
        have hlt : ds.length < ns'.length := (List.getElem?_eq_some_iff.mp hg).1
        refine ⟨_, ea, a, C', dx', ns'.zip vs, rfl, ha, hc, hn, by rw [List.length_zip]; omega, ?_⟩
        rw [putF_zip nd (by rw [hl]; exact hg)]
        have hk : ∀ b o, H1 b = some o → b ≠ a → upd H1 a (.ins C' dx' (ns'.zip (vs ++ [w]))) b = some o := fun b o e ne => by rw [upd_ne ne]; exact e
        have na : Av S0 σ δ1 a := .inr ⟨i, _, ds, z, ea⟩
        obtain ⟨ok2, s2⟩ := ok1.change (H' := upd H1 a (.ins C' dx' (ns'.zip (vs ++ [w])))) (us := vs ++ [w]) z ea hk upd_same ((rs.append (Reps.cons rw' Reps.nil)).move (fun b o e n => hk b o e fun q => n (by rw [q]; exact na)) fun b z => .inl z)
        exact q _ _ ok2 (s1.trans s2)
end
end Dl
namespace Dl
open PySem PySem.Spec PyProof.Rows L2

/-- the slots at a def's entry -/
def ini (m : Nat) (ds : List D) : Es := ds.map .val ++ List.replicate (m - ds.length) .un
theorem ini_ok {T : CT} {S : Addr → Prop} {H : Hp} {N : List Str} {ds : List D} {vs : List V} (tr : ∀ b, S b → ∃ o, H b = some o) (r : Reps T H S ds vs) : Ok T S (L2.start N vs) (ini N.length ds) H := by
  have hl := r.length
  have nown : ∀ b, ¬ ownAt (L2.start N vs) (ini N.length ds) b := fun b ⟨i, p, es, h1, _⟩ => by
    unfold ini at h1
    rw [List.getElem?_append] at h1
    split at h1
    · rw [List.getElem?_map] at h1
      cases q : ds[i]? with
      | none => rw [q] at h1; cases h1
      | some d => rw [q] at h1; cases h1
    · rw [List.getElem?_replicate] at h1
      split at h1 <;> cases h1
  refine ⟨?_, tr, fun i d h => ?_, fun i p es h => ?_, fun i j p q es fs a h1 h2 h3 h4 => ?_⟩
  · unfold L2.start ini
    simp only [List.length_append, List.length_map, List.length_replicate]
    omega
  · unfold ini at h
    rw [List.getElem?_append] at h
    split at h
    · rename_i hi
      rw [List.getElem?_map] at h
      cases q : ds[i]? with
      | none => rw [q] at h; cases h
      | some d' =>
        rw [q] at h
        cases h
        obtain ⟨v, hv, rv⟩ := r.get q
        refine ⟨v, ?_, rv.sub fun b z => z.elim id fun z => (nown b z).elim⟩
        unfold L2.start
        have hi' : i < vs.length := (List.getElem?_eq_some_iff.mp hv).1
        rw [List.getElem?_append_left (by simpa using hi'), List.getElem?_map, hv]
        rfl
    · rw [List.getElem?_replicate] at h
      split at h <;> cases h
  · unfold ini at h
    rw [List.getElem?_append] at h
    split at h
    · rw [List.getElem?_map] at h
      cases q : ds[i]? with
      | none => rw [q] at h; cases h
      | some d => rw [q] at h; cases h
    · rw [List.getElem?_replicate] at h
      split at h <;> cases h
  · obtain ⟨⟩ := nown a ⟨i, p, es, h1, h3⟩
theorem ini_own {N : List Str} {ds : List D} {vs : List V} : ∀ b, ¬ ownAt (L2.start N vs) (ini N.length ds) b := fun b ⟨i, p, es, h1, _⟩ => by
  unfold ini at h1
  rw [List.getElem?_append] at h1
  split at h1
  · rw [List.getElem?_map] at h1
    cases q : ds[i]? with
    | none => rw [q] at h1; cases h1
    | some d => rw [q] at h1; cases h1
  · rw [List.getElem?_replicate] at h1
    split at h1 <;> cases h1
/-- .. whose first parameter is the caller's own -/
theorem iniP_ok {T : CT} {S : Addr → Prop} {H : Hp} {N : List Str} {ds xs : List D} {vs us : List V} {p : Addr} {w : Ow} (hw : w ≠ .mine) (tr : ∀ b, S b → ∃ o, H b = some o) (hp : S p) (ha : H p = some (hoOf w us)) (rx : Reps T H S xs us) (r : Reps T H S ds vs) (hN : 0 < N.length) :
    Ok T S (L2.start N (V.ref p :: vs)) (.own w xs :: ini (N.length - 1) ds) H ∧ ∀ b, ownAt (L2.start N (V.ref p :: vs)) (.own w xs :: ini (N.length - 1) ds) b → b = p := by
  have hl := r.length
  have hst : L2.start N (V.ref p :: vs) = some (V.ref p) :: (vs.map some ++ List.replicate (N.length - (vs.length + 1)) none) := by
    unfold L2.start
    simp
  have nth : ∀ (i : Nat) q es, (ini (N.length - 1) ds)[i]? = some (.own q es) → False := fun i q es h1 => by
    unfold ini at h1
    rw [List.getElem?_append] at h1
    split at h1
    · rw [List.getElem?_map] at h1
      cases q : ds[i]? with
      | none => rw [q] at h1; cases h1
      | some d => rw [q] at h1; cases h1
    · rw [List.getElem?_replicate] at h1
      split at h1 <;> cases h1
  have own1 : ∀ b, ownAt (L2.start N (V.ref p :: vs)) (.own w xs :: ini (N.length - 1) ds) b → b = p := fun b ⟨i, q, es, h1, h2⟩ => by
    rw [hst] at h2
    cases i with
    | zero => simp at h2; exact h2.symm
    | succ i => simp at h1; exact (nth i q es h1).elim
  have sub : ∀ b, Av S (L2.start N (V.ref p :: vs)) (.own w xs :: ini (N.length - 1) ds) b → S b := fun b z => z.elim id fun z => by rw [own1 b z]; exact hp
  refine ⟨⟨?_, tr, fun i d h => ?_, fun i q es h => ?_, fun i j q1 q2 es fs a h1 h2 h3 h4 => ?_⟩, own1⟩
  · rw [hst]
    unfold ini
    simp only [List.length_cons, List.length_append, List.length_map, List.length_replicate]
    omega
  · cases i with
    | zero => simp at h
    | succ i =>
      simp at h
      unfold ini at h
      rw [List.getElem?_append] at h
      split at h
      · rw [List.getElem?_map] at h
        cases q : ds[i]? with
        | none => rw [q] at h; cases h
        | some d' =>
          rw [q] at h
          cases h
          obtain ⟨v, hv, rv⟩ := r.get q
          refine ⟨v, ?_, rv.sub sub⟩
          rw [hst]
          have hi' : i < vs.length := (List.getElem?_eq_some_iff.mp hv).1
          rw [List.getElem?_cons_succ, List.getElem?_append_left (by simpa using hi'), List.getElem?_map, hv]
          rfl
      · rw [List.getElem?_replicate] at h
        split at h <;> cases h
  · cases i with
    | zero =>
      simp at h
      obtain ⟨rfl, rfl⟩ := h
      exact ⟨p, us, by rw [hst]; rfl, ha, rx.sub sub, fun z => absurd z hw⟩
    | succ i => simp at h; exact (nth i q es h).elim
  · cases i with
    | zero => cases j with
      | zero => rfl
      | succ j => simp at h2; exact (nth j q2 fs h2).elim
    | succ i => simp at h1; exact (nth i q1 es h1).elim

/-- how a body's end tells the value -/
def endD : Fl → Option D
  | .rt d _ => some d
  | .nx _ => some .non
  | _ => none
def endP : Fl → Option (D × List D)
  | .rt d (.own .pot xs :: _) => some (d, xs)
  | .nx (.own .pot xs :: _) => some (.non, xs)
  | _ => none
def endI (C : Addr) (ns : List Str) : Fl → Option (List D)
  | .nx (.own (.ini C' _ ns') xs :: _) => if C' = C ∧ ns' = ns ∧ xs.length = ns.length then some xs else none
  | _ => none
section
variable {P : Program} {w : World} {K : PySem.W.Frag} {mg : Str → Option Value} {base : Heap} {T : CT}
theorem end0 {S : Addr → Prop} {H : Hp} {N : List Str} {ds : List D} {vs : List V} {g : FS} {d : D} {r : Fl} {Q : VK} (tr : ∀ b, S b → ∃ o, H b = some o) (rr : Reps T H S ds vs) (eg : g (ini N.length ds) = some r) (er : endD r = some d) (q : ∀ v H', Same H H' → Rep T H' S d v → Q v H') :
    tSt T g { nx := fun _ H' => Q .non H', rt := Q } (L2.start N vs) H := by
  refine ⟨S, ini N.length ds, r, ini_ok tr rr, eg, ?_⟩
  cases r with
  | nx δ' => cases er; exact fun σ' H' ok s => q _ H' (fun b o e => s.keep b o e (ini_own b)) (rep_lit rfl)
  | bk δ' => cases er
  | ct δ' => cases er
  | rt d' δ' => cases er; exact fun v σ' H' ok s r => q v H' (fun b o e => s.keep b o e (ini_own b)) (r.sub fun b z => .inl z)
/-- THE RULE for a def: its body's function tells what G tells -/
theorem ok0 {x qual : Str} {st : Stmt} {f : Addr} {fd : FuncData} {N ps : List Str} {k : Nat} {g : FS} (G : List D → Option D) (F : Fun K x qual st f fd) (S : FnScope N ps (defScope st))
    (body : ∀ (cdv : Value) (A : Around) (outer : List PySem.Env) (s : Shared) (H : Hp) (E : XK), Quiet A → Room k (A.deeper (envOfC qual (defScope st) s.heap.objs.size f cdv)) → PSs (cxOf CX0 P w K mg base N qual (defScope st) f cdv A outer s H E).nox (defBody st) (tSt T g))
    (tell : ∀ ds d, ds.length = ps.length → G ds = some d → ∃ r, g (ini N.length ds) = some r ∧ endD r = some d) : FnG P w K mg base (k + 1) f fd ps (sp0 T ps.length G) := by
  obtain ⟨oc, od, kV, doc, pm, an, cdv, ct, osl, rfl, lk, hcd⟩ := F.ex
  refine fnG_of lk hcd S (fun vs H Q E h => ?_) (fun A outer s H vs Q E hq hr h => ?_)
  · obtain ⟨S, ds, d, _, hl, r, _⟩ := h
    rw [r.length, hl]
  · obtain ⟨S, ds, d, tr, hl, r, eG, q⟩ := h
    obtain ⟨r1, e1, e2⟩ := tell ds d hl eG
    exact ⟨_, body cdv A outer s H E hq hr, end0 tr r e1 e2 q⟩
theorem endP_some {r : Fl} {d : D} {xs : List D} (h : endP r = some (d, xs)) : (∃ δ, r = .rt d (.own .pot xs :: δ)) ∨ (d = .non ∧ ∃ δ, r = .nx (.own .pot xs :: δ)) := by
  unfold endP at h
  split at h
  · cases h; exact .inl ⟨_, rfl⟩
  · cases h; exact .inr ⟨rfl, _, rfl⟩
  · cases h
theorem ok1 {x qual : Str} {st : Stmt} {f : Addr} {fd : FuncData} {N ps : List Str} {k n : Nat} {g : FS} (G : List D → List D → Option (D × List D)) (F : Fun K x qual st f fd) (S : FnScope N ps (defScope st)) (hn : ps.length = n + 1)
    (body : ∀ (cdv : Value) (A : Around) (outer : List PySem.Env) (s : Shared) (H : Hp) (E : XK), Quiet A → Room k (A.deeper (envOfC qual (defScope st) s.heap.objs.size f cdv)) → PSs (cxOf CX0 P w K mg base N qual (defScope st) f cdv A outer s H E).nox (defBody st) (tSt T g))
    (tell : ∀ xs ds d xs', ds.length = n → G xs ds = some (d, xs') → ∃ r, g (.own .pot xs :: ini (N.length - 1) ds) = some r ∧ endP r = some (d, xs')) : FnG P w K mg base (k + 1) f fd ps (sp1 T n G) := by
  have hN : 0 < N.length := by
    have h := congrArg List.length S.pre
    rw [List.length_take, hn] at h
    omega
  obtain ⟨oc, od, kV, doc, pm, an, cdv, ct, osl, rfl, lk, hcd⟩ := F.ex
  refine fnG_of lk hcd S (fun vs H Q E h => ?_) (fun A outer s H vs Q E hq hr h => ?_)
  · obtain ⟨S, p, us, xs, ws, ds, d, xs', rfl, _, _, _, _, hl, r, _⟩ := h
    rw [List.length_cons, r.length, hl, hn]
  · obtain ⟨S, p, us, xs, ws, ds, d, xs', rfl, tr, hp, ha, rx, hl, r, eG, q⟩ := h
    obtain ⟨r1, e1, e2⟩ := tell xs ds d xs' hl eG
    obtain ⟨ok, own1⟩ := iniP_ok (w := .pot) (by intro z; cases z) tr hp ha rx r hN
    refine ⟨_, body cdv A outer s H E hq hr, S, _, r1, ok, e1, ?_⟩
    have fin : ∀ (σ' : L2.St) (H' : Hp) (δ1 : Es) (v : V), Ok T S σ' (.own .pot xs' :: δ1) H' → Step (L2.start N (V.ref p :: ws)) (.own .pot xs :: ini (N.length - 1) ds) H σ' (.own .pot xs' :: δ1) H' → Rep T H' S d v → Q v H' := fun σ' H' δ1 v ok' s r => by
      obtain ⟨a, us', e3, e4, rs, _⟩ := ok'.ow 0 .pot xs' rfl
      obtain ⟨_, e5⟩ := s.pot 0 .pot xs' (by intro z; cases z) rfl
      rw [e3] at e5
      have ep : a = p := by
        have h0 : (L2.start N (V.ref p :: ws))[0]? = some (some (V.ref p)) := by unfold L2.start; simp
        rw [h0] at e5
        injection e5 with e5
        injection e5 with e5
        injection e5
      subst ep
      exact q v H' us' (fun b o e ne => s.keep b o e fun z => ne (own1 b z)) e4 (rs.sub fun b z => .inl z) r
    rcases endP_some e2 with ⟨δ1, rfl⟩ | ⟨rfl, δ1, rfl⟩
    · exact fun v σ' H' ok' s r => fin σ' H' δ1 v ok' s (r.sub fun b z => .inl z)
    · exact fun σ' H' ok' s => fin σ' H' δ1 _ ok' s (rep_lit rfl)
theorem endI_some {C : Addr} {ns : List Str} {r : Fl} {xs : List D} (h : endI C ns r = some xs) : ∃ dx δ, r = .nx (.own (.ini C dx ns) xs :: δ) ∧ xs.length = ns.length := by
  unfold endI at h
  split at h
  · obtain ⟨⟨e1, e2, e3⟩, e4⟩ := ite_some h
    subst e1 e2 e4
    exact ⟨_, _, rfl, e3⟩
  · cases h
/-- an __init__ with defaults -/
theorem okI {x qual : Str} {params : Arguments} {bd : List Stmt} {scope : Scope} {dvs : List V} {f : Addr} {fd : FuncData} {N ps : List Str} {k n c : Nat} {C : Addr} {ns : List Str} {g : FS} (G : List D → Option (List D)) (F : FunD K x qual params bd scope dvs [] f fd) (S : FnScope N ps scope) (hn : ps.length = n + 1) (hT : T c = some (C, ns))
    (body : ∀ (cdv : Value) (A : Around) (outer : List PySem.Env) (s : Shared) (H : Hp) (E : XK), Quiet A → Room k (A.deeper (envOfC qual scope s.heap.objs.size f cdv)) → PSs (cxOf CX0 P w K mg base N qual scope f cdv A outer s H E).nox bd (tSt T g))
    (tell : ∀ dx ds fs, ds.length = n → G ds = some fs → ∃ r, g (.own (.ini C dx ns) [] :: ini (N.length - 1) ds) = some r ∧ endI C ns r = some fs) : FnG P w K mg base (k + 1) f fd ps (spI T c n G) := by
  have hN : 0 < N.length := by
    have h := congrArg List.length S.pre
    rw [List.length_take, hn] at h
    omega
  obtain ⟨oc, od, dV, kV, doc, pm, an, cdv, ct, osl, rfl, lk, hcd, _, _⟩ := F.ex
  refine fnG_of lk hcd S (fun vs H Q E h => ?_) (fun A outer s H vs Q E hq hr h => ?_)
  · obtain ⟨S, y, C', dx, ns', ws, ds, fs, rfl, _, _, _, _, hl, r, _⟩ := h
    rw [List.length_cons, r.length, hl, hn]
  · obtain ⟨S, y, C', dx, ns', ws, ds, fs, rfl, hT', hy, tr, hp, hl, r, eG, q⟩ := h
    rw [hT] at hT'; cases hT'
    obtain ⟨r1, e1, e2⟩ := tell dx ds fs hl eG
    obtain ⟨ok, own1⟩ := iniP_ok (w := .ini C dx ns) (us := []) (xs := []) (by intro z; cases z) tr hp (by rw [hy]; simp [hoOf]) Reps.nil r hN
    refine ⟨_, body cdv A outer s H E hq hr, S, _, r1, ok, e1, ?_⟩
    obtain ⟨dx', δ1, rfl, hlen⟩ := endI_some e2
    refine fun σ' H' ok' s => ?_
    obtain ⟨a, us', e3, e4, rs, _⟩ := ok'.ow 0 _ fs rfl
    obtain ⟨⟨es, e6⟩, e5⟩ := s.pot 0 _ fs (by intro z; cases z) rfl
    simp at e6
    obtain ⟨rfl, _⟩ := e6
    rw [e3] at e5
    have ep : a = y := by
      have h0 : (L2.start N (V.ref y :: ws))[0]? = some (some (V.ref y)) := by unfold L2.start; simp
      rw [h0] at e5
      injection e5 with e5
      injection e5 with e5
      injection e5
    subst ep
    exact q H' us' (fun b o e ne => s.keep b o e fun z => ne (own1 b z)) e4 (by rw [rs.length, hlen]) (rs.sub fun b z => .inl z)
end
end Dl
namespace OwB
open PySem PySem.W PySem.SeqAt PyProof.Rows PySem.Builtin
section
variable {prog : Program} {w : World} {A : Around} {E : Value → Shared → Prop} {s : Shared} {K : Frag} {x C f : Addr} {h₀ : Heap} {m : Str → Option Value} {ox : Obj} {od : Option Obj}
theorem ne_body {b : Value} {Q : Fin → Shared → Prop} (X : K.In s.heap) (I : InstAt s.heap x ox C od) (hu : A.units < cLine) (hs : findIn K (.ref C) "__eq__" = some (some (.ref f))) (hf : isFn K (.ref f) = true)
    (h : wpAny (model prog w) A (call (.ref f) [.ref x, b]) (fun v s' => ∃ k, v = .bool k ∧ Q (.done (.ret (.bool (!k)))) s') E s) : wpAny (model prog w) A (Builtin.«object.__ne__» ⟨[.ref x, b], []⟩) Q E s := by
  unfold Builtin.«object.__ne__»
  repeat (first
    | with_reducible refine wpAny_cRoomFor hu ?_
    | (refine wpAny_bind (m := callSpecialIfBound? (.ref x) (Str.ofString "__eq__") [b]) (ifBound_K X I hs hf (wpAny_mono h (fun r s' hr => by
          obtain ⟨k, rfl, hq⟩ := hr
          repeat (first | exact hq | exact wpAny_pure hq | exact wpAny_truthy_bool hq | (refine wpAny_bind (m := truthy (.bool _)) (wpAny_truthy_bool ?_)) | wp_step)) fun _ _ e => e)))
    | wp_step)
theorem try_ne {b : Value} {Q : Option Value → Shared → Prop} (X : K.In s.heap) (I : InstAt s.heap x ox C od) (hu : A.units + 1 < cLine) (hn : findIn K (.ref C) "__ne__" = some (some (.builtin "object.__ne__"))) (hob : subIn K (.ref C) (.type "object") = some true)
    (hs : findIn K (.ref C) "__eq__" = some (some (.ref f))) (hf : isFn K (.ref f) = true)
    (h : wpAny (model prog w) A.in1 (call (.ref f) [.ref x, b]) (fun v s' => ∃ k, v = .bool k ∧ Q (some (.bool (!k))) s') E s) : wpAny (model prog w) A (tryCompare (.ref x) "__ne__" b) Q E s := by
  have LI : Looks (model prog w) s.heap (isInstance (.ref x) (.type "object")) true := I.type.andThen (looks_subIn X hob)
  simp only [tryCompare, callSpecialIfBound?, bindSpecialIfBound?]
  refine wpAny_bind (wpAny_holding (wpAny_bind (wpAny_bind (wpAny_bind (I.type.here ((looks_findIn X hn).here ?_))))))
  have run : wpAny (model prog w) A (call (.builtin "object.__ne__") [.ref x, b]) (fun v s' => ∃ k, v = .bool k ∧ Q (some (.bool k)) s') E s := by
    refine wpAny_call (codeAny_call_builtin F.cmp_object.ne.plain F.cmpEntry_ne (@PySem.W.check_slot (model prog w) _ _ s "object.__ne__" "object" "__ne__" (.ref x) [b] [] _ (by decide +kernel) (by decide +kernel) LI (F.cmpArgs_ne _ _) ?_))
    refine ne_body (A := A.in1) X I hu hs hf (wpAny_mono h (fun v s' hv => ?_) fun _ _ e => e)
    obtain ⟨k, rfl, q⟩ := hv
    exact ⟨k, rfl, _, rfl, q⟩
  have fin : wpAny (model prog w) A (call (.builtin "object.__ne__") ([.ref x] ++ [b]) >>= fun v => pure (some v)) (fun r s' => ∃ k, r = some (.bool k) ∧ Q (some (.bool k)) s') E s := wpAny_bind (wpAny_mono run (fun v s' ⟨k, e, q⟩ => wpAny_pure ⟨k, by rw [e], q⟩) fun _ _ e => e)
  have end_ : ∀ r s', (∃ k, r = some (.bool k) ∧ Q (some (.bool k)) s') → wpAny (model prog w) A (match r with
        | some Value.notImplemented => pure none
        | none => pure none
        | some v => pure (some v)) Q E s' := fun r s' ⟨k, e, q⟩ => by
    subst e
    exact wpAny_pure q
  refine wpAny_bind (wpAny_askSetting (wpAny_ite ?_))
  simp only [F.cmp_object.ne.bind]
  split
  · exact wpAny_bind (wpAny_pure (wpAny_pure (wpAny_mono fin (fun r s' z => end_ r s' z) fun _ _ e => e)))
  · exact wpAny_tryCatch (wpAny_bind (wpAny_pure (wpAny_pure (wpAny_mono fin (fun r s' z => end_ r s' z) fun _ _ e => e))))
/-- x != b by the own == -/
theorem ne_own {b tb : Value} {Q : Value → Shared → Prop} (hu : A.units + 1 < cLine) (X : K.In s.heap) (I : InstAt s.heap x ox C od) (hb : Looks (model prog w) s.heap (typeOf b) tb) (hnf : notFirst K C tb = true) (hn : findIn K (.ref C) "__ne__" = some (some (.builtin "object.__ne__"))) (hob : subIn K (.ref C) (.type "object") = some true)
    (hs : findIn K (.ref C) "__eq__" = some (some (.ref f))) (hf : isFn K (.ref f) = true)
    (h : wpAny (model prog w) A.in1 (call (.ref f) [.ref x, b]) (fun v s' => ∃ k, v = .bool k ∧ Q (.bool (!k)) s') E s) : wpAny (model prog w) A (richCompare .NotEq (.ref x) b) Q E s := by
  have both : ∀ q : Value → Shared → Prop, (∀ v s', (∃ k, v = .bool k ∧ Q (.bool k) s') → q v s') → wpAny (model prog w) A (tryCompare (.ref x) "__ne__" b) (fun r s' => ∃ v, r = some v ∧ q v s') E s := fun q hq =>
    try_ne X I hu hn hob hs hf (wpAny_mono h (fun v s' ⟨k, e, z⟩ => ⟨k, e, _, rfl, hq _ _ ⟨_, rfl, z⟩⟩) fun _ _ e => e)
  unfold richCompare
  simp only [oneThing_ref]
  refine wpAny_holding (wpAny_bind (wpAny_cRoomFor (Nat.lt_of_succ_lt hu) (wpAny_bind (I.type.here (wpAny_bind (hb.here ?_))))))
  rw [cmpInfo_NotEq]
  dsimp only
  have tail : ∀ r s', (∃ v, r = some v ∧ ∃ k, v = Value.bool k ∧ Q (.bool k) s') → ∀ t : Sem Value, wpAny (model prog w) A (match r with
      | some v => pure v
      | none => t) Q E s' := fun r s' ⟨v, e, k, e2, q⟩ t => by
    subst e; subst e2
    exact wpAny_pure q
  split
  · rename_i q
    have e : subIn K tb (.ref C) = some false := by
      rcases Bool.or_eq_true_iff.mp hnf with e | e
      · rw [beq_iff_eq.mp e] at q; simp at q
      · exact beq_iff_eq.mp e
    refine wpAny_bind ((looks_subIn X e).here ?_)
    simp only [Bool.false_eq_true, if_false]
    refine wpAny_bind (wpAny_mono (both _ fun _ _ z => z) (fun r s' z => ?_) fun _ _ e => e)
    obtain ⟨v, rfl, k, rfl, hq⟩ := z
    exact wpAny_pure hq
  · refine wpAny_bind (wpAny_pure ?_)
    simp only [Bool.false_eq_true, if_false]
    refine wpAny_bind (wpAny_mono (both _ fun _ _ z => z) (fun r s' z => ?_) fun _ _ e => e)
    obtain ⟨v, rfl, k, rfl, hq⟩ := z
    exact wpAny_pure hq
end
end OwB
namespace Dl
open PySem PySem.Spec PyProof.Rows L2
/-! ### own operators -/
structure OwnOp (K : PySem.W.Frag) (C : Addr) (op : Operator) (f : Addr) : Prop where
  hc : PySem.W.selfFirst K C = true
  hs : PySem.W.findIn K (.ref C) (PySem.dunder op.info.2) = some (some (.ref f))
  hf : PySem.W.isFn K (.ref f) = true
  hr : ∃ rc, PySem.W.findIn K (.ref C) (PySem.dunderR op.info.2) = some rc ∧ (rc = none ∨ ∃ g : Addr, rc = some (.ref g))
  h1 : ∃ fo, PySem.W.findIn K (.type "int") (PySem.dunder op.info.2) = some fo
  h2 : ∃ ro, PySem.W.findIn K (.type "int") (PySem.dunderR op.info.2) = some ro
  sub : PySem.W.subIn K (.type "int") (.ref C) = some false
def rOwnB (C : Addr) (sp : Sp) (E : XK) : R2 := fun x y H Q => ∃ a dx fs, x = .ref a ∧ H a = some (.ins C dx fs) ∧ ((∃ i, y = .int i) ∨ ∃ b dy gs, y = .ref b ∧ H b = some (.ins C dy gs)) ∧ sp [x, y] H Q E
structure OwnRev (K : PySem.W.Frag) (C : Addr) (op : Operator) (g : Addr) (id : String) (B : Builtin) : Prop where
  hc : PySem.W.selfFirst K C = true
  hs : ∃ f : Addr, PySem.W.findIn K (.ref C) (PySem.dunder op.info.2) = some (some (.ref f))
  hr : PySem.W.findIn K (.ref C) (PySem.dunderR op.info.2) = some (some (.ref g))
  hf : PySem.W.isFn K (.ref g) = true
  sub : PySem.W.subIn K (.ref C) (.type "int") = some false
def rOwnR (C : Addr) (sp : Sp) (E : XK) : R2 := fun x y H Q => ∃ i b dy gs, x = .int i ∧ y = .ref b ∧ H b = some (.ins C dy gs) ∧ sp [y, x] H Q E
def rOwnU (C : Addr) (sp : Sp) (E : XK) : V → Hp → VK → Prop := fun x H Q => ∃ a dx fs, x = .ref a ∧ H a = some (.ins C dx fs) ∧ sp [x] H Q E
section
variable {X : Cx} {k : Nat} {f C : Addr} {fd : FuncData} {ps : List Str} {sp : Sp} {E : XK}
theorem op_ownB {op : Operator} (w : OwnOp X.K C op f) (F : FnG X.prog X.w X.K X.mg X.base k f fd ps sp) (hqt : Quiet X.A) (hr : Room k X.A) (hb : Binds X.K fd ps []) (hn : ps.length = 2) : OpR X (binaryOp op) (rOwnB C sp E) := by
  intro pins s σ H x y v u Q I rx ry h
  obtain ⟨a, dx, fs, rfl, ha, hy, q⟩ := h
  cases (show v = Value.ref a from rx)
  obtain ⟨mA, O, _⟩ := ins_get I.hok ha
  obtain ⟨od, J, _⟩ := O.look
  obtain ⟨m, hF⟩ := I.fr
  have run : wpAny (model X.prog X.w) X.A (call (.ref f) [.ref a, u]) (PySem.W.CmpBack (EP X pins σ Q)) X.xe s := by
    refine wpAny_mono (run_fnG (us := [.ref a, u]) (ws := []) (vs := [.ref a, y]) (zs := []) F hqt hr (kbn_pos hb hn) I (.cons rfl (.cons ry .nil)) .nil rfl rfl q) (fun z s' hz => ?_) fun _ _ x => x
    obtain ⟨z', H', I', rz, qz⟩ := hz
    exact SlX.cmpback rz ⟨z', H', I', rz, qz⟩
  rcases hy with ⟨i, rfl⟩ | ⟨b, dy, gs, rfl, hb'⟩
  · obtain ⟨t, rfl⟩ := ry
    obtain ⟨rc, r1, r2⟩ := w.hr
    obtain ⟨fo, h1⟩ := w.h1
    obtain ⟨ro, h2⟩ := w.h2
    exact PySem.W.ksp_binT (T := "int") hF I.ok.mod.kin J rfl w.hc w.hs w.hf r1 r2 h1 h2 w.sub run
  · cases (show u = Value.ref b from ry)
    obtain ⟨mB, O', _⟩ := ins_get I.hok hb'
    obtain ⟨od', J', _⟩ := O'.look
    exact OwB.bin_same I.kIn J J' w.hc w.hs w.hf run
theorem op_ownR {op : Operator} {id : String} {B : Builtin} (w : OwnRev X.K C op f id B) (F : FnG X.prog X.w X.K X.mg X.base k f fd ps sp) (hqt : Quiet X.A) (hr : Room k X.A) (hb : Binds X.K fd ps []) (hn : ps.length = 2)
    (fills : fillsNumberSlot (.type "int") op.info.2 = pure true) (slot : Slot "int" (PySem.dunder op.info.2) id) (entry : entryFor table id = some B) (args : ∀ a b, argsOk id ⟨[a, b], []⟩)
    (dec : ∀ (b : Int) (t : Tok) (y dx : Addr), Meets (B ⟨[.int b t, .ref y], []⟩) (fun _ R s => s.heap.get? y = some (PySem.W.instObj C dx) ∧ R (.ok (.ret .notImplemented)) s)) : OpR X (binaryOp op) (rOwnR C sp E) := by
  intro pins s σ H x y v u Q I rx ry h
  obtain ⟨i, b, dy, gs, rfl, rfl, hy, q⟩ := h
  cases (show u = Value.ref b from ry)
  obtain ⟨t, rfl⟩ := rx
  obtain ⟨mA, O, _⟩ := ins_get I.hok hy
  obtain ⟨od, J, _⟩ := O.look
  obtain ⟨_, _, _, hobj, _⟩ := (show ObjOk X.prog X.w H s.heap b (.ins C dy gs) from I.hok b _ hy)
  obtain ⟨f', hs⟩ := w.hs
  refine OwB.bin_rev I.kIn J w.hc hs w.hr w.hf w.sub fills slot entry (args _ _) (dec i t b dy) hobj ?_
  refine wpAny_mono (run_fnG (us := [.ref b, .int i t]) (ws := []) (vs := [.ref b, .int i]) (zs := []) F hqt hr (kbn_pos hb hn) I (.cons rfl (.cons ⟨t, rfl⟩ .nil)) .nil rfl rfl q) (fun z s' hz => ?_) fun _ _ x => x
  obtain ⟨z', H', I', rz, qz⟩ := hz
  exact SlX.cmpback rz ⟨z', H', I', rz, qz⟩
theorem un_ownN (hs : PySem.W.findIn X.K (.ref C) "__neg__" = some (some (.ref f))) (hf : PySem.W.isFn X.K (.ref f) = true) (F : FnG X.prog X.w X.K X.mg X.base k f fd ps sp) (hqt : Quiet X.A) (hr : Room k X.A) (hb : Binds X.K fd ps []) (hn : ps.length = 1) : UnR X (unaryOp .USub) (rOwnU C sp E) := by
  intro pins s σ H x v Q I rx h
  obtain ⟨a, dx, fs, rfl, ha, q⟩ := h
  cases (show v = Value.ref a from rx)
  obtain ⟨mA, O, _⟩ := ins_get I.hok ha
  obtain ⟨od, J, _⟩ := O.look
  obtain ⟨m, hF⟩ := I.fr
  exact PySem.W.ksp_neg hF I.ok.mod.kin J hs hf (run_fnG (us := [.ref a]) (ws := []) (vs := [.ref a]) (zs := []) F hqt hr (kbn_pos hb hn) I (.cons rfl .nil) .nil rfl rfl q)
end
end Dl
namespace Dl
open PySem PySem.Spec PyProof.Rows L2
/-! ### the kinds of values -/
/-- an own class as isinstance and == see it -/
structure ClsT (K : PySem.W.Frag) (C : Addr) : Prop where
  cl : Cls K C
  ca : PySem.W.findIn K (.ref C) "__class__" = some (some (.builtin "object.__class__"))
  cn : PySem.W.specialIn K (.builtin "object.__class__") "__get__" = some (some (.builtin "getset_descriptor.__get__"))
  ct : PySem.W.takesIn K (.builtin "object.__class__") = some true
  cm : PySem.W.mroIn K C (.type "object") = some true
/-- the kinds that data have, as values of types -/
def kindOf (T : CT) : D → Option Value
  | .non => some (.type "NoneType") | .bl _ => some (.type "bool") | .int _ => some (.type "int") | .str _ => some (.type "str") | .lst _ => some (.type "list") | .tup _ => some (.type "tuple")
  | .obj c _ => (T c).map fun q => .ref q.1
  | .cls _ => none
  | .scr _ => none
/-- all the own classes of T are known -/
def ClsAll (K : PySem.W.Frag) (T : CT) : Prop := ∀ c q, T c = some q → ClsT K q.1
theorem tyx_of {K : PySem.W.Frag} {T : CT} {H : Hp} {S : Addr → Prop} {d : D} {v : V} (hA : ClsAll K T) (hd : isC d = false) (r : Rep T H S d v) : ∃ t, kindOf T d = some t ∧ TyX K H v t := by
  cases d with
  | non => rw [rep_non r]; exact ⟨_, rfl, .base .non⟩
  | bl b => rw [rep_bl r]; exact ⟨_, rfl, .base (.bl b)⟩
  | int i => rw [rep_int r]; exact ⟨_, rfl, .base (.int i)⟩
  | str s => rw [rep_str r]; exact ⟨_, rfl, .base (.str s)⟩
  | lst ds =>
    rw [Rep] at r
    obtain ⟨a, vs, rfl, ha, _⟩ := r
    exact ⟨_, rfl, .base (.lst ha)⟩
  | tup ds =>
    rw [Rep] at r
    obtain ⟨a, vs, rfl, ha, _⟩ := r
    exact ⟨_, rfl, .base (.tup ha)⟩
  | obj c ds =>
    rw [Rep] at r
    obtain ⟨a, dx, C, ns, vs, rfl, hT, ha, _⟩ := r
    have q := hA c _ hT
    exact ⟨.ref C, by show (T c).map _ = _; rw [hT]; rfl, .base (.ins ha q.cl q.ca q.cn q.ct q.cm)⟩
  | cls c => cases hd
  | scr c => cases hd
/-- what isinstance(x, u) is, by the kinds -/
def Isi (K : PySem.W.Frag) (T : CT) (u : Value) (p : D → Bool) : Prop := ∀ d t, kindOf T d = some t → PySem.W.kitOne K t u = some (p d)
def fIsi (p : D → Bool) (fe : FE) : FE := fun δ => (fe δ).bind fun (d, δ1) => if isC d = false then some (.bl (p d), δ1) else none
section
variable {X : Cx} {T : CT} {k n c : Nat} {f C : Addr} {fd : FuncData} {ps : List Str} {x m : Str} {p pos apos : Pos} {e o : Expr} {es : List Expr} {fa : FA} {fo fe : FE}
theorem pd_isi {te : Expr} {u : Value} {cv : V} {pr : D → Bool} (he : PE X e (tD T fe)) (hc : PE X te (tC cv)) (hcv : ClsV cv u) (hA : ClsAll X.K T) (hI : Isi X.K T u pr) (hm : X.mg "isinstance" = none) (hg : Gl X "isinstance" := by rfl)
    (h1 : starEach [e, te] X.env = (false, eval e X.env) :: starEach [te] X.env := by rfl) (h2 : starEach [te] X.env = (false, eval te X.env) :: starEach [] X.env := by rfl) (hpl : (backTo pos (starEach [te] X.env)).any (·.1) = false := by rfl) : PE X (.Call (.Name "isinstance" p) [e, te] [] pos) (tD T (fIsi pr fe)) :=
  PE.imp (pe_callB call_isi hg hm (by decide +kernel) (pa_cons he (pa_cons hc pa_nil h2) h1) (by decide) (by decide) h1 hpl) fun σ H Q ⟨S0, δ, d, δ', ok, e, q⟩ => by
    obtain ⟨d1, δ1, e1, e2⟩ := bind_some2 e
    obtain ⟨hd, e2⟩ := ite_some e2
    cases e2
    refine ⟨S0, δ, d1, δ', ok, e1, fun v H1 ok1 s1 r => ?_⟩
    obtain ⟨t, ht, ty⟩ := tyx_of hA hd r
    exact ⟨v, cv, t, u, pr d1, rfl, hcv, ty, hI d1 t ht, q _ H1 ok1 s1 (rep_lit rfl)⟩
theorem pd_isi2 {te1 te2 : Expr} {u1 u2 : Value} {c1 c2 : V} {p1 p2 : D → Bool} {kt : Nat} {pt : Pos} (he : PE X e (tD T fe)) (hc1 : PE X te1 (tC c1)) (hc2 : PE X te2 (tC c2)) (hv1 : ClsV c1 u1) (hv2 : ClsV c2 u2) (hA : ClsAll X.K T) (hI1 : Isi X.K T u1 p1) (hI2 : Isi X.K T u2 p2) (hm : X.mg "isinstance" = none) (hg : Gl X "isinstance" := by rfl)
    (h0 : starEach [te1, te2] X.env = (false, eval te1 X.env) :: starEach [te2] X.env := by rfl) (h00 : starEach [te2] X.env = (false, eval te2 X.env) :: starEach [] X.env := by rfl)
    (h1 : starEach [e, .Tuple [te1, te2] kt pt] X.env = (false, eval e X.env) :: starEach [.Tuple [te1, te2] kt pt] X.env := by rfl) (h2 : starEach [.Tuple [te1, te2] kt pt] X.env = (false, eval (.Tuple [te1, te2] kt pt) X.env) :: starEach [] X.env := by rfl)
    (hpl : (backTo pos (starEach [.Tuple [te1, te2] kt pt] X.env)).any (·.1) = false := by rfl) : PE X (.Call (.Name "isinstance" p) [e, .Tuple [te1, te2] kt pt] [] pos) (tD T (fIsi (fun d => p1 d || p2 d) fe)) :=
  PE.imp (pe_callB call_isiT hg hm (by decide +kernel) (pa_cons he (pa_cons (pe_tup (pa_cons hc1 (pa_cons hc2 pa_nil h00) h0)) pa_nil h2) h1) (by decide) (by decide) h1 hpl) fun σ H Q ⟨S0, δ, d, δ', ok, e, q⟩ => by
    obtain ⟨d1, δ1, e1, e2⟩ := bind_some2 e
    obtain ⟨hd, e2⟩ := ite_some e2
    cases e2
    refine ⟨S0, δ, d1, δ', ok, e1, fun v H1 ok1 s1 r => ⟨by show 2 ≤ sizeLine; decide, fun tp htp => ?_⟩⟩
    have sm : Same H1 (upd H1 tp (.tup [c1, c2])) := fun b o e => by rw [upd_ne (ne_of_none e htp)]; exact e
    have r' := r.same sm
    obtain ⟨t, ht, ty⟩ := tyx_of hA hd r'
    have k1 := hI1 d1 t ht
    have k2 := hI2 d1 t ht
    have kk : PySem.W.kitAny X.K t [u1, u2] = some (p1 d1 || p2 d1) := by
      cases hp : p1 d1 with
      | true => rw [hp] at k1; exact kitAny_cons k1 (fun z => by cases z) (fun _ => rfl)
      | false => rw [hp] at k1; exact kitAny_cons k1 (fun _ => by
          cases hp2 : p2 d1 with
          | true => rw [hp2] at k2; exact kitAny_cons k2 (fun z => by cases z) (fun _ => rfl)
          | false => rw [hp2] at k2; exact kitAny_cons k2 (fun _ => kitAny_nil) (fun z => by cases z)) (fun z => by cases z)
    exact ⟨v, tp, [c1, c2], t, [u1, u2], p1 d1 || p2 d1, rfl, upd_same, .cons hv1 (.cons hv2 .nil), ty, kk, q _ _ (ok1.same sm) (s1.trans (Step.same sm)) (rep_lit rfl)⟩

/-! ### calls of built-ins by values -/
/-- r, of the values, follows from F, of the data -/
def CallV (T : CT) (r : List V → Hp → VK → Prop) (F : List D → Option D) : Prop := ∀ (S : Addr → Prop) (ds : List D) (vs : List V) (H : Hp) (d : D) (Q : VK), (∀ b, S b → ∃ o, H b = some o) → Reps T H S ds vs → F ds = some d → (∀ v H', Same H H' → Rep T H' S d v → Q v H') → r vs H Q
def fFun (F : List D → Option D) (fa : FA) : FE := fun δ => (fa δ).bind fun (ds, δ1) => (F ds).map fun d => (d, δ1)
theorem fun_imp {r : List V → Hp → VK → Prop} {F : List D → Option D} (hv : CallV T r F) {σ : L2.St} {H : Hp} {Q : VK} (h : tD T (fFun F fa) σ H Q) : tCB r (tDs T fa) σ H Q := by
  obtain ⟨S0, δ, d, δ', ok, e, q⟩ := h
  obtain ⟨ds, δ1, e1, e2⟩ := bind_some2 e
  dsimp only at e2
  obtain ⟨d1, e3, e4⟩ := map_some1 e2
  cases e4
  exact ⟨S0, δ, ds, δ', ok, e1, fun vs H1 ok1 s1 r1 => hv _ ds vs H1 d Q (fun b z => ok1.trk z) r1 e3 fun v H' sm r => q v H' (ok1.same sm) (s1.trans (Step.same sm)) r⟩
theorem pd_blt {id : String} {r : List V → Hp → VK → Prop} {F : List D → Option D} (hc : CallR X (.builtin id) r) (hv : CallV T r F) (hm : X.mg x = none) (hb : bootBuiltins x = some (.builtin id)) (ha : PA X (e :: es) (tDs T fa)) (hg : Gl X x := by rfl) (hn : x ≠ "__name__" := by decide) (hdb : (x == ("__debug__" : Str)) = false := by decide)
    (he : starEach (e :: es) X.env = (false, eval e X.env) :: starEach es X.env := by rfl) (hpl : (backTo pos (starEach es X.env)).any (·.1) = false := by rfl) : PE X (.Call (.Name x p) (e :: es) [] pos) (tD T (fFun F fa)) :=
  PE.imp (pe_callB hc hg hm hb ha hn hdb he hpl) fun _ _ _ h => fun_imp hv h
theorem pd_bty {id : String} {r : List V → Hp → VK → Prop} {F : List D → Option D} (hc : CallR X (.type id) r) (hv : CallV T r F) (hm : X.mg x = none) (hb : bootBuiltins x = some (.type id)) (ha : PA X (e :: es) (tDs T fa)) (hg : Gl X x := by rfl) (hn : x ≠ "__name__" := by decide) (hdb : (x == ("__debug__" : Str)) = false := by decide)
    (he : starEach (e :: es) X.env = (false, eval e X.env) :: starEach es X.env := by rfl) (hpl : (backTo pos (starEach es X.env)).any (·.1) = false := by rfl) : PE X (.Call (.Name x p) (e :: es) [] pos) (tD T (fFun F fa)) :=
  PE.imp (pe_callTy hc hg hm hb ha hn hdb he hpl) fun _ _ _ h => fun_imp hv h
theorem pd_bfun {id : String} {r : List V → Hp → VK → Prop} {F : List D → Option D} (hc : CallR X (.builtin id) r) (hv : CallV T r F) (hm : X.mg x = some (.builtin id)) (ha : PA X (e :: es) (tDs T fa)) (hg : Gl X x := by rfl) (hdb : (x == ("__debug__" : Str)) = false := by decide)
    (he : starEach (e :: es) X.env = (false, eval e X.env) :: starEach es X.env := by rfl) (hpl : (backTo pos (starEach es X.env)).any (·.1) = false := by rfl) : PE X (.Call (.Name x p) (e :: es) [] pos) (tD T (fFun F fa)) :=
  PE.imp (pe_callBfun hc hg hm ha hdb he hpl) fun _ _ _ h => fun_imp hv h
/-- one, two literal values in, one out -/
def fun1I (k : Int → D) : List D → Option D
  | [.int i] => some (k i)
  | _ => none
theorem reps_int1 {H : Hp} {S : Addr → Prop} {i : Int} {vs : List V} (h : Reps T H S [.int i] vs) : vs = [.int i] := by
  rw [Reps] at h
  obtain ⟨v, r, rfl, h1, h2⟩ := h
  rw [Reps] at h2; subst h2
  rw [rep_int h1]
theorem reps_int2 {H : Hp} {S : Addr → Prop} {i j : Int} {vs : List V} (h : Reps T H S [.int i, .int j] vs) : vs = [.int i, .int j] := by
  rw [Reps] at h
  obtain ⟨v, r, rfl, h1, h2⟩ := h
  rw [reps_int1 h2, rep_int h1]
theorem callv_abs : CallV T (fun xs H Q => ∃ i, xs = [.int i] ∧ Q (.int (if i < 0 then -i else i)) H) (fun1I fun i => .int (if i < 0 then -i else i)) := by
  intro S ds vs H d Q tr r e q
  unfold fun1I at e
  split at e <;> cases e
  exact ⟨_, reps_int1 r, q _ H (Same.refl _) (rep_lit rfl)⟩
def funGcd : List D → Option D
  | [.int i, .int j] => some (.int ((Nat.gcd i.natAbs j.natAbs : Nat) : Int))
  | _ => none
theorem callv_gcd : CallV T rGcd funGcd := by
  intro S ds vs H d Q tr r e q
  unfold funGcd at e
  split at e <;> cases e
  exact ⟨_, _, reps_int2 r, q _ H (Same.refl _) (rep_lit rfl)⟩
def funMax2 : List D → Option D
  | [.int i, .int j] => some (.int (if j > i then j else i))
  | _ => none
theorem callv_max2 : CallV T (fun xs H Q => ∃ i j, xs = [.int i, .int j] ∧ Q (.int (if j > i then j else i)) H) funMax2 := by
  intro S ds vs H d Q tr r e q
  unfold funMax2 at e
  split at e <;> cases e
  exact ⟨_, _, reps_int2 r, q _ H (Same.refl _) (rep_lit rfl)⟩
def funInt : List D → Option D
  | [.int i] => some (.int i)
  | [.bl b] => some (.int (if b then 1 else 0))
  | _ => none
theorem callv_int : CallV T (fun xs H Q => (∃ i, xs = [.int i] ∧ Q (.int i) H) ∨ ∃ k, xs = [.bl k] ∧ Q (.int (if k then 1 else 0)) H) funInt := by
  intro S ds vs H d Q tr r e q
  unfold funInt at e
  split at e
  · cases e
    exact .inl ⟨_, reps_int1 r, q _ H (Same.refl _) (rep_lit rfl)⟩
  · cases e
    rw [Reps] at r
    obtain ⟨v, r', rfl, h1, h2⟩ := r
    rw [Reps] at h2; subst h2
    exact .inr ⟨_, by rw [rep_bl h1], q _ H (Same.refl _) (rep_lit rfl)⟩
  · cases e
/-- str(n) -/
def okNum (i : Int) : Bool := decide (i.natAbs.log2 < 1920)
def funStrI : List D → Option D
  | [.int i] => if okNum i = true then some (.str (toString i)) else none
  | _ => none
theorem callv_strI : CallV T (fun xs H Q => ∃ i, xs = [.int i] ∧ i.natAbs.log2 < 1920 ∧ Q (.str (toString i)) H) funStrI := by
  intro S ds vs H d Q tr r e q
  unfold funStrI at e
  split at e
  · obtain ⟨h, e⟩ := ite_some e
    subst e
    exact ⟨_, reps_int1 r, of_decide_eq_true h, q _ H (Same.refl _) (rep_lit rfl)⟩
  · cases e

/-! ### numbers of any size -/
/-- sizes within which numbers are multiplied and divided -/
def okMul (i j : Int) : Bool := decide (i.natAbs < 2 ^ 4000) && decide (j.natAbs < 2 ^ 4000)
def okDiv (i j : Int) : Bool := decide (0 < j) && decide (j.natAbs < 2 ^ 4000)
def okPos (_ j : Int) : Bool := decide (0 < j)
theorem opv_mulW : OpV T (rI CMulW fun i j => .int (i * j)) (gI okMul fun i j => .int (i * j)) := opv_I (fun i j h => by
  unfold okMul at h
  rw [Bool.and_eq_true] at h
  exact wide_mul (of_decide_eq_true h.1) (of_decide_eq_true h.2) (by decide) (by decide) (by decide)) fun _ _ => rfl
theorem opv_divW : OpV T (rI CDivW fun i j => .int (i / j)) (gI okDiv fun i j => .int (i / j)) := opv_I (fun i j h => by
  unfold okDiv at h
  rw [Bool.and_eq_true] at h
  exact wide_div (of_decide_eq_true h.1) (of_decide_eq_true h.2) (by decide) (by decide)) fun _ _ => rfl
theorem opv_mod : OpV T (rI (fun _ j => 0 < j) fun i j => .int (i % j)) (gI okPos fun i j => .int (i % j)) := opv_I (fun i j h => of_decide_eq_true h) fun _ _ => rfl
def okPow (i j : Int) : Bool := decide (0 ≤ j) && decide (j ≤ 1000) && decide (i.natAbs < 2 ^ 64)
theorem opv_pow : OpV T (rI CPow fun i j => .int (i ^ j.toNat)) (gI okPow fun i j => .int (i ^ j.toNat)) := opv_I (fun i j h => by
  unfold okPow at h
  rw [Bool.and_eq_true, Bool.and_eq_true] at h
  exact ⟨of_decide_eq_true h.1.1, Int.le_trans (of_decide_eq_true h.1.2) (by decide), of_decide_eq_true h.2⟩) fun _ _ => rfl
theorem opv_add : OpV T (rI0 fun i j => .int (i + j)) (gI0 fun i j => .int (i + j)) := opv_I0 fun _ _ => rfl
theorem opv_sub : OpV T (rI0 fun i j => .int (i - j)) (gI0 fun i j => .int (i - j)) := opv_I0 fun _ _ => rfl
theorem opv_lt : OpV T (rI0 fun i j => .bl (decide (i < j))) (gI0 fun i j => .bl (decide (i < j))) := opv_I0 fun _ _ => rfl
theorem opv_le : OpV T (rI0 fun i j => .bl (decide (i ≤ j))) (gI0 fun i j => .bl (decide (i ≤ j))) := opv_I0 fun _ _ => rfl
theorem opv_gt : OpV T (rI0 fun i j => .bl (decide (j < i))) (gI0 fun i j => .bl (decide (j < i))) := opv_I0 fun _ _ => rfl
theorem opv_ge : OpV T (rI0 fun i j => .bl (decide (j ≤ i))) (gI0 fun i j => .bl (decide (j ≤ i))) := opv_I0 fun _ _ => rfl
/-- one operand -/
def UnV (T : CT) (r : V → Hp → VK → Prop) (g : D → Option D) : Prop := ∀ (S : Addr → Prop) (x : D) (v : V) (H : Hp) (d : D) (Q : VK), (∀ b, S b → ∃ o, H b = some o) → Rep T H S x v → g x = some d → (∀ v H', Same H H' → Rep T H' S d v → Q v H') → r v H Q
def fUn (g : D → Option D) (fa : FE) : FE := fun δ => (fa δ).bind fun (x, δ1) => (g x).map fun d => (d, δ1)
theorem pd_un {op : UnaryOp} {r : V → Hp → VK → Prop} {g : D → Option D} (ho : UnR X (unaryOp op) r) (hv : UnV T r g) (ha : PE X e (tD T fe)) : PE X (.UnaryOp op e pos) (tD T (fUn g fe)) := PE.imp (pe_un ho ha) fun σ H Q ⟨S0, δ, d, δ', ok, e, q⟩ => by
  obtain ⟨x, δ1, e1, e2⟩ := bind_some2 e
  dsimp only at e2
  obtain ⟨d1, e3, e4⟩ := map_some1 e2
  cases e4
  exact ⟨S0, δ, x, δ', ok, e1, fun v H1 ok1 s1 r1 => hv _ x v H1 d Q (fun b z => ok1.trk z) r1 e3 fun v H' sm r => q v H' (ok1.same sm) (s1.trans (Step.same sm)) r⟩
def gNeg : D → Option D
  | .int i => some (.int (-i))
  | _ => none
theorem unv_neg : UnV T (rU fun i => .int (-i)) gNeg := by
  intro S x v H d Q tr r e q
  cases x <;> cases e
  rw [rep_int r]
  exact ⟨_, rfl, q _ H (Same.refl _) (rep_lit rfl)⟩
/-- own -x -/
def gOwn1 (c : Nat) (F : List D → Option D) : D → Option D
  | .obj c' ds => if c' = c then F [.obj c' ds] else none
  | _ => none
theorem unv_own {ns : List Str} {F : List D → Option D} {E : XK} (hT : T c = some (C, ns)) : UnV T (rOwnU C (sp0 T 1 F) E) (gOwn1 c F) := by
  intro S x v H d Q tr r e q
  cases x <;> first | cases e | skip
  rename_i c' ds
  unfold gOwn1 at e
  dsimp only at e
  by_cases hc : c' = c
  · subst hc
    rw [if_pos rfl] at e
    have r' := r
    rw [Rep] at r
    obtain ⟨a, dx, C', ns', vs, rfl, hT', ha, _⟩ := r
    rw [hT] at hT'; cases hT'
    exact ⟨a, dx, _, rfl, ha, S, [.obj c' ds], d, tr, rfl, Reps.cons r' Reps.nil, e, q⟩
  · rw [if_neg hc] at e; cases e
/-- own a + b, b one of the class or an int -/
def gOwn2 (c : Nat) (F : List D → Option D) : D → D → Option D
  | .obj c' ds, .int i => if c' = c then F [.obj c' ds, .int i] else none
  | .obj c' ds, .obj c'' es => if c' = c ∧ c'' = c then F [.obj c' ds, .obj c'' es] else none
  | _, _ => none
theorem opv_own2 {ns : List Str} {F : List D → Option D} {E : XK} (hT : T c = some (C, ns)) : OpV T (rOwnB C (sp0 T 2 F) E) (gOwn2 c F) := by
  intro S x y vx vy H d Q tr rx ry e q
  unfold gOwn2 at e
  split at e
  · rename_i c' ds i
    by_cases hc : c' = c
    · subst hc
      rw [if_pos rfl] at e
      have rx' := rx
      rw [Rep] at rx
      obtain ⟨a, dx, C', ns', vs, rfl, hT', ha, _⟩ := rx
      rw [hT] at hT'; cases hT'
      exact ⟨a, dx, _, rfl, ha, .inl ⟨i, rep_int ry⟩, S, _, d, tr, rfl, Reps.cons rx' (Reps.cons ry Reps.nil), e, q⟩
    · rw [if_neg hc] at e; cases e
  · rename_i c' ds c'' es
    by_cases hc : c' = c ∧ c'' = c
    · obtain ⟨h1, h2⟩ := hc
      subst h1
      rw [if_pos ⟨rfl, h2⟩] at e
      subst h2
      have rx' := rx
      have ry' := ry
      rw [Rep] at rx ry
      obtain ⟨a, dx, C', ns', vs, rfl, hT', ha, _⟩ := rx
      obtain ⟨b, dy, C'', ns'', ws, rfl, hT'', hb, _⟩ := ry
      rw [hT] at hT' hT''; cases hT'; cases hT''
      exact ⟨a, dx, _, rfl, ha, .inr ⟨b, dy, _, rfl, hb⟩, S, _, d, tr, rfl, Reps.cons rx' (Reps.cons ry' Reps.nil), e, q⟩
    · rw [if_neg hc] at e; cases e
  · cases e
/-- an int on the left -/
def gOwnR (c : Nat) (F : List D → Option D) : D → D → Option D
  | .int i, .obj c' es => if c' = c then F [.obj c' es, .int i] else none
  | _, _ => none
theorem opv_ownR {ns : List Str} {F : List D → Option D} {E : XK} (hT : T c = some (C, ns)) : OpV T (rOwnR C (sp0 T 2 F) E) (gOwnR c F) := by
  intro S x y vx vy H d Q tr rx ry e q
  unfold gOwnR at e
  split at e
  · rename_i i c' es
    by_cases hc : c' = c
    · subst hc
      rw [if_pos rfl] at e
      have ry' := ry
      rw [Rep] at ry
      obtain ⟨b, dy, C', ns', ws, rfl, hT', hb, _⟩ := ry
      rw [hT] at hT'; cases hT'
      exact ⟨i, b, dy, _, rep_int rx, rfl, hb, S, _, d, tr, rfl, Reps.cons ry' (Reps.cons rx Reps.nil), e, q⟩
    · rw [if_neg hc] at e; cases e
  · cases e
end
end Dl
namespace Dl
open PySem PySem.Spec PyProof.Rows L2
section
variable {X : Cx} {T : CT} {k n c : Nat} {f C : Addr} {fd : FuncData} {ps : List Str} {sp : Sp} {E : XK}
/-- a call somewhat below the body -/
theorem run_lowG {A : Around} {pins : List (Addr × Obj)} {σ : L2.St} {H : Hp} {s : Shared} {Q : VK} {us : List Value} {vs : List V} (F : FnG X.prog X.w X.K X.mg X.base k f fd ps sp) (hq : Quiet A) (hr : Room k A) (e0 : Env0 X.prog X.w X.K X.mg X.base A X.stack s H) (hb : Binds X.K fd ps []) (hn : ps.length = us.length)
    (I : Inv X pins σ H s) (r : Vals vs us) (h : sp vs H Q E) : wpAny (model X.prog X.w) A (call (.ref f) us) (EP X pins σ Q) X.xe s := by
  apply wpAny_call
  have hbt := hb s us I.kIn (by rw [List.append_nil, hn])
  rw [List.append_nil] at hbt
  refine codeAny_mono (F.run A X.stack s H ⟨us, []⟩ us vs Q E hq hr e0 hbt r h) fun z s' hz => ?_
  have e := endG I z s' hz
  match z, e with
  | .ok (.ret _), e => exact e
  | .error _, e => exact e

/-! ### == and != -/
def gEqF : D → D → Option D := fun x y => match litV x, litV y with
  | some a, some b => if scal a b = true then some (.bl (decide (a = b))) else none
  | _, _ => none
def gNeF : D → D → Option D := fun x y => match litV x, litV y with
  | some a, some b => if scal a b = true then some (.bl (!decide (a = b))) else none
  | _, _ => none
theorem lit_rep {H : Hp} {S : Addr → Prop} {d : D} {v w : V} (r : Rep T H S d v) (h : litV d = some w) : v = w := by
  cases d <;> simp [litV] at h <;> subst h
  · exact rep_non r
  · exact rep_bl r
  · exact rep_int r
  · exact rep_str r
theorem opv_eqF : OpV T rEq gEqF := by
  intro S x y vx vy H d Q tr rx ry e q
  unfold gEqF at e
  split at e
  · rename_i a b ha hb
    obtain ⟨hs, e⟩ := ite_some e
    subst e
    rw [lit_rep rx ha, lit_rep ry hb]
    exact ⟨hs, q _ H (Same.refl _) (rep_lit rfl)⟩
  · cases e
theorem opv_neF : OpV T rNe gNeF := by
  intro S x y vx vy H d Q tr rx ry e q
  unfold gNeF at e
  split at e
  · rename_i a b ha hb
    obtain ⟨hs, e⟩ := ite_some e
    subst e
    rw [lit_rep rx ha, lit_rep ry hb]
    exact ⟨hs, q _ H (Same.refl _) (rep_lit rfl)⟩
  · cases e
/-- a value's kind -/
def Kd (T : CT) (H : Hp) (y : V) (t : Value) : Prop := ∃ d S, Rep T H S d y ∧ kindOf T d = some t
theorem looks_kind {pins : List (Addr × Obj)} {σ : L2.St} {H : Hp} {s : Shared} {y : V} {u t : Value} (I : Inv X pins σ H s) (r : RelV y u) (h : Kd T H y t) : PySem.W.Looks (model X.prog X.w) s.heap (typeOf u) t := by
  obtain ⟨d, S, rd, ht⟩ := h
  have byObj : ∀ (a : Addr) (o : Obj), s.heap.get? a = some o → o.cls = t → PySem.W.Looks (model X.prog X.w) s.heap (typeOf (.ref a)) t := fun a o ho hc A Q E s1 kk q => by
    have h1 := kk _ _ ho
    refine wpAny_typeOf_ref (o := o) h1 ?_
    rw [hc]
    exact q
  cases d with
  | non => cases ht; rw [rep_non rd] at r; cases r; exact PySem.W.Looks.of_pure rfl
  | bl b => cases ht; rw [rep_bl rd] at r; cases r; exact PySem.W.Looks.of_pure rfl
  | int i => cases ht; rw [rep_int rd] at r; obtain ⟨tk, rfl⟩ := r; exact PySem.W.Looks.of_pure rfl
  | str x => cases ht; rw [rep_str rd] at r; obtain ⟨tk, rfl⟩ := r; exact PySem.W.Looks.of_pure rfl
  | lst ds =>
    cases ht
    rw [Rep] at rd
    obtain ⟨a, vs, rfl, ha, _⟩ := rd
    cases r
    obtain ⟨_, its, m, _, ho⟩ := (show ObjOk X.prog X.w H s.heap a (.lst vs) from I.hok a _ ha)
    exact byObj a _ ho rfl
  | tup ds =>
    cases ht
    rw [Rep] at rd
    obtain ⟨a, vs, rfl, ha, _⟩ := rd
    cases r
    obtain ⟨_, its, _, o, ho, hc, _⟩ := (show ObjOk X.prog X.w H s.heap a (.tup vs) from I.hok a _ ha)
    exact byObj a _ ho hc
  | obj c ds =>
    rw [Rep] at rd
    obtain ⟨a, dx, C', ns, vs, rfl, hT, ha, _⟩ := rd
    have e : t = .ref C' := by
      have h2 : (T c).map (fun q => Value.ref q.1) = some t := ht
      rw [hT] at h2
      exact (Option.some.inj h2).symm
    subst e
    cases r
    obtain ⟨mA, O, _⟩ := ins_get I.hok ha
    obtain ⟨od, J, _⟩ := O.look
    exact J.type
  | cls c => cases ht
  | scr c => cases ht
def rOwnE (K : PySem.W.Frag) (T : CT) (C : Addr) (sp : Sp) (E : XK) : R2 := fun x y H Q => ∃ a dx fs t, x = .ref a ∧ H a = some (.ins C dx fs) ∧ Kd T H y t ∧ PySem.W.notFirst K C t = true ∧ sp [x, y] H Q E
theorem op_ownE (hs : PySem.W.findIn X.K (.ref C) "__eq__" = some (some (.ref f))) (hf : PySem.W.isFn X.K (.ref f) = true) (F : FnG X.prog X.w X.K X.mg X.base k f fd ps sp) (hqt : Quiet X.A) (hr : Room k X.A) (hb : Binds X.K fd ps []) (hps : ps.length = 2) : OpR X (compareOp .Eq) (rOwnE X.K T C sp E) := by
  intro pins s σ H x y v u Q I rx ry h
  obtain ⟨a, dx, fs, t, rfl, ha, hy, hn, q⟩ := h
  cases (show v = Value.ref a from rx)
  obtain ⟨mA, O, _⟩ := ins_get I.hok ha
  obtain ⟨od, J, _⟩ := O.look
  obtain ⟨m, hF⟩ := I.fr
  show wpAny (model X.prog X.w) X.A (richCompare .Eq (.ref a) u) (EP X pins σ Q) X.xe s
  refine PySem.W.cmp_K (op := .Eq) (tb := t) hr.units0 hF I.ok.mod.kin J (looks_kind I ry hy) hn hs hf ?_
  refine wpAny_mono (run_lowG (us := [.ref a, u]) (vs := [.ref a, y]) F hqt hr I.env0 hb hps I (.cons rfl (.cons ry .nil)) q) (fun z s' hz => ?_) fun _ _ x => x
  obtain ⟨z', H', I', rz, qz⟩ := hz
  exact SlX.cmpback rz ⟨z', H', I', rz, qz⟩
def rOwnNe (K : PySem.W.Frag) (T : CT) (C : Addr) (sp : Sp) (E : XK) : R2 := fun x y H Q => ∃ a dx fs t, x = .ref a ∧ H a = some (.ins C dx fs) ∧ Kd T H y t ∧ PySem.W.notFirst K C t = true ∧ sp [x, y] H (fun v H' => ∃ b, v = .bl b ∧ Q (.bl (!b)) H') E
theorem op_ownNe (hs : PySem.W.findIn X.K (.ref C) "__eq__" = some (some (.ref f))) (hf : PySem.W.isFn X.K (.ref f) = true) (hne : PySem.W.findIn X.K (.ref C) "__ne__" = some (some (.builtin "object.__ne__"))) (hob : PySem.W.subIn X.K (.ref C) (.type "object") = some true)
    (F : FnG X.prog X.w X.K X.mg X.base k f fd ps sp) (hqt : Quiet X.A) (hr : Room (k + 1) X.A) (hb : Binds X.K fd ps []) (hps : ps.length = 2) : OpR X (compareOp .NotEq) (rOwnNe X.K T C sp E) := by
  intro pins s σ H x y v u Q I rx ry h
  obtain ⟨a, dx, fs, t, rfl, ha, hy, hn, q⟩ := h
  cases (show v = Value.ref a from rx)
  obtain ⟨mA, O, _⟩ := ins_get I.hok ha
  obtain ⟨od, J, _⟩ := O.look
  show wpAny (model X.prog X.w) X.A (richCompare .NotEq (.ref a) u) (EP X pins σ Q) X.xe s
  refine OwB.ne_own (by have := hr.units; omega) I.kIn J (looks_kind I ry hy) hn hne hob hs hf ?_
  refine wpAny_mono (run_lowG (A := X.A.in1) (us := [.ref a, u]) (vs := [.ref a, y]) F hqt hr.in1 I.env0.in1 hb hps I (.cons rfl (.cons ry .nil)) q) (fun z s' hz => ?_) fun _ _ x => x
  obtain ⟨z', H', I', rz, b, e, qz⟩ := hz
  subst e
  cases rz
  exact ⟨b, rfl, .bl (!b), H', I', rfl, qz⟩
/-- x == y, x an object of class c -/
def gOwnE (c : Nat) (F : List D → Option D) : D → D → Option D
  | .obj c' ds, y => if c' = c ∧ isC y = false then F [.obj c' ds, y] else none
  | _, _ => none
def gOwnNe (c : Nat) (F : List D → Option D) : D → D → Option D
  | .obj c' ds, y => if c' = c ∧ isC y = false then (match F [.obj c' ds, y] with
    | some (.bl b) => some (.bl (!b))
    | _ => none) else none
  | _, _ => none
/-- no kind is a class below C -/
def Top (K : PySem.W.Frag) (T : CT) (C : Addr) : Prop := ∀ d t, kindOf T d = some t → PySem.W.notFirst K C t = true
theorem kind_some {H : Hp} {S : Addr → Prop} {d : D} {v : V} (hd : isC d = false) (r : Rep T H S d v) : ∃ t, kindOf T d = some t := by
  cases d <;> first | exact ⟨_, rfl⟩ | cases hd | skip
  rw [Rep] at r
  obtain ⟨a, dx, C', ns, vs, rfl, hT, _⟩ := r
  exact ⟨.ref C', by show (T _).map _ = _; rw [hT]; rfl⟩
theorem opv_ownE {ns : List Str} {F : List D → Option D} (hT : T c = some (C, ns)) (hN : Top X.K T C) : OpV T (rOwnE X.K T C (sp0 T 2 F) E) (gOwnE c F) := by
  intro S x y vx vy H d Q tr rx ry e q
  unfold gOwnE at e
  split at e
  · rename_i c' ds
    by_cases hc : c' = c ∧ isC y = false
    · obtain ⟨rfl, hy⟩ := hc
      rw [if_pos ⟨rfl, hy⟩] at e
      have rx' := rx
      rw [Rep] at rx
      obtain ⟨a, dx, C', ns', vs, rfl, hT', ha, _⟩ := rx
      rw [hT] at hT'; cases hT'
      obtain ⟨t, ht⟩ := kind_some hy ry
      exact ⟨a, dx, _, t, rfl, ha, ⟨y, S, ry, ht⟩, hN y t ht, S, _, d, tr, rfl, Reps.cons rx' (Reps.cons ry Reps.nil), e, q⟩
    · rw [if_neg hc] at e; cases e
  · cases e
theorem opv_ownNe {ns : List Str} {F : List D → Option D} (hT : T c = some (C, ns)) (hN : Top X.K T C) : OpV T (rOwnNe X.K T C (sp0 T 2 F) E) (gOwnNe c F) := by
  intro S x y vx vy H d Q tr rx ry e q
  unfold gOwnNe at e
  split at e
  · rename_i c' ds
    by_cases hc : c' = c ∧ isC y = false
    · obtain ⟨rfl, hy⟩ := hc
      rw [if_pos ⟨rfl, hy⟩] at e
      have rx' := rx
      rw [Rep] at rx
      obtain ⟨a, dx, C', ns', vs, rfl, hT', ha, _⟩ := rx
      rw [hT] at hT'; cases hT'
      obtain ⟨t, ht⟩ := kind_some hy ry
      split at e
      · rename_i b hb
        cases e
        exact ⟨a, dx, _, t, rfl, ha, ⟨y, S, ry, ht⟩, hN y t ht, S, _, _, tr, rfl, Reps.cons rx' (Reps.cons ry Reps.nil), hb, fun v H' sm r => ⟨b, rep_bl r, q _ H' sm (rep_lit rfl)⟩⟩
      · cases e
    · rw [if_neg hc] at e; cases e
  · cases e
/-- is, is not of truths -/
def gIsB : D → D → Option D
  | .bl a, .bl b => some (.bl (decide (a = b)))
  | _, _ => none
def gIsNotB : D → D → Option D
  | .bl a, .bl b => some (.bl (!decide (a = b)))
  | _, _ => none
theorem opv_isB : OpV T (fun x y H Q => ∃ a b, x = .bl a ∧ y = .bl b ∧ Q (.bl (decide (a = b))) H) gIsB := by
  intro S x y vx vy H d Q tr rx ry e q
  unfold gIsB at e
  split at e <;> cases e
  exact ⟨_, _, rep_bl rx, rep_bl ry, q _ H (Same.refl _) (rep_lit rfl)⟩
theorem opv_isNotB : OpV T (fun x y H Q => ∃ a b, x = .bl a ∧ y = .bl b ∧ Q (.bl (!decide (a = b))) H) gIsNotB := by
  intro S x y vx vy H d Q tr rx ry e q
  unfold gIsNotB at e
  split at e <;> cases e
  exact ⟨_, _, rep_bl rx, rep_bl ry, q _ H (Same.refl _) (rep_lit rfl)⟩

/-! ### texts of objects and of data -/
def rTxt (C : Addr) (sp : Sp) (E : XK) : List V → Hp → VK → Prop := fun vs H Q => ∃ a dx fs, vs = [.ref a] ∧ H a = some (.ins C dx fs) ∧ sp [.ref a] H (fun v H' => ∃ y, v = .str y ∧ Q v H') E
theorem strback {P : Value → Shared → Prop} {y : Str} {v : Value} {s : Shared} (r : RelV (.str y) v) (h : P v s) : PySem.W.StrBack P v s := by
  obtain ⟨t, rfl⟩ := r
  exact h
theorem call_strOwn (hs : PySem.W.findIn X.K (.ref C) "__str__" = some (some (.ref f))) (hf : PySem.W.isFn X.K (.ref f) = true) (F : FnG X.prog X.w X.K X.mg X.base k f fd ps sp) (hqt : Quiet X.A) (hr : Room (k + 2) X.A) (hb : Binds X.K fd ps []) (hps : ps.length = 1) : CallR X (.type "str") (rTxt C sp E) := by
  intro pins s σ H xs us Q I r h
  obtain ⟨a, dx, fs, rfl, ha, q⟩ := h
  obtain ⟨u, rfl, ru⟩ := r.one
  cases (show u = Value.ref a from ru)
  obtain ⟨mA, O, _⟩ := ins_get I.hok ha
  obtain ⟨od, J, _⟩ := O.look
  have hr1 : Room (k + 1) X.A.in1 := hr.in1
  refine PySem.W.kso_call hr1.in1.units0 I.kIn J hs hf ?_
  refine wpAny_mono (run_lowG (A := X.A.in1.in1) (us := [.ref a]) (vs := [.ref a]) F hqt hr1.in1 I.env0.in1.in1 hb hps I (.cons rfl .nil) q) (fun z s' hz => ?_) fun _ _ x => x
  obtain ⟨z', H', I', rz, y, e, qz⟩ := hz
  subst e
  exact strback rz ⟨_, H', I', rz, qz⟩
theorem call_reprOwn (hs : PySem.W.findIn X.K (.ref C) "__repr__" = some (some (.ref f))) (hf : PySem.W.isFn X.K (.ref f) = true) (F : FnG X.prog X.w X.K X.mg X.base k f fd ps sp) (hqt : Quiet X.A) (hr : Room (k + 1) X.A) (hb : Binds X.K fd ps []) (hps : ps.length = 1) : CallR X (.builtin "repr") (rTxt C sp E) := by
  intro pins s σ H xs us Q I r h
  obtain ⟨a, dx, fs, rfl, ha, q⟩ := h
  obtain ⟨u, rfl, ru⟩ := r.one
  cases (show u = Value.ref a from ru)
  obtain ⟨mA, O, _⟩ := ins_get I.hok ha
  obtain ⟨od, J, _⟩ := O.look
  obtain ⟨m, hF⟩ := I.fr
  refine PySem.W.repr_K hr.in1.units0 hF I.ok.mod.kin J hs hf ?_
  refine wpAny_mono (run_lowG (A := X.A.in1) (us := [.ref a]) (vs := [.ref a]) F hqt hr.in1 I.env0.in1 hb hps I (.cons rfl .nil) q) (fun z s' hz => ?_) fun _ _ x => x
  obtain ⟨z', H', I', rz, y, e, qz⟩ := hz
  subst e
  exact strback rz ⟨_, H', I', rz, qz⟩
def funTxt (c : Nat) (F : List D → Option D) : List D → Option D
  | [.obj c' ds] => if c' = c then (match F [.obj c' ds] with
    | some (.str y) => some (.str y)
    | _ => none) else none
  | _ => none
theorem callv_txt {ns : List Str} {F : List D → Option D} (hT : T c = some (C, ns)) : CallV T (rTxt C (sp0 T 1 F) E) (funTxt c F) := by
  intro S ds vs H d Q tr r e q
  unfold funTxt at e
  split at e
  · rename_i c' es
    by_cases hc : c' = c
    · subst hc
      rw [if_pos rfl] at e
      have r' := r
      rw [Reps] at r
      obtain ⟨v, r2, rfl, h1, h2⟩ := r
      rw [Reps] at h2; subst h2
      rw [Rep] at h1
      obtain ⟨a, dx, C', ns', ws, rfl, hT', ha, _⟩ := h1
      rw [hT] at hT'; cases hT'
      split at e
      · rename_i y hy
        cases e
        exact ⟨a, dx, _, rfl, ha, S, _, _, tr, rfl, r', hy, fun v H' sm rr => ⟨y, rep_str rr, q v H' sm rr⟩⟩
      · cases e
    · rw [if_neg hc] at e; cases e
  · cases e
/-! data without objects -/
mutual
def toPy : D → Option PyData
  | .non => some .none
  | .bl b => some (.bool b)
  | .int i => some (.int i)
  | .str s => some (.str s)
  | .lst ds => (toPys ds).map .list
  | .tup ds => (toPys ds).map .tuple
  | .obj _ _ => none
  | .cls _ => none
  | .scr _ => none
def toPys : List D → Option (List PyData)
  | [] => some []
  | d :: ds => (toPy d).bind fun x => (toPys ds).map fun xs => x :: xs
end
mutual
theorem dp_of {K : PySem.W.Frag} {H : Hp} {S : Addr → Prop} : ∀ {d : D} {v : V} {y : PyData}, Rep T H S d v → toPy d = some y → Dp K H v y
  | .non, v, y, r, e => by rw [rep_non r]; cases e; exact .non
  | .bl b, v, y, r, e => by rw [rep_bl r]; cases e; exact .bl b
  | .int i, v, y, r, e => by rw [rep_int r]; cases e; exact .int i
  | .str s, v, y, r, e => by rw [rep_str r]; cases e; exact .str s
  | .lst ds, v, y, r, e => by
    rw [toPy] at e
    obtain ⟨xs, e1, e2⟩ := map_some1 e
    subst e2
    rw [Rep] at r
    obtain ⟨a, vs, rfl, ha, _, rs⟩ := r
    exact .lst (SqL.of ha) (dps_of rs e1)
  | .tup ds, v, y, r, e => by
    rw [toPy] at e
    obtain ⟨xs, e1, e2⟩ := map_some1 e
    subst e2
    rw [Rep] at r
    obtain ⟨a, vs, rfl, ha, _, rs⟩ := r
    exact .tup (SqT.of ha) (dps_of rs e1)
  | .obj _ _, _, _, _, e => by rw [toPy] at e; cases e
  | .cls _, _, _, _, e => by rw [toPy] at e; cases e
  | .scr _, _, _, _, e => by rw [toPy] at e; cases e
theorem dps_of {K : PySem.W.Frag} {H : Hp} {S : Addr → Prop} : ∀ {ds : List D} {vs : List V} {ys : List PyData}, Reps T H S ds vs → toPys ds = some ys → DpAll K H vs ys
  | [], vs, ys, r, e => by rw [Reps] at r; subst r; rw [toPys] at e; cases e; exact .nil
  | d :: ds, vs, ys, r, e => by
    rw [toPys] at e
    cases h1 : toPy d with
    | none => rw [h1] at e; cases e
    | some x =>
      rw [h1] at e
      obtain ⟨xs, h2, e2⟩ := map_some1 e
      subst e2
      rw [Reps] at r
      obtain ⟨v, w, rfl, r1, r2⟩ := r
      exact .cons (dp_of r1 h1) (dps_of r2 h2)
end
/-- repr of a list or tuple of plain data -/
def okRepr (y : PyData) : Bool := y.showable && decide (y.shown.length ≤ big) && !y.hasDict && decide (y.depth ≤ 40)
def funReprD : List D → Option D
  | [.lst ds] => (toPy (.lst ds)).bind fun y => if okRepr y = true then some (.str y.shown) else none
  | [.tup ds] => (toPy (.tup ds)).bind fun y => if okRepr y = true then some (.str y.shown) else none
  | _ => none
def rReprD (K : PySem.W.Frag) : List V → Hp → VK → Prop := fun vs H Q => ∃ a y, vs = [.ref a] ∧ Dp K H (.ref a) y ∧ okRepr y = true ∧ Q (.str y.shown) H
theorem call_reprD (hq : Quiet X.A) (hr : Room 1 X.A) : CallR X (.builtin "repr") (rReprD X.K) := by
  intro pins s σ H xs us Q I r h
  obtain ⟨a, y, rfl, hd, hok, q⟩ := h
  obtain ⟨u, rfl, ru⟩ := r.one
  cases (show u = Value.ref a from ru)
  obtain ⟨as, rd⟩ := Dp.reads I y (.ref a) (.ref a) hd rfl
  unfold okRepr at hok
  simp only [Bool.and_eq_true, Bool.not_eq_true', decide_eq_true_eq] at hok
  obtain ⟨⟨⟨h1, h2⟩, h3⟩, h4⟩ := hok
  have hu := hr.un
  refine repr_of_reads' rd h1 (fun z => by rw [h3] at z; cases z) hq (by omega) (fun _ _ e => e) (fun h' w tk kk => ⟨.str y.shown, H, I.kept (t' := tk) kk, ⟨w, rfl⟩, q⟩) (big_line h2)
theorem callv_reprD {K : PySem.W.Frag} : CallV T (rReprD K) funReprD := by
  intro S ds vs H d Q tr r e q
  have go : ∀ (x : D) (v : V), (∃ a, v = V.ref a) → Rep T H S x v → ((toPy x).bind fun y => if okRepr y = true then some (D.str y.shown) else none) = some d → rReprD K [v] H Q := fun x v ⟨a, ea⟩ rx e => by
    subst ea
    cases h1 : toPy x with
    | none => rw [h1] at e; cases e
    | some y =>
      rw [h1] at e
      obtain ⟨hok, e⟩ := ite_some e
      subst e
      exact ⟨a, y, rfl, dp_of rx h1, hok, q _ H (Same.refl _) (rep_lit rfl)⟩
  unfold funReprD at e
  split at e
  · rename_i es
    rw [Reps] at r
    obtain ⟨v, r2, rfl, h1, h2⟩ := r
    rw [Reps] at h2; subst h2
    exact go _ v (by rw [Rep] at h1; obtain ⟨a, _, rfl, _⟩ := h1; exact ⟨a, rfl⟩) h1 e
  · rename_i es
    rw [Reps] at r
    obtain ⟨v, r2, rfl, h1, h2⟩ := r
    rw [Reps] at h2; subst h2
    exact go _ v (by rw [Rep] at h1; obtain ⟨a, _, rfl, _⟩ := h1; exact ⟨a, rfl⟩) h1 e
  · cases e
/-- either of two rules for a call -/
def funOr (F G : List D → Option D) : List D → Option D := fun ds => match F ds with
  | some d => some d
  | none => G ds
theorem CallV.or {r r' : List V → Hp → VK → Prop} {F G : List D → Option D} (h : CallV T r F) (h' : CallV T r' G) : CallV T (fun xs H Q => r xs H Q ∨ r' xs H Q) (funOr F G) := by
  intro S ds vs H d Q tr rr e q
  unfold funOr at e
  cases z : F ds with
  | some d' => rw [z] at e; cases e; exact .inl (h S ds vs H d Q tr rr z q)
  | none => rw [z] at e; exact .inr (h' S ds vs H d Q tr rr e q)
/-! f-strings of texts and ints -/
def fFmt (fe : FE) : FE := fun δ => (fe δ).bind fun (d, δ1) => match d with
  | .str y => if y.length ≤ big then some (.str y, δ1) else none
  | .int i => if okNum i = true then some (.str (toString i), δ1) else none
  | _ => none
theorem pd_fmt {e : Expr} {fe : FE} {pos : Pos} (he : PE X e (tD T fe)) : PE X (.FormattedValue e (-1) none pos) (tD T (fFmt fe)) := PE.imp (pe_fmt he) fun σ H Q ⟨S0, δ, d, δ', ok, e, q⟩ => by
  obtain ⟨d1, δ1, e1, e2⟩ := bind_some2 e
  refine ⟨S0, δ, d1, δ1, ok, e1, fun v H1 ok1 s1 r => ?_⟩
  cases d1 <;> first | cases e2 | skip
  · rename_i i
    dsimp only at e2
    obtain ⟨h, e2⟩ := ite_some e2
    cases e2
    exact .inr ⟨i, rep_int r, of_decide_eq_true h, q _ H1 ok1 s1 (rep_lit rfl)⟩
  · rename_i y
    dsimp only at e2
    obtain ⟨h, e2⟩ := ite_some e2
    cases e2
    exact .inl ⟨y, rep_str r, big_line h, q _ H1 ok1 s1 (rep_lit rfl)⟩
def fJoin : List FE → Str → FE
  | [], acc => fun δ => some (.str acc, δ)
  | f :: fs, acc => fun δ => (f δ).bind fun (d, δ1) => match d with
    | .str y => if (acc ++ y).length ≤ big then fJoin fs (acc ++ y) δ1 else none
    | _ => none
inductive JD (X : Cx) (T : CT) : List Expr → List FE → Prop where
  | nil : JD X T [] []
  | cons {e : Expr} {f : FE} {es : List Expr} {fs : List FE} (h : PE X e (tD T f)) (r : JD X T es fs) : JD X T (e :: es) (f :: fs)
theorem JD.pj {es : List Expr} {fs : List FE} (h : JD X T es fs) : PJ X es (fs.map (tD T)) := by
  induction h with
  | nil => exact .nil
  | cons h _ ih => exact .cons h ih
theorem join_imp : ∀ (fs : List FE) (acc : Str) {σ : L2.St} {H : Hp} {Q : VK}, tD T (fJoin fs acc) σ H Q → tJs (fs.map (tD T)) acc σ H fun out H1 => Q (.str out) H1
  | [], acc, σ, H, Q, ⟨S0, δ, d, δ', ok, e, q⟩ => by
    cases e
    exact q _ H ok Step.refl (rep_lit rfl)
  | f :: fs, acc, σ, H, Q, ⟨S0, δ, d, δ', ok, e, q⟩ => by
    obtain ⟨d1, δ1, e1, e2⟩ := bind_some2 e
    refine ⟨S0, δ, d1, δ1, ok, e1, fun v H1 ok1 s1 r => ?_⟩
    cases d1 <;> first | cases e2 | skip
    rename_i y
    dsimp only at e2
    by_cases hz : (acc ++ y).length ≤ big
    · rw [if_pos hz] at e2
      exact ⟨y, rep_str r, big_line hz, join_imp fs (acc ++ y) ⟨S0, δ1, d, δ', ok1, e2, fun v H' ok' s' r' => q v H' ok' (s1.trans s') r'⟩⟩
    · rw [if_neg hz] at e2; cases e2
theorem pd_joined {v1 v2 : Expr} {rest : List Expr} {fs : List FE} {pos : Pos} (h : JD X T (v1 :: v2 :: rest) fs) : PE X (.JoinedStr (v1 :: v2 :: rest) pos) (tD T (fJoin fs Str.empty)) := PE.imp (pe_joined h.pj) fun _ _ _ z => join_imp fs Str.empty z
/-- text + text -/
def gCatS : D → D → Option D
  | .str a, .str b => if a.length + b.length ≤ big then some (.str (a ++ b)) else none
  | _, _ => none
theorem opv_catS : OpV T (fun x y H Q => ∃ i j, x = .str i ∧ y = .str j ∧ i.length + j.length ≤ sizeLine ∧ Q (.str (i ++ j)) H) gCatS := by
  intro S x y vx vy H d Q tr rx ry e q
  unfold gCatS at e
  split at e
  · obtain ⟨h, e⟩ := ite_some e
    subst e
    exact ⟨_, _, rep_str rx, rep_str ry, big_line h, q _ H (Same.refl _) (rep_lit rfl)⟩
  · cases e
end
end Dl
namespace Dl
open PySem PySem.Spec PyProof.Rows L2
section
variable {X : Cx} {T : CT} {k n c : Nat} {x m : Str} {p pos apos : Pos} {e o : Expr} {es : List Expr} {fa : FA} {fo fe fb : FE}

/-! ### items, slices, lengths -/
def gIx : D → D → Option D
  | .lst ds, .int i => atI ds i
  | .tup ds, .int i => atI ds i
  | _, _ => none
theorem atI_reps {H : Hp} {S : Addr → Prop} {ds : List D} {vs : List V} {i : Int} {d : D} (r : Reps T H S ds vs) (h : atI ds i = some d) : ∃ v, atI vs i = some v ∧ Rep T H S d v := by
  unfold atI at h ⊢
  rw [r.length]
  cases q : ixN ds.length i with
  | none => rw [q] at h; cases h
  | some j =>
    rw [q] at h
    exact r.get h
def rIx2 (K : PySem.W.Frag) : R2 := fun x y H Q => rIxL K x y H Q ∨ rIxT K x y H Q
theorem ix_two : IxR X (rIx2 X.K) := ix_list.or ix_tup
theorem opv_ix {K : PySem.W.Frag} : OpV T (rIx2 K) gIx := by
  intro S x y vx vy H d Q tr rx ry e q
  unfold gIx at e
  split at e
  · rw [Rep] at rx
    obtain ⟨a, vs, rfl, ha, _, rs⟩ := rx
    obtain ⟨v, hv, rv⟩ := atI_reps rs e
    exact .inl ⟨a, vs, _, v, rfl, rep_int ry, SqL.of ha, hv, q v H (Same.refl _) rv⟩
  · rw [Rep] at rx
    obtain ⟨a, vs, rfl, ha, _, rs⟩ := rx
    obtain ⟨v, hv, rv⟩ := atI_reps rs e
    exact .inr ⟨a, vs, _, v, rfl, rep_int ry, SqT.of ha, hv, q v H (Same.refl _) rv⟩
  · cases e
theorem pd_ix {a b : Expr} (ha : PE X a (tD T fo)) (hb : PE X b (tD T fb)) (hs : PlainIx b := by exact fun _ _ => rfl) : PE X (.Subscript a b pos) (tD T (fBin gIx fo fb)) := PE.imp (pe_ix ix_two ha hb hs) fun _ _ _ h => bin_imp opv_ix h
/-- an item of a name's own list -/
def fIxO (i : Nat) (fb : FE) : FE := fun δ => if isOwn δ[i]? = true then (fb δ).bind fun (y, δ1) => match δ1[i]?, y with
    | some (.own w xs), .int j => if isL w = true then (atI xs j).map fun d => (d, δ1) else none
    | _, _ => none
  else none
theorem own_of {s : Option Sl} (h : isOwn s = true) : ∃ w xs, s = some (.own w xs) := by
  cases s with
  | none => cases h
  | some sl =>
    cases sl with
    | un => cases h
    | val _ => cases h
    | own p xs => exact ⟨p, xs, rfl⟩
theorem pd_ixO {i : Nat} {b : Expr} {y : Str} {py : Pos} (hb : PE X b (tD T fb)) (hs : PlainIx b := by exact fun _ _ => rfl) (hN : X.N[i]? = some y := by rfl) (hv : Vis X.env.scope y := by first | exact Or.inl rfl | exact Or.inr (Or.inl rfl) | exact Or.inr (Or.inr rfl))
    (hdy : (y == ("__debug__" : Str)) = false := by decide) (hcd : (y == ("__classdict__" : Str)) = false := by decide) : PE X (.Subscript (.Name y py) b pos) (tD T (fIxO i fb)) := PE.imp (pe_ix ix_list (pe_var hN hv hdy hcd) hb hs) fun σ H Q ⟨S0, δ, d, δ', ok, e, q⟩ => by
  unfold fIxO at e
  by_cases h0 : isOwn δ[i]? = true
  case neg => rw [if_neg h0] at e; cases e
  rw [if_pos h0] at e
  obtain ⟨yd, δ1, e1, e2⟩ := bind_some2 e
  obtain ⟨w0, xs0, e0⟩ := own_of h0
  obtain ⟨a, us, ea, _⟩ := ok.ow i w0 xs0 e0
  refine ⟨_, ea, S0, δ, yd, δ1, ok, e1, fun vy H1 ok1 s1 r1 => ?_⟩
  dsimp only at e2
  split at e2
  · rename_i w xs j hw
    by_cases hp : isL w = true
    case neg => rw [if_neg hp] at e2; cases e2
    rw [if_pos hp] at e2
    obtain ⟨d1, e4, e5⟩ := map_some1 e2
    cases e5
    obtain ⟨b, vs, q1, q2, q3, _⟩ := ok1.ow i w xs hw
    rw [ea] at q1; cases q1
    rw [isL_ho hp] at q2
    obtain ⟨v, hv, rv⟩ := atI_reps q3 e4
    exact ⟨a, vs, j, v, rfl, rep_int r1, SqL.of q2, hv, q v H1 ok1 s1 rv⟩
  · cases e2
/-- len -/
def funLen : List D → Option D
  | [.lst ds] => some (.int ds.length)
  | [.tup ds] => some (.int ds.length)
  | _ => none
theorem callv_len {K : PySem.W.Frag} : CallV T (fun xs H Q => ∃ p ys, xs = [.ref p] ∧ (SqL K H p ys ∨ SqT K H p ys) ∧ Q (.int ys.length) H) funLen := by
  intro S ds vs H d Q tr r e q
  unfold funLen at e
  split at e
  · cases e
    rw [Reps] at r
    obtain ⟨v, r2, rfl, h1, h2⟩ := r
    rw [Reps] at h2; subst h2
    rw [Rep] at h1
    obtain ⟨a, ws, rfl, ha, _, rs⟩ := h1
    exact ⟨a, ws, rfl, .inl (SqL.of ha), by rw [rs.length]; exact q _ H (Same.refl _) (rep_lit rfl)⟩
  · cases e
    rw [Reps] at r
    obtain ⟨v, r2, rfl, h1, h2⟩ := r
    rw [Reps] at h2; subst h2
    rw [Rep] at h1
    obtain ⟨a, ws, rfl, ha, _, rs⟩ := h1
    exact ⟨a, ws, rfl, .inr (SqT.of ha), by rw [rs.length]; exact q _ H (Same.refl _) (rep_lit rfl)⟩
  · cases e
/-- len of a name's own list -/
def fLenO (i : Nat) : FE := fun δ => match δ[i]? with
  | some (.own w xs) => if isL w = true then some (.int xs.length, δ) else none
  | _ => none
theorem pd_lenO {i : Nat} {y : Str} {py : Pos} (hm : X.mg "len" = none) (hN : X.N[i]? = some y := by rfl) (hv : Vis X.env.scope y := by first | exact Or.inl rfl | exact Or.inr (Or.inl rfl) | exact Or.inr (Or.inr rfl)) (hdy : (y == ("__debug__" : Str)) = false := by decide) (hcd : (y == ("__classdict__" : Str)) = false := by decide) (hg : Gl X "len" := by rfl)
    (he : starEach [.Name y py] X.env = (false, eval (.Name y py) X.env) :: starEach [] X.env := by rfl) (hpl : (backTo pos (starEach [] X.env)).any (·.1) = false := by rfl) : PE X (.Call (.Name "len" p) [.Name y py] [] pos) (tD T (fLenO i)) :=
  PE.imp (pe_callB call_len_seq hg hm PySem.boot_len (pa_cons (pe_var hN hv hdy hcd) pa_nil he) (by decide) (by decide) he hpl) fun σ H Q ⟨S0, δ, d, δ', ok, e, q⟩ => by
    unfold fLenO at e
    split at e
    · rename_i w xs hw
      obtain ⟨hp, e⟩ := ite_some e
      cases e
      obtain ⟨a, vs, q1, q2, q3, _⟩ := ok.ow i w xs hw
      rw [isL_ho hp] at q2
      exact ⟨_, q1, a, vs, rfl, .inl (SqL.of q2), by rw [q3.length]; exact q _ H ok Step.refl (rep_lit rfl)⟩
    · cases e
/-- slices of a list: a new one -/
def fPart (f : FE) : Es → Option (Option Int × Es) := fun δ => (f δ).bind fun (d, δ1) => match d with
  | .int i => some (some i, δ1)
  | _ => none
def fNoPart : Es → Option (Option Int × Es) := fun δ => some (none, δ)
def tDo (T : CT) (f : Es → Option (Option Int × Es)) : TO := fun σ H Q => ∃ S0 δ d δ', Ok T S0 σ δ H ∧ f δ = some (d, δ') ∧ ∀ H', Ok T S0 σ δ' H' → Step σ δ H σ δ' H' → Q d H'
theorem PO.imp {e : Option Expr} {t u : TO} (h : PO X e t) (i : ∀ σ H Q, u σ H Q → t σ H Q) : PO X e u := ⟨fun pins s σ H Q I q => h.run pins s σ H Q I (i σ H Q q)⟩
theorem pdo_none : PO X none (tDo T fNoPart) := PO.imp po_none fun σ H Q ⟨S0, δ, d, δ', ok, e, q⟩ => by
  cases e
  exact q H ok Step.refl
theorem pdo_some {e : Expr} {f : FE} (h : PE X e (tD T f)) : PO X (some e) (tDo T (fPart f)) := PO.imp (po_some h) fun σ H Q ⟨S0, δ, d, δ', ok, e, q⟩ => by
  obtain ⟨d1, δ1, e1, e2⟩ := bind_some2 e
  refine ⟨S0, δ, d1, δ1, ok, e1, fun v H1 ok1 s1 r => ?_⟩
  cases d1 <;> cases e2
  exact ⟨_, rep_int r, q H1 ok1 s1⟩
def cutD (xs : List D) (lo hi : Option Int) : List D := (xs.drop (HT.sIx xs.length 0 lo)).take (HT.sIx xs.length xs.length hi - HT.sIx xs.length 0 lo)
def fSlice (f : FE) (fl fh : Es → Option (Option Int × Es)) : FA := fun δ => (f δ).bind fun (d, δ1) => (fl δ1).bind fun (l, δ2) => (fh δ2).bind fun (h, δ3) => match d with
  | .lst ds => some (cutD ds l h, δ3)
  | _ => none
theorem pf_slice {lo hi : Option Expr} {fl fh : Es → Option (Option Int × Es)} {p2 : Pos} (he : PE X e (tD T fe)) (hl : PO X lo (tDo T fl)) (hh : PO X hi (tDo T fh)) : PE X (.Subscript e (.Slice lo hi none p2) pos) (tF T (fSlice fe fl fh)) := PE.imp (pe_slice sl_list he hl hh) fun σ H Q ⟨S0, δ, ds, δ', ok, e, q⟩ => by
  obtain ⟨d1, δ1, e1, e2⟩ := bind_some2 e
  obtain ⟨l, δ2, e3, e4⟩ := bind_some2 e2
  obtain ⟨h, δ3, e5, e6⟩ := bind_some2 e4
  refine ⟨S0, δ, d1, δ1, ok, e1, fun v H1 ok1 s1 r => ⟨S0, δ1, l, δ2, ok1, e3, fun H2 ok2 s2 => ⟨S0, δ2, h, δ3, ok2, e5, fun H3 ok3 s3 => ?_⟩⟩⟩
  have r3 := (s2.trans s3).rep r
  dsimp only at e6
  cases d1 <;> cases e6
  rw [Rep] at r3
  obtain ⟨a, vs, rfl, ha, _, rs⟩ := r3
  refine ⟨a, vs, rfl, SqL.of ha, fun p hp => q p _ H3 ok3 ((s1.trans s2).trans s3) hp ?_⟩
  unfold cutV cutD
  rw [rs.length]
  exact (rs.drop _).take _
/-- list + list -/
def gCatL : D → D → Option D
  | .lst a, .lst b => if a.length + b.length ≤ big then some (.lst (a ++ b)) else none
  | _, _ => none
theorem fresh_rep {H : Hp} {S : Addr → Prop} {ds : List D} {vs : List V} {p : Addr} (tr : ∀ b, S b → ∃ o, H b = some o) (hp : H p = none) (r : Reps T H S ds vs) : Same H (upd H p (.lst vs)) ∧ Rep T (upd H p (.lst vs)) S (.lst ds) (.ref p) := by
  have sm : Same H (upd H p (.lst vs)) := fun b o e => by rw [upd_ne (ne_of_none e hp)]; exact e
  refine ⟨sm, ?_⟩
  rw [Rep]
  exact ⟨p, vs, rfl, upd_same, (fun z => by obtain ⟨o, e⟩ := tr p z; rw [hp] at e; cases e), r.same sm⟩
theorem opv_catL : OpV T rCat gCatL := by
  intro S x y vx vy H d Q tr rx ry e q
  unfold gCatL at e
  split at e
  · obtain ⟨h, e⟩ := ite_some e
    subst e
    rw [Rep] at rx ry
    obtain ⟨a, vs, rfl, ha, _, rs⟩ := rx
    obtain ⟨b, ws, rfl, hb, _, rs'⟩ := ry
    refine ⟨a, b, vs, ws, rfl, rfl, ha, hb, by rw [rs.length, rs'.length]; exact big_line h, fun p hp => ?_⟩
    obtain ⟨sm, rr⟩ := fresh_rep tr hp (rs.append rs')
    exact q _ _ sm rr
  · cases e
/-- list(xs), tuple(xs) of a list -/
def funList : List D → Option D
  | [.lst ds] => some (.lst ds)
  | [.tup ds] => some (.lst ds)
  | _ => none
theorem callv_list {K : PySem.W.Frag} : CallV T (fun xs H Q => ∃ p ys, xs = [.ref p] ∧ (SqL K H p ys ∨ SqT K H p ys) ∧ ∀ l, H l = none → Q (.ref l) (upd H l (.lst ys))) funList := by
  intro S ds vs H d Q tr r e q
  unfold funList at e
  split at e
  · cases e
    rw [Reps] at r
    obtain ⟨v, r2, rfl, h1, h2⟩ := r
    rw [Reps] at h2; subst h2
    rw [Rep] at h1
    obtain ⟨a, ws, rfl, ha, _, rs⟩ := h1
    exact ⟨a, ws, rfl, .inl (SqL.of ha), fun l hl => let ⟨sm, rr⟩ := fresh_rep tr hl rs; q _ _ sm rr⟩
  · cases e
    rw [Reps] at r
    obtain ⟨v, r2, rfl, h1, h2⟩ := r
    rw [Reps] at h2; subst h2
    rw [Rep] at h1
    obtain ⟨a, ws, rfl, ha, _, rs⟩ := h1
    exact ⟨a, ws, rfl, .inr (SqT.of ha), fun l hl => let ⟨sm, rr⟩ := fresh_rep tr hl rs; q _ _ sm rr⟩
  · cases e
def funTup : List D → Option D
  | [.lst ds] => some (.tup ds)
  | [.tup ds] => some (.tup ds)
  | _ => none
theorem callv_tup {K : PySem.W.Frag} : CallV T (fun xs H Q => ∃ p ys, xs = [.ref p] ∧ ((SqL K H p ys ∧ ∀ l, H l = none → Q (.ref l) (upd H l (.tup ys))) ∨ (SqT K H p ys ∧ Q (.ref p) H))) funTup := by
  intro S ds vs H d Q tr r e q
  unfold funTup at e
  split at e
  · cases e
    rw [Reps] at r
    obtain ⟨v, r2, rfl, h1, h2⟩ := r
    rw [Reps] at h2; subst h2
    rw [Rep] at h1
    obtain ⟨a, ws, rfl, ha, _, rs⟩ := h1
    refine ⟨a, ws, rfl, .inl ⟨SqL.of ha, fun l hl => ?_⟩⟩
    have sm : Same H (upd H l (.tup ws)) := fun b o e => by rw [upd_ne (ne_of_none e hl)]; exact e
    refine q _ _ sm ?_
    rw [Rep]
    exact ⟨l, ws, rfl, upd_same, (fun z => by obtain ⟨o, e⟩ := tr l z; rw [hl] at e; cases e), rs.same sm⟩
  · cases e
    rw [Reps] at r
    obtain ⟨v, r2, rfl, h1, h2⟩ := r
    rw [Reps] at h2; subst h2
    have h1' := h1
    rw [Rep] at h1
    obtain ⟨a, ws, rfl, ha, _, rs⟩ := h1
    exact ⟨a, ws, rfl, .inr ⟨SqT.of ha, q _ H (Same.refl _) h1'⟩⟩
  · cases e
/-- all of a list of truths -/
def blsOf : List D → Option (List Bool)
  | [] => some []
  | .bl b :: r => (blsOf r).map fun bs => b :: bs
  | _ => none
theorem bls_reps {H : Hp} {S : Addr → Prop} : ∀ {ds : List D} {vs : List V} {bs : List Bool}, Reps T H S ds vs → blsOf ds = some bs → vs = bs.map V.bl
  | [], vs, bs, r, e => by rw [Reps] at r; cases e; exact r
  | d :: ds, vs, bs, r, e => by
    unfold blsOf at e
    cases d <;> first | cases e | skip
    dsimp only at e
    obtain ⟨b2, e1, e2⟩ := map_some1 e
    subst e2
    rw [Reps] at r
    obtain ⟨v, w, rfl, r1, r2⟩ := r
    rw [rep_bl r1, bls_reps r2 e1]
    rfl
def funAll : List D → Option D
  | [.lst ds] => (blsOf ds).map fun bs => .bl (bs.all id)
  | _ => none
theorem callv_all {K : PySem.W.Frag} : CallV T (rAll K) funAll := by
  intro S ds vs H d Q tr r e q
  unfold funAll at e
  split at e
  · obtain ⟨bs, e1, e2⟩ := map_some1 e
    subst e2
    rw [Reps] at r
    obtain ⟨v, r2, rfl, h1, h2⟩ := r
    rw [Reps] at h2; subst h2
    rw [Rep] at h1
    obtain ⟨a, ws, rfl, ha, _, rs⟩ := h1
    have e3 := bls_reps rs e1
    subst e3
    exact ⟨a, bs, rfl, SqL.of ha, q _ H (Same.refl _) (rep_lit rfl)⟩
  · cases e

/-! ### a name's own list changed -/
def isOwnL : Option Sl → Bool
  | some (.own w _) => isL w
  | _ => false
theorem ownL_of {s : Option Sl} (h : isOwnL s = true) : ∃ w xs, s = some (.own w xs) ∧ isL w = true := by
  cases s with
  | none => cases h
  | some sl =>
    cases sl with
    | un => cases h
    | val _ => cases h
    | own p xs => exact ⟨p, xs, rfl, h⟩
def sApp (i : Nat) (fe : FE) : FS := fun δ => if isOwnL δ[i]? = true then (fe δ).bind fun (d, δ1) => match δ1[i]? with
    | some (.own w xs) => if isL w = true ∧ xs.length ≤ big then some (.nx (δ1.set i (.own w (xs ++ [d])))) else none
    | _ => none
  else none
theorem st_app {i : Nat} {y : Str} {py pa pe : Pos} (he : PE X e (tD T fe)) (hN : X.N[i]? = some y := by rfl) (hv : Vis X.env.scope y := by first | exact Or.inl rfl | exact Or.inr (Or.inl rfl) | exact Or.inr (Or.inr rfl)) (hdy : (y == ("__debug__" : Str)) = false := by decide) (hcd : (y == ("__classdict__" : Str)) = false := by decide)
    (h : ∀ {ty : TE}, PE X (.Name y py) ty → PE X (.Call (.Attribute (.Name y py) "append" pa) [e] [] pe) (tBM X.K "list" rAppend ty (tCons (tD T fe) tNil))) (hs : swapsWith (.Call (.Attribute (.Name y py) "append" pa) [e] [] pe) none pos.line X.env = pure false := by rfl) :
    PS X (.Expr (.Call (.Attribute (.Name y py) "append" pa) [e] [] pe) pos) (tSt T (sApp i fe)) := PS.imp (ps_expr (h (pe_var hN hv hdy hcd)) hs) fun E σ H ⟨S0, δ, r, ok, e, q⟩ => by
  unfold sApp at e
  by_cases h0 : isOwnL δ[i]? = true
  case neg => rw [if_neg h0] at e; cases e
  rw [if_pos h0] at e
  obtain ⟨d, δ1, e1, e2⟩ := bind_some2 e
  obtain ⟨w0, xs0, e0, w0L⟩ := ownL_of h0
  obtain ⟨a, us, ea, ha0, _⟩ := ok.ow i w0 xs0 e0
  dsimp only at e2
  split at e2
  case h_2 => cases e2
  rename_i w xs hw
  obtain ⟨⟨hp, hlen⟩, e2⟩ := ite_some e2
  subst e2
  rw [isL_ho w0L] at ha0
  refine ⟨_, ea, .inl ⟨rfl, _, SqL.of ha0⟩, S0, δ, d, δ1, ok, e1, fun v H1 ok1 s1 r1 => ?_⟩
  obtain ⟨b, vs, q1, q2, q3, _⟩ := ok1.ow i w xs hw
  rw [ea] at q1; cases q1
  rw [isL_ho hp] at q2
  refine ⟨a, vs, v, rfl, rfl, q2, by rw [q3.length]; exact big_line' hlen, ?_⟩
  have na : Av S0 σ δ1 a := .inr ⟨i, w, xs, hw, ea⟩
  have hk : ∀ b o, H1 b = some o → b ≠ a → upd H1 a (.lst (vs ++ [v])) b = some o := fun b o e ne => by rw [upd_ne ne]; exact e
  obtain ⟨ok2, s2⟩ := ok1.change (H' := upd H1 a (.lst (vs ++ [v]))) (us := vs ++ [v]) hw ea hk (by rw [isL_ho hp]; exact upd_same) ((q3.append (Reps.cons r1 Reps.nil)).move (fun b o e n => hk b o e fun z => n (by rw [z]; exact na)) fun b z => .inl z)
  exact q _ _ ok2 (s1.trans s2)
end
end Dl
namespace Dl
open PySem PySem.Spec PyProof.Rows L2
section
variable {T : CT} {S0 S1 : Addr → Prop} {σ σ1 σ2 : L2.St} {δ δ1 δ2 : Es} {H H1 H2 : Hp}
/-- slots of which nothing is known may hold anything -/
theorem Ok.agree (k : Ok T S0 σ δ H) (hl : σ1.length = σ.length) (ha : ∀ (i : Nat) s, δ[i]? = some s → s ≠ .un → σ1[i]? = σ[i]?) : Ok T S0 σ1 δ H ∧ Step σ δ H σ1 δ H := by
  have own' : ∀ b, ownAt σ1 δ b → ownAt σ δ b := fun b ⟨i, p, ds, h1, h2⟩ => ⟨i, p, ds, h1, by rw [← ha i _ h1 (by intro z; cases z)]; exact h2⟩
  have sub : ∀ b, Av S0 σ1 δ b → Av S0 σ δ b := fun b z => z.elim .inl fun z => .inr (own' b z)
  refine ⟨⟨by rw [hl]; exact k.len, k.tr, fun i d h => ?_, fun i p ds h => ?_, fun i j p q ds es a h1 h2 h3 h4 => ?_⟩, ⟨fun _ _ z _ => z, fun b z => .inl (own' b z), fun _ o z => ⟨o, z⟩, fun i p ds _ h => ⟨⟨ds, h⟩, ha i _ h (by intro z; cases z)⟩⟩⟩
  · obtain ⟨v, q1, q2⟩ := k.sl i d h
    exact ⟨v, by rw [ha i _ h (by intro z; cases z)]; exact q1, q2.sub sub⟩
  · obtain ⟨a, vs, q1, q2, q3, q4⟩ := k.ow i p ds h
    exact ⟨a, vs, by rw [ha i _ h (by intro z; cases z)]; exact q1, q2, q3.sub sub, q4⟩
  · rw [ha i _ h1 (by intro z; cases z)] at h3
    rw [ha j _ h2 (by intro z; cases z)] at h4
    exact k.dj i j p q ds es a h1 h2 h3 h4
def wipeE (δ : Es) : List Nat → Es
  | [] => δ
  | v :: vs => (wipeE δ vs).set v .un
theorem Ok.wipe (k : Ok T S0 σ δ H) : ∀ vs : List Nat, Ok T S0 (L2.wipe σ vs) (wipeE δ vs) H ∧ Step σ δ H (L2.wipe σ vs) (wipeE δ vs) H
  | [] => ⟨k, Step.refl⟩
  | v :: vs => by
    obtain ⟨k1, s1⟩ := k.wipe vs
    obtain ⟨k2, s2⟩ := k1.junk (i := v) (v := none)
    exact ⟨k2, s1.trans s2⟩
theorem wipeE_un : ∀ {vs : List Nat} {δ : Es} {i : Nat} {s : Sl}, i ∈ vs → (wipeE δ vs)[i]? = some s → s = .un
  | v :: vs, δ, i, s, hi, h => by
    unfold wipeE at h
    rcases get_set h with ⟨_, _, z⟩ | ⟨hj, h⟩
    · exact z
    · rcases List.mem_cons.mp hi with e | e
      · exact absurd e hj
      · exact wipeE_un e h
theorem wipe_get : ∀ (vs : List Nat) (σ : L2.St) (i : Nat), (L2.wipe σ vs)[i]? = if i ∈ vs ∧ i < σ.length then some none else σ[i]?
  | [], σ, i => by simp [L2.wipe]
  | v :: vs, σ, i => by
    show ((L2.wipe σ vs).set v none)[i]? = _
    by_cases e : i = v
    · subst e
      by_cases hl : i < σ.length
      · rw [List.getElem?_set_self (by rw [L2.wipe_length]; exact hl), if_pos ⟨List.mem_cons_self, hl⟩]
      · rw [List.set_eq_of_length_le (by rw [L2.wipe_length]; omega), wipe_get vs σ i, if_neg (fun z => hl z.2), if_neg (fun z => hl z.2)]
    · rw [List.getElem?_set_ne (Ne.symm e), wipe_get vs σ i]
      simp [e]
theorem wipe_eq {vs : List Nat} {σ σ1 : L2.St} (hl : σ1.length = σ.length) (ha : ∀ i, i ∉ vs → σ1[i]? = (L2.wipe σ vs)[i]?) : L2.wipe σ1 vs = L2.wipe σ vs := by
  apply List.ext_getElem?
  intro i
  rw [wipe_get vs σ1 i, wipe_get vs σ i, hl]
  by_cases h : i ∈ vs ∧ i < σ.length
  · rw [if_pos h, if_pos h]
  · rw [if_neg h, if_neg h]
    by_cases hi : i ∈ vs
    · have : ¬ i < σ.length := fun z => h ⟨hi, z⟩
      rw [List.getElem?_eq_none (by omega), List.getElem?_eq_none (by omega)]
    · rw [ha i hi, wipe_get, if_neg h]
/-- an address that no name holds and no datum has is written -/
theorem Ok.poke {D : Addr} {o : HO} (k : Ok T S0 σ δ H) (hD : S0 D) (hn : ¬ ownAt σ δ D) : Ok T S0 σ δ (upd H D o) := by
  have mv : ∀ b u, H b = some u → ¬ Av S0 σ δ b → upd H D o b = some u := fun b u e n => by rw [upd_ne (fun z => n (by rw [z]; exact .inl hD))]; exact e
  refine ⟨k.len, fun b z => ?_, fun i d h => ?_, fun i p ds h => ?_, k.dj⟩
  · obtain ⟨u, e⟩ := k.tr b z
    by_cases q : b = D
    · exact ⟨o, by rw [q]; exact upd_same⟩
    · exact ⟨u, by rw [upd_ne q]; exact e⟩
  · obtain ⟨v, q1, q2⟩ := k.sl i d h
    exact ⟨v, q1, q2.move mv fun b z => .inl z⟩
  · obtain ⟨a, vs, q1, q2, q3, q4⟩ := k.ow i p ds h
    refine ⟨a, vs, q1, ?_, q3.move mv fun b z => .inl z, q4⟩
    rw [upd_ne (fun z => hn (by rw [← z]; exact ⟨i, p, ds, h, q1⟩))]
    exact q2
theorem Step.poke {D : Addr} {o : HO} (s : Step σ δ H σ1 δ1 H1) (hD : H D = none) : Step σ δ H σ1 δ1 (upd H1 D o) where
  keep := fun b u e n => by
    rw [upd_ne (ne_of_none e hD)]
    exact s.keep b u e n
  own := s.own
  trk := fun b u e => by
    rw [upd_ne (ne_of_none e hD)]
    exact s.trk b u e
  pot := s.pot
def er (H : Hp) (D : Addr) : Hp := fun b => if b = D then none else H b
theorem er_ne {H : Hp} {b D : Addr} (h : b ≠ D) : er H D b = H b := by unfold er; rw [if_neg h]
theorem er_self {H : Hp} {D : Addr} : er H D D = none := by unfold er; rw [if_pos rfl]
theorem upd_er {H : Hp} {D : Addr} {o : HO} (h : H D = some o) : upd (er H D) D o = H := by
  funext b
  by_cases e : b = D
  · subst e; rw [upd_same, h]
  · rw [upd_ne e, er_ne e]
def orD (S0 : Addr → Prop) (D : Addr) : Addr → Prop := fun b => S0 b ∨ b = D
theorem Ok.erase {D : Addr} (k : Ok T (orD S0 D) σ δ H) (hS : ¬ S0 D) (hn : ¬ ownAt σ δ D) : Ok T S0 σ δ (er H D) ∧ ∀ {ds : List Dl.D} {vs : List V}, Reps T H (Av (orD S0 D) σ δ) ds vs → Reps T (er H D) (Av S0 σ δ) ds vs := by
  have mv : ∀ b u, H b = some u → ¬ Av (orD S0 D) σ δ b → er H D b = some u := fun b u e n => by rw [er_ne (fun z => n (.inl (.inr z)))]; exact e
  have sub : ∀ b, Av S0 σ δ b → Av (orD S0 D) σ δ b ∨ H b = none := fun b z => .inl (z.elim (fun z => .inl (.inl z)) .inr)
  refine ⟨⟨k.len, fun b z => ?_, fun i d h => ?_, fun i p ds h => ?_, k.dj⟩, fun r => r.move mv sub⟩
  · obtain ⟨u, e⟩ := k.tr b (.inl z)
    exact ⟨u, by rw [er_ne (fun q => hS (by rw [← q]; exact z))]; exact e⟩
  · obtain ⟨v, q1, q2⟩ := k.sl i d h
    exact ⟨v, q1, q2.move mv sub⟩
  · obtain ⟨a, vs, q1, q2, q3, q4⟩ := k.ow i p ds h
    refine ⟨a, vs, q1, ?_, q3.move mv sub, fun z q => q4 z (.inl q)⟩
    rw [er_ne (fun z => hn (by rw [← z]; exact ⟨i, p, ds, h, q1⟩))]
    exact q2
theorem Step.erase {D : Addr} (s : Step σ δ H σ1 δ1 H1) (hD : H D = none) : Step σ δ H σ1 δ1 (er H1 D) where
  keep := fun b u e n => by
    rw [er_ne (ne_of_none e hD)]
    exact s.keep b u e n
  own := s.own
  trk := fun b u e => by
    rw [er_ne (ne_of_none e hD)]
    exact s.trk b u e
  pot := s.pot
/-- a new address is set apart -/
theorem Ok.apart {D : Addr} {o : HO} (k : Ok T S0 σ δ H) (hD : H D = none) : Ok T (orD S0 D) σ δ (upd H D o) ∧ ¬ ownAt σ δ D := by
  have hn : ¬ Av S0 σ δ D := k.fresh hD
  have mv : ∀ b u, H b = some u → ¬ Av S0 σ δ b → upd H D o b = some u := fun b u e n => by rw [upd_ne (ne_of_none e hD)]; exact e
  have sub : ∀ b, Av (orD S0 D) σ δ b → Av S0 σ δ b ∨ H b = none := fun b z => z.elim (fun z => z.elim (fun z => .inl (.inl z)) fun z => .inr (by rw [z]; exact hD)) fun z => .inl (.inr z)
  refine ⟨⟨k.len, fun b z => ?_, fun i d h => ?_, fun i p ds h => ?_, k.dj⟩, fun z => hn (.inr z)⟩
  · by_cases q : b = D
    · exact ⟨o, by rw [q]; exact upd_same⟩
    · obtain ⟨u, e⟩ := k.tr b (z.elim id fun z => absurd z q)
      exact ⟨u, by rw [upd_ne q]; exact e⟩
  · obtain ⟨v, q1, q2⟩ := k.sl i d h
    exact ⟨v, q1, q2.move mv sub⟩
  · obtain ⟨a, vs, q1, q2, q3, q4⟩ := k.ow i p ds h
    have hne : a ≠ D := fun z => by rw [z, hD] at q2; cases q2
    refine ⟨a, vs, q1, by rw [upd_ne hne]; exact q2, q3.move mv sub, fun z q => q.elim (q4 z) hne⟩
end

/-! ### targets -/
def Agr (ws : List Nat) (σ' σ : L2.St) : Prop := σ'.length = σ.length ∧ ∀ i, i ∉ ws → σ'[i]? = σ[i]?
theorem Agr.refl {ws : List Nat} {σ : L2.St} : Agr ws σ σ := ⟨rfl, fun _ _ => rfl⟩
theorem Agr.trans {ws : List Nat} {a b c : L2.St} (h : Agr ws a b) (h' : Agr ws b c) : Agr ws a c := ⟨h.1.trans h'.1, fun i hi => (h.2 i hi).trans (h'.2 i hi)⟩
abbrev FG := D → Es → Option Es
def tTg (T : CT) (ws : List Nat) (ft : FG) : TG := fun x σ H Q => ∃ S0 δ d δ', Ok T S0 σ δ H ∧ Rep T H (Av S0 σ δ) d x ∧ ft d δ = some δ' ∧ ∀ σ' H', Agr ws σ' σ → Ok T S0 σ' δ' H' → Step σ δ H σ' δ' H' → Q σ' H'
def tTgs (T : CT) (ws : List Nat) (ft : List D → Es → Option Es) : TGs := fun xs σ H Q => ∃ S0 δ ds δ', Ok T S0 σ δ H ∧ Reps T H (Av S0 σ δ) ds xs ∧ ft ds δ = some δ' ∧ ∀ σ' H', Agr ws σ' σ → Ok T S0 σ' δ' H' → Step σ δ H σ' δ' H' → Q σ' H'
section
variable {X : Cx} {T : CT} {pos : Pos} {ws : List Nat}
theorem PG.imp {e : Expr} {t u : TG} (h : PG X e t) (i : ∀ x σ H Q, u x σ H Q → t x σ H Q) : PG X e u := ⟨fun pins s σ H v x Q I r q => h.run pins s σ H v x Q I r (i _ σ H Q q)⟩
theorem PGs.imp {e : List Expr} {t u : TGs} (h : PGs X e t) (i : ∀ x σ H Q, u x σ H Q → t x σ H Q) : PGs X e u := ⟨fun pins s σ H v x Q I r q => h.run pins s σ H v x Q I r (i _ σ H Q q)⟩
theorem PI.imp {tg e : Expr} {t u : TI} (h : PI X tg e t) (i : ∀ σ H Q, u σ H Q → t σ H Q) : PI X tg e u := ⟨fun pins s σ H R I q => h.run pins s σ H R I (i σ H R q)⟩
def gN (i : Nat) : FG := fun d δ => some (δ.set i (.val d))
theorem tg_n (i : Nat) {x : Str} (hN : X.N.Nodup) (hw : i ∈ ws := by decide) (hi : X.N[i]? = some x := by rfl) (hx : Loc X.env.scope x := by first | exact .inl rfl | exact .inr rfl) (hf : X.fn x = true ∨ X.env.scope.names.lookup x = some .local := by first | exact .inl rfl | exact .inr rfl | assumption) :
    PG X (.Name x pos) (tTg T ws (gN i)) := PG.imp (pg_name hN hi hx hf) fun v σ H Q ⟨S0, δ, d, δ', ok, r, e, q⟩ => by
  cases e
  obtain ⟨ok2, s2⟩ := ok.store (i := i) r
  exact q _ H ⟨by rw [List.length_set], fun j hj => by rw [List.getElem?_set_ne (fun z => hj (by rw [← z]; exact hw))]⟩ ok2 s2
def gsNil : List D → Es → Option Es
  | [], δ => some δ
  | _, _ => none
def gsCons (f : FG) (g : List D → Es → Option Es) : List D → Es → Option Es
  | d :: ds, δ => (f d δ).bind fun δ1 => g ds δ1
  | _, _ => none
theorem bind_some1 {α γ : Type} {o : Option α} {k : α → Option γ} {c : γ} (h : o.bind k = some c) : ∃ a, o = some a ∧ k a = some c := by
  cases o with
  | none => cases h
  | some p => exact ⟨p, rfl, h⟩
theorem tgs_nil : PGs X [] (tTgs T ws gsNil) := PGs.imp pgs_nil fun xs σ H Q ⟨S0, δ, ds, δ', ok, r, e, q⟩ => by
  cases ds with
  | nil =>
    cases e
    rw [Reps] at r
    exact ⟨r, q σ H Agr.refl ok Step.refl⟩
  | cons _ _ => cases e
theorem tgs_cons {e : Expr} {es : List Expr} {f : FG} {g : List D → Es → Option Es} (h1 : PG X e (tTg T ws f)) (h2 : PGs X es (tTgs T ws g))
    (hs : (assignEach (e :: es) X.env).map (·.2) = assign e X.env :: (assignEach es X.env).map (·.2) := by rfl) : PGs X (e :: es) (tTgs T ws (gsCons f g)) := PGs.imp (pgs_cons h1 h2 hs) fun xs σ H Q ⟨S0, δ, ds, δ', ok, r, e, q⟩ => by
  cases ds with
  | nil => cases e
  | cons d ds =>
    obtain ⟨δ1, e1, e2⟩ := bind_some1 e
    rw [Reps] at r
    obtain ⟨v, vr, rfl, r1, r2⟩ := r
    exact ⟨v, vr, rfl, S0, δ, d, δ1, ok, r1, e1, fun σ1 H1 a1 ok1 s1 => ⟨S0, δ1, ds, δ', ok1, s1.reps r2, e2, fun σ2 H2 a2 ok2 s2 => q σ2 H2 (a2.trans a1) ok2 (s1.trans s2)⟩⟩
def gT (n : Nat) (g : List D → Es → Option Es) : FG := fun d δ => match d with
  | .tup ds => if ds.length = n then g ds δ else none
  | _ => none
theorem tg_t {es : List Expr} {k n : Nat} {g : List D → Es → Option Es} (hc : X.calm = true) (h : PGs X es (tTgs T ws g)) (hn : (assignEach es X.env).length = n := by rfl) (hst : (assignEach es X.env).findIdx? (·.1) = none := by rfl) :
    PG X (.Tuple es k pos) (tTg T ws (gT n g)) := PG.imp (pg_tup hc h hn hst) fun v σ H Q ⟨S0, δ, d, δ', ok, r, e, q⟩ => by
  cases d <;> first | cases e | skip
  rename_i ds
  change (if ds.length = n then g ds δ else none) = some δ' at e
  by_cases hl : ds.length = n
  case neg => rw [if_neg hl] at e; cases e
  rw [if_pos hl] at e
  rw [Rep] at r
  obtain ⟨a, vs, rfl, ha, _, rs⟩ := r
  exact ⟨a, vs, rfl, SqT.of ha, by rw [rs.length, hl], S0, δ, ds, δ', ok, rs, e, q⟩
/-- an item of a name's own list -/
def gI1 (i : Nat) (fe : FE) : FG := fun d δ => if isOwnL δ[i]? = true then (fe δ).bind fun (j, δ1) => match δ1[i]?, j with
    | some (.own w xs), .int k => if isL w = true then (ixN xs.length k).map fun n => δ1.set i (.own w (xs.set n d)) else none
    | _, _ => none
  else none
theorem tg_i {i : Nat} {e : Expr} {y : Str} {py : Pos} {fe : FE} (he : PE X e (tD T fe)) (hN : X.N[i]? = some y := by rfl) (hv : Vis X.env.scope y := by first | exact Or.inl rfl | exact Or.inr (Or.inl rfl) | exact Or.inr (Or.inr rfl)) (hdy : (y == ("__debug__" : Str)) = false := by decide) (hcd : (y == ("__classdict__" : Str)) = false := by decide)
    (ha : ∀ v, assign (.Subscript (.Name y py) e pos) X.env v = (do
      let ov ← holding [v] (eval (.Name y py) X.env)
      let iv ← holding [v, ov] (eval e X.env)
      standAt pos
      holding [v, ov, iv] (setItem ov iv v)
      release [v, ov, iv] []) := by intro _; rfl) : PG X (.Subscript (.Name y py) e pos) (tTg T ws (gI1 i fe)) := PG.imp (pg_sub (pe_var hN hv hdy hcd) he set_list ha) fun v σ H Q ⟨S0, δ, d, δ', ok, r, e, q⟩ => by
  unfold gI1 at e
  by_cases h0 : isOwnL δ[i]? = true
  case neg => rw [if_neg h0] at e; cases e
  rw [if_pos h0] at e
  obtain ⟨j, δ1, e1, e2⟩ := bind_some2 e
  obtain ⟨w0, xs0, e0, w0L⟩ := ownL_of h0
  obtain ⟨a, us, ea, ha0, _⟩ := ok.ow i w0 xs0 e0
  refine ⟨_, ea, S0, δ, j, δ1, ok, e1, fun vj H1 ok1 s1 r1 => ?_⟩
  dsimp only at e2
  split at e2
  case h_2 => cases e2
  rename_i w xs k hw
  by_cases hp : isL w = true
  case neg => rw [if_neg hp] at e2; cases e2
  rw [if_pos hp] at e2
  obtain ⟨n, e3, e4⟩ := map_some1 e2
  subst e4
  obtain ⟨b, vs, q1, q2, q3, _⟩ := ok1.ow i w xs hw
  rw [ea] at q1; cases q1
  rw [isL_ho hp] at q2
  refine ⟨a, vs, k, n, rfl, rep_int r1, q2, by rw [q3.length]; exact e3, ?_⟩
  have na : Av S0 σ δ1 a := .inr ⟨i, w, xs, hw, ea⟩
  have hk : ∀ b o, H1 b = some o → b ≠ a → upd H1 a (.lst (vs.set n v)) b = some o := fun b o e ne => by rw [upd_ne ne]; exact e
  obtain ⟨ok2, s2⟩ := ok1.change (H' := upd H1 a (.lst (vs.set n v))) (us := vs.set n v) hw ea hk (by rw [isL_ho hp]; exact upd_same) ((Reps.set (s1.rep r) n q3).move (fun b o e n => hk b o e fun z => n (by rw [z]; exact na)) fun b z => .inl z)
  exact q _ _ Agr.refl ok2 (s1.trans s2)

/-! ### stores -/
def sAsg (f : FE) (ft : FG) : FS := fun δ => (f δ).bind fun (d, δ1) => (ft d δ1).map fun δ2 => .nx δ2
theorem st_asg {tg e : Expr} {f : FE} {ft : FG} (he : PE X e (tD T f)) (hg : PG X tg (tTg T ws ft)) (hs : swapsWithSole [tg] e pos.line X.env = pure false := by rfl) (hw : swappedStores [tg] e X.env = pure none := by rfl)
    (h1 : (assignEach [tg] X.env).map (·.2) = [assign tg X.env] := by rfl) : PS X (.Assign [tg] e pos) (tSt T (sAsg f ft)) := PS.imp (ps_asg he hg hs hw h1) fun E σ H ⟨S0, δ, r, ok, e, q⟩ => by
  obtain ⟨d, δ1, e1, e2⟩ := bind_some2 e
  obtain ⟨δ2, e3, e4⟩ := map_some1 e2
  subst e4
  exact ⟨S0, δ, d, δ1, ok, e1, fun v H1 ok1 s1 r1 => ⟨S0, δ1, d, δ2, ok1, r1, e3, fun σ2 H2 _ ok2 s2 => q σ2 H2 ok2 (s1.trans s2)⟩⟩
def sPar (i j : Nat) (fa : FA) : FS := fun δ => (fa δ).bind fun (ds, δ1) => match ds with
  | [a, b] => some (.nx ((δ1.set i (.val a)).set j (.val b)))
  | _ => none
theorem st_par (i j : Nat) {x y : Str} {a b : Expr} {fa : FA} {px py pt : Pos} {kt k2 pt2} (hc : X.calm = true) (hN : X.N.Nodup) (ha : PA X [a, b] (tDs T fa)) (hij : i ≠ j := by decide) (hi : X.N[i]? = some x := by rfl) (hj : X.N[j]? = some y := by rfl)
    (hx : X.env.scope.names.lookup x = some .local := by rfl) (hy : X.env.scope.names.lookup y = some .local := by rfl)
    (hw : swappedStores [.Tuple [.Name x px, .Name y py] kt pt] (.Tuple [a, b] k2 pt2) X.env = pure (some [x, y]) := by rfl)
    (hs : swapsWithSole [.Tuple [.Name x px, .Name y py] kt pt] (.Tuple [a, b] k2 pt2) pos.line X.env = pure false := by rfl) :
    PS X (.Assign [.Tuple [.Name x px, .Name y py] kt pt] (.Tuple [a, b] k2 pt2) pos) (tSt T (sPar i j fa)) := PS.imp (ps_par hc hN hi hj hij hx hy ha hw hs) fun E σ H ⟨S0, δ, r, ok, e, q⟩ => by
  obtain ⟨ds, δ1, e1, e2⟩ := bind_some2 e
  dsimp only at e2
  split at e2
  case h_2 => cases e2
  rename_i da db
  cases e2
  refine ⟨S0, δ, [da, db], δ1, ok, e1, fun vs H1 ok1 s1 r1 => ?_⟩
  rw [Reps] at r1
  obtain ⟨v, vr, rfl, r2, r3⟩ := r1
  rw [Reps] at r3
  obtain ⟨w, wr, rfl, r4, r5⟩ := r3
  rw [Reps] at r5; subst r5
  obtain ⟨ok2, s2⟩ := ok1.store (i := i) r2
  obtain ⟨ok3, s3⟩ := ok2.store (i := j) (s2.rep r4)
  exact ⟨v, w, rfl, q _ H1 ok3 ((s1.trans s2).trans s3)⟩
def sPar3 (i j l : Nat) (fa : FA) : FS := fun δ => (fa δ).bind fun (ds, δ1) => match ds with
  | [a, b, c] => some (.nx (((δ1.set i (.val a)).set j (.val b)).set l (.val c)))
  | _ => none
theorem st_par3 (i j l : Nat) {x y z : Str} {a b c : Expr} {fa : FA} {px py pz pt : Pos} {kt k2 pt2} (hc : X.calm = true) (hN : X.N.Nodup) (ha : PA X [a, b, c] (tDs T fa)) (hij : i ≠ j := by decide) (hil : i ≠ l := by decide) (hjl : j ≠ l := by decide) (hi : X.N[i]? = some x := by rfl) (hj : X.N[j]? = some y := by rfl) (hl : X.N[l]? = some z := by rfl)
    (hx : X.env.scope.names.lookup x = some .local := by rfl) (hy : X.env.scope.names.lookup y = some .local := by rfl) (hz : X.env.scope.names.lookup z = some .local := by rfl)
    (hw : swappedStores [.Tuple [.Name x px, .Name y py, .Name z pz] kt pt] (.Tuple [a, b, c] k2 pt2) X.env = pure (some [x, y, z]) := by rfl)
    (hs : swapsWithSole [.Tuple [.Name x px, .Name y py, .Name z pz] kt pt] (.Tuple [a, b, c] k2 pt2) pos.line X.env = pure false := by rfl) :
    PS X (.Assign [.Tuple [.Name x px, .Name y py, .Name z pz] kt pt] (.Tuple [a, b, c] k2 pt2) pos) (tSt T (sPar3 i j l fa)) := PS.imp (ps_par3 hc hN hi hj hl hij hil hjl hx hy hz ha hw hs) fun E σ H ⟨S0, δ, r, ok, e, q⟩ => by
  obtain ⟨ds, δ1, e1, e2⟩ := bind_some2 e
  dsimp only at e2
  split at e2
  case h_2 => cases e2
  rename_i da db dc
  cases e2
  refine ⟨S0, δ, [da, db, dc], δ1, ok, e1, fun vs H1 ok1 s1 r1 => ?_⟩
  rw [Reps] at r1
  obtain ⟨v, vr, rfl, r2, r3⟩ := r1
  rw [Reps] at r3
  obtain ⟨w, wr, rfl, r4, r5⟩ := r3
  rw [Reps] at r5
  obtain ⟨u, ur, rfl, r6, r7⟩ := r5
  rw [Reps] at r7; subst r7
  obtain ⟨ok2, s2⟩ := ok1.store (i := i) r2
  obtain ⟨ok3, s3⟩ := ok2.store (i := j) (s2.rep r4)
  obtain ⟨ok4, s4⟩ := ok3.store (i := l) ((s2.trans s3).rep r6)
  exact ⟨v, w, u, rfl, q _ H1 ok4 (((s1.trans s2).trans s3).trans s4)⟩
end
end Dl
namespace Dl
open PySem PySem.Spec PyProof.Rows L2
/-! ### what is walked -/
def Runs (T : CT) (J : It) (ds : List D) (H : Hp) (S : Addr → Prop) : Prop := ∀ (S1 : Addr → Prop) (H1 : Hp), (∀ d v, Rep T H S d v → Rep T H1 S1 d v) →
  (∀ i d, ds[i]? = some d → J.go i H1 ∧ ∀ x H2, J.yld i H1 x H2 → H2 = H1 ∧ Rep T H1 S1 d x) ∧ J.stop ds.length H1
def tIt (T : CT) (fI : FA) : TI := fun σ H R => ∃ S0 δ ds δ', Ok T S0 σ δ H ∧ fI δ = some (ds, δ') ∧ ∀ J H', Ok T S0 σ δ' H' → Step σ δ H σ δ' H' → Runs T J ds H' (Av S0 σ δ') → R J H'
section
variable {X : Cx} {T : CT} {pos p : Pos} {tg : Expr}
theorem runs_list {K : PySem.W.Frag} {H : Hp} {S : Addr → Prop} {ds : List D} {a : Addr} (r : Rep T H S (.lst ds) (.ref a)) : Runs T (Itl K a) ds H S := fun S1 H1 k => by
  have r1 := k _ _ r
  rw [Rep] at r1
  obtain ⟨b, vs, e, ha, _, rs⟩ := r1
  cases e
  refine ⟨fun i d hd => ?_, ⟨vs, SqL.of ha, by rw [rs.length]; exact Nat.le_refl _⟩⟩
  obtain ⟨v, hv, rv⟩ := rs.get hd
  refine ⟨⟨vs, v, SqL.of ha, hv⟩, fun x H2 hy => ?_⟩
  obtain ⟨e, hx⟩ := hy
  have := hx vs (SqL.of ha)
  rw [hv] at this; cases this
  exact ⟨e, rv⟩
theorem runs_tup {K : PySem.W.Frag} {H : Hp} {S : Addr → Prop} {ds : List D} {a : Addr} (r : Rep T H S (.tup ds) (.ref a)) : Runs T (Itt K a) ds H S := fun S1 H1 k => by
  have r1 := k _ _ r
  rw [Rep] at r1
  obtain ⟨b, vs, e, ha, _, rs⟩ := r1
  cases e
  refine ⟨fun i d hd => ?_, ⟨vs, SqT.of ha, by rw [rs.length]; exact Nat.le_refl _⟩⟩
  obtain ⟨v, hv, rv⟩ := rs.get hd
  refine ⟨⟨vs, v, SqT.of ha, hv⟩, fun x H2 hy => ?_⟩
  obtain ⟨e, hx⟩ := hy
  have := hx vs (SqT.of ha)
  rw [hv] at this; cases this
  exact ⟨e, rv⟩
def intsD (lo : Int) (n : Nat) : List D := (List.range n).map fun (i : Nat) => .int (lo + i)
theorem runs_range {H : Hp} {S : Addr → Prop} {lo : Int} {n : Nat} : Runs T (Itr lo n) (intsD lo n) H S := fun S1 H1 k => by
  refine ⟨fun i d hd => ?_, by show n ≤ _; simp [intsD]⟩
  unfold intsD at hd
  rw [List.getElem?_map] at hd
  by_cases h : i < n
  · rw [List.getElem?_range h] at hd
    cases hd
    refine ⟨h, fun x H2 hy => ?_⟩
    obtain ⟨e, rfl⟩ := hy
    exact ⟨e, rep_lit rfl⟩
  · rw [List.getElem?_eq_none (by simp; omega)] at hd; cases hd
def fSq (f : FE) : FA := fun δ => (f δ).bind fun (d, δ1) => match d with
  | .lst ds => some (ds, δ1)
  | .tup ds => some (ds, δ1)
  | _ => none
theorem pi_or {e : Expr} {t u : TI} (h : PI X tg e t) (h' : PI X tg e u) : PI X tg e (fun σ H R => t σ H R ∨ u σ H R) := ⟨fun pins s σ H R I q => q.elim (h.run pins s σ H R I) (h'.run pins s σ H R I)⟩
theorem pid_sq {e : Expr} {f : FE} (h : PE X e (tD T f)) : PI X tg e (tIt T (fSq f)) := PI.imp (pi_or (pi_list h) (pi_tup h)) fun σ H R ⟨S0, δ, ds, δ', ok, e, q⟩ => by
  obtain ⟨d, δ1, e1, e2⟩ := bind_some2 e
  cases d <;> first | cases e2 | skip
  · refine .inl ⟨S0, δ, _, δ', ok, e1, fun v H1 ok1 s1 r => ?_⟩
    have r0 := r
    rw [Rep] at r
    obtain ⟨a, vs, rfl, ha, _, rs⟩ := r
    exact ⟨a, rfl, ⟨vs, SqL.of ha⟩, q _ H1 ok1 s1 (runs_list r0)⟩
  · refine .inr ⟨S0, δ, _, δ', ok, e1, fun v H1 ok1 s1 r => ?_⟩
    have r0 := r
    rw [Rep] at r
    obtain ⟨a, vs, rfl, ha, _, rs⟩ := r
    exact ⟨a, rfl, ⟨vs, SqT.of ha⟩, q _ H1 ok1 s1 (runs_tup r0)⟩
def fRg1 (fa : FA) : FA := fun δ => (fa δ).bind fun (ds, δ1) => match ds with
  | [.int j] => if -(2 ^ 62) ≤ j ∧ j < 2 ^ 62 then some (intsD 0 j.toNat, δ1) else none
  | _ => none
theorem pid_rg1 {a : Expr} {fa : FA} (hm : X.mg "range" = none) (ha : PA X [a] (tDs T fa)) (hg : Gl X "range" := by rfl) (hs : starEach [a] X.env = [(false, eval a X.env)] := by rfl) : PI X tg (.Call (.Name "range" p) [a] [] pos) (tIt T (fRg1 fa)) := PI.imp (pi_range1 hg hm ha hs) fun σ H R ⟨S0, δ, ds, δ', ok, e, q⟩ => by
  obtain ⟨d, δ1, e1, e2⟩ := bind_some2 e
  dsimp only at e2
  split at e2
  case h_2 => cases e2
  obtain ⟨⟨h1, h2⟩, e2⟩ := ite_some e2
  cases e2
  refine ⟨S0, δ, _, δ', ok, e1, fun vs H1 ok1 s1 r => ?_⟩
  rw [Reps] at r
  obtain ⟨v, vr, rfl, r1, r2⟩ := r
  rw [Reps] at r2; subst r2
  exact ⟨_, by rw [rep_int r1], h1, h2, q _ H1 ok1 s1 runs_range⟩
def fRg2 (fa : FA) : FA := fun δ => (fa δ).bind fun (ds, δ1) => match ds with
  | [.int i, .int j] => if -(2 ^ 62) ≤ i ∧ i < 2 ^ 62 ∧ -(2 ^ 62) ≤ j ∧ j < 2 ^ 62 then some (intsD i (j - i).toNat, δ1) else none
  | _ => none
theorem pid_rg2 {a b : Expr} {fa : FA} (hm : X.mg "range" = none) (ha : PA X [a, b] (tDs T fa)) (hg : Gl X "range" := by rfl) (hs : starEach [a, b] X.env = [(false, eval a X.env), (false, eval b X.env)] := by rfl) (hs2 : starEach [b] X.env = [(false, eval b X.env)] := by rfl) :
    PI X tg (.Call (.Name "range" p) [a, b] [] pos) (tIt T (fRg2 fa)) := PI.imp (pi_range2 hg hm ha hs hs2) fun σ H R ⟨S0, δ, ds, δ', ok, e, q⟩ => by
  obtain ⟨d, δ1, e1, e2⟩ := bind_some2 e
  dsimp only at e2
  split at e2
  case h_2 => cases e2
  obtain ⟨⟨h1, h2, h3, h4⟩, e2⟩ := ite_some e2
  cases e2
  refine ⟨S0, δ, _, δ', ok, e1, fun vs H1 ok1 s1 r => ?_⟩
  rw [Reps] at r
  obtain ⟨v, vr, rfl, r1, r2⟩ := r
  rw [Reps] at r2
  obtain ⟨w, wr, rfl, r3, r4⟩ := r2
  rw [Reps] at r4; subst r4
  exact ⟨_, _, by rw [rep_int r1, rep_int r3], ⟨h1, h2, h3, h4⟩, q _ H1 ok1 s1 runs_range⟩

/-! ### for -/
def loopF (ft : FG) (g : FS) : List D → Es → Option Fl
  | [], δ => some (.nx δ)
  | d :: ds, δ => (ft d δ).bind fun δ1 => (g δ1).bind fun r => match r with
    | .nx δ2 => loopF ft g ds δ2
    | .ct δ2 => loopF ft g ds δ2
    | .bk δ2 => some (.nx δ2)
    | .rt d δ2 => some (.rt d δ2)
def sFor (fI : FA) (ft : FG) (g : FS) : FS := fun δ => (fI δ).bind fun (ds, δ1) => loopF ft g ds δ1
theorem drop_cons {α : Type} {ds : List α} {i : Nat} (h : i < ds.length) : ds.drop i = ds[i] :: ds.drop (i + 1) := List.drop_eq_getElem_cons h
theorem st_for {iter : Expr} {body : List Stmt} {fI : FA} {ws : List Nat} {ft : FG} {g : FS} (hp : PassesOwn (model X.prog X.w) X.A X.env X.xe) (hc : X.calm = true) (hi : PI X tg iter (tIt T fI)) (hg : PG X tg (tTg T ws ft)) (hb : PSs X body (tSt T g))
    (hs : ∀ x, foldedSetIterable iter X.env x = pure x := by intro _; rfl) : PS X (.For tg iter body [] pos) (tSt T (sFor fI ft g)) := PS.imp (ps_for hp hc hi hg hb hs) fun E σ H ⟨S0, δ, r, ok, e, q⟩ => by
  obtain ⟨ds, δ1, e1, e2⟩ := bind_some2 e
  refine ⟨S0, δ, ds, δ1, ok, e1, fun J H1 ok1 s1 run => ?_⟩
  refine ⟨fun i m σ' H' => m = ds.length - i ∧ i ≤ ds.length ∧ ∃ δi, Ok T S0 σ' δi H' ∧ Step σ δ1 H1 σ' δi H' ∧ loopF ft g (ds.drop i) δi = some r, ⟨ds.length, by simp, Nat.zero_le _, δ1, ok1, Step.refl, e2⟩, ?_⟩
  rintro i m σ' H' ⟨rfl, hle, δi, oki, si, ei⟩
  obtain ⟨r1, r2⟩ := run (Av S0 σ' δi) H' fun d v z => si.rep z
  by_cases hlt : i < ds.length
  · refine .inr ⟨(r1 i _ (List.getElem?_eq_getElem hlt)).1, fun σ2 H2 => ∃ δ2, Ok T S0 σ2 δ2 H2 ∧ Step σ δ1 H1 σ2 δ2 H2 ∧ loopF ft g (ds.drop (i + 1)) δ2 = some r, fun σ2 H2 ⟨δ2, a, b, c⟩ => ⟨ds.length - (i + 1), by omega, rfl, hlt, δ2, a, b, c⟩, fun x H2 hy => ?_⟩
    obtain ⟨rfl, rx⟩ := (r1 i _ (List.getElem?_eq_getElem hlt)).2 x H2 hy
    rw [drop_cons hlt] at ei
    obtain ⟨δa, e3, e4⟩ := bind_some1 ei
    obtain ⟨r', e5, e6⟩ := bind_some1 e4
    refine ⟨S0, δi, _, δa, oki, rx, e3, fun σa Ha _ oka sa => ⟨S0, δa, r', oka, e5, ?_⟩⟩
    cases r' with
    | nx δ2 => exact fun σ3 H3 ok3 s3 => ⟨δ2, ok3, (si.trans sa).trans s3, e6⟩
    | ct δ2 => exact fun σ3 H3 ok3 s3 => ⟨δ2, ok3, (si.trans sa).trans s3, e6⟩
    | bk δ2 => cases e6; exact fun σ3 H3 ok3 s3 => q σ3 H3 ok3 ((s1.trans si).trans (sa.trans s3))
    | rt d δ2 => cases e6; exact fun v σ3 H3 ok3 s3 rv => q v σ3 H3 ok3 ((s1.trans si).trans (sa.trans s3)) rv
  · have hi : i = ds.length := by omega
    subst hi
    rw [List.drop_length] at ei
    cases ei
    exact .inl ⟨r2, q σ' H' oki (s1.trans si)⟩

/-! ### while -/
def whileF (c : FT) (g : FS) : Nat → Es → Option Fl
  | 0, _ => none
  | n + 1, δ => (c δ).bind fun (b, δ1) => if b = true then (g δ1).bind fun r => match r with
    | .nx δ2 => whileF c g n δ2
    | .ct δ2 => whileF c g n δ2
    | .bk δ2 => some (.nx δ2)
    | .rt d δ2 => some (.rt d δ2)
    else some (.nx δ1)
def sWhile (fu : Es → Nat) (c : FT) (g : FS) : FS := fun δ => whileF c g (fu δ) δ
theorem st_while {c : Expr} {body : List Stmt} {fc : FT} {g : FS} (fu : Es → Nat) (hp : PassesOwn (model X.prog X.w) X.A X.env X.xe) (hc : PT X c (tDt T fc)) (hb : PSs X body (tSt T g)) : PS X (.While c body [] pos) (tSt T (sWhile fu fc g)) := PS.imp (ps_while hp hc hb) fun E σ H ⟨S0, δ, r, ok, e, q⟩ => by
  refine ⟨fun m σ' H' => ∃ δi, Ok T S0 σ' δi H' ∧ Step σ δ H σ' δi H' ∧ whileF fc g m δi = some r, ⟨fu δ, δ, ok, Step.refl, e⟩, ?_⟩
  rintro m σ' H' ⟨δi, oki, si, ei⟩
  cases m with
  | zero => cases ei
  | succ m =>
    obtain ⟨b, δ1, e1, e2⟩ := bind_some2 ei
    refine ⟨S0, δi, b, δ1, oki, e1, fun H1 ok1 s1 => ?_⟩
    cases b with
    | false =>
      dsimp only at e2
      rw [if_neg Bool.false_ne_true] at e2 ⊢
      cases e2
      exact q σ' H1 ok1 (si.trans s1)
    | true =>
      dsimp only at e2
      rw [if_pos rfl] at e2 ⊢
      obtain ⟨r', e3, e4⟩ := bind_some1 e2
      refine ⟨fun σ2 H2 => ∃ δ2, Ok T S0 σ2 δ2 H2 ∧ Step σ δ H σ2 δ2 H2 ∧ whileF fc g m δ2 = some r, fun σ2 H2 z => ⟨m, Nat.lt_succ_self m, z⟩, S0, δ1, r', ok1, e3, ?_⟩
      cases r' with
      | nx δ2 => exact fun σ3 H3 ok3 s3 => ⟨δ2, ok3, (si.trans s1).trans s3, e4⟩
      | ct δ2 => exact fun σ3 H3 ok3 s3 => ⟨δ2, ok3, (si.trans s1).trans s3, e4⟩
      | bk δ2 => cases e4; exact fun σ3 H3 ok3 s3 => q σ3 H3 ok3 ((si.trans s1).trans s3)
      | rt d δ2 => cases e4; exact fun v σ3 H3 ok3 s3 rv => q v σ3 H3 ok3 ((si.trans s1).trans s3) rv

/-! ### comprehensions -/
theorem ite_some' {α : Type} {c : Prop} [Decidable c] {a : Option α} {b : α} (h : (if c then a else none) = some b) : c ∧ a = some b := by
  by_cases q : c
  · rw [if_pos q] at h; exact ⟨q, h⟩
  · rw [if_neg q] at h; cases h
def lcF (ft : FG) (fc : FT) (fe : FE) (vs : List Nat) : List D → List D → Es → Option (List D × Es)
  | [], acc, δ => some (acc, δ)
  | d :: ds, acc, δ => (ft d δ).bind fun δ1 => (fc δ1).bind fun (b, δ2) => if b = true then (fe δ2).bind fun (y, δ3) => if acc.length ≤ big then lcF ft fc fe vs ds (acc ++ [y]) (wipeE δ3 vs) else none
    else lcF ft fc fe vs ds acc (wipeE δ2 vs)
def fLc (fI : FA) (ft : FG) (fc : FT) (fe : FE) (vs : List Nat) : FA := fun δ => (fI δ).bind fun (ds, δ1) => lcF ft fc fe vs ds [] (wipeE δ1 vs)
def fYes : FT := fun δ => some (true, δ)
theorem pts_yes : PTs X [] (tDt T fYes) := ⟨fun pins s σ H Q I ⟨S0, δ, d, δ', ok, e, q⟩ => by cases e; exact pts_nil.run pins s σ H Q I (q H ok Step.refl)⟩
theorem lc_reading {fI : FA} {ft : FG} {fc : FT} {fe : FE} {vs : List Nat} {σ : L2.St} {H : Hp} {Q : VK} (h : tF T (fLc fI ft fc fe vs) σ H Q) : tLc (tIt T fI) (tTg T vs ft) (tDt T fc) (tD T fe) vs σ H Q := by
  obtain ⟨S0, δ, res, δ', ok, e, q⟩ := h
  obtain ⟨ds, δ1, e1, e2⟩ := bind_some2 e
  refine ⟨S0, δ, ds, δ1, ok, e1, fun J H1 ok1 s1 run A hA => ?_⟩
  have hS : ¬ S0 A := fun z => by obtain ⟨o, e⟩ := ok1.tr A z; rw [hA] at e; cases e
  obtain ⟨okw, sw⟩ := ok1.wipe vs
  obtain ⟨okd, nd⟩ := okw.apart (D := A) (o := .lst []) hA
  refine ⟨fun i m H' => m = ds.length - i ∧ i ≤ ds.length ∧ ∃ δi outs acc, Ok T (orD S0 A) (L2.wipe σ vs) δi H' ∧ Step σ δ1 H1 (L2.wipe σ vs) δi H' ∧ H' A = some (.lst acc) ∧ Reps T H' (Av (orD S0 A) (L2.wipe σ vs) δi) outs acc ∧ ¬ ownAt (L2.wipe σ vs) δi A ∧
      (∀ i ∈ vs, ∀ s, δi[i]? = some s → s = .un) ∧ lcF ft fc fe vs (ds.drop i) outs δi = some (res, δ'),
    ⟨ds.length, by simp, Nat.zero_le _, wipeE δ1 vs, [], [], okd, sw.poke hA, upd_same, Reps.nil, nd, fun i hi s hs => wipeE_un hi hs, e2⟩, ?_⟩
  rintro i m H' ⟨rfl, hle, δi, outs, acc, oki, si, hAi, ri, ni, ui, ei⟩
  have pers : ∀ d v, Rep T H1 (Av S0 σ δ1) d v → Rep T H' (Av (orD S0 A) (L2.wipe σ vs) δi) d v := fun d v z => z.move (fun b o e n => si.keep b o e fun w => n (.inr w)) fun b w => w.elim (fun w => w.elim (fun w => .inl (.inl w)) fun w => .inr (by rw [w]; exact hA)) fun w => (si.own b w).elim (fun w => .inl (.inr w)) .inr
  obtain ⟨r1, r2⟩ := run _ H' pers
  by_cases hlt : i < ds.length
  · refine .inr ⟨(r1 i _ (List.getElem?_eq_getElem hlt)).1, fun H2 => ∃ δi outs acc, Ok T (orD S0 A) (L2.wipe σ vs) δi H2 ∧ Step σ δ1 H1 (L2.wipe σ vs) δi H2 ∧ H2 A = some (.lst acc) ∧ Reps T H2 (Av (orD S0 A) (L2.wipe σ vs) δi) outs acc ∧ ¬ ownAt (L2.wipe σ vs) δi A ∧
      (∀ i ∈ vs, ∀ s, δi[i]? = some s → s = .un) ∧ lcF ft fc fe vs (ds.drop (i + 1)) outs δi = some (res, δ'), fun H2 z => ⟨ds.length - (i + 1), by omega, rfl, hlt, z⟩, fun x H2 hy => ?_⟩
    obtain ⟨rfl, rx⟩ := (r1 i _ (List.getElem?_eq_getElem hlt)).2 x H2 hy
    rw [drop_cons hlt] at ei
    obtain ⟨δa, e3, e4⟩ := bind_some1 ei
    obtain ⟨b, δb, e5, e6⟩ := bind_some2 e4
    refine ⟨orD S0 A, δi, _, δa, oki, rx, e3, fun σa Ha ag oka sa => ?_⟩
    have hw : L2.wipe σa vs = L2.wipe σ vs := by
      rw [wipe_eq (vs := vs) (σ := L2.wipe σ vs) (σ1 := σa) ag.1 fun j hj => by rw [ag.2 j hj, wipe_get vs (L2.wipe σ vs), if_neg (fun z => hj z.1)]]
      exact wipe_eq (by rw [L2.wipe_length]) fun j _ => rfl
    refine ⟨hw, orD S0 A, δa, b, δb, oka, e5, fun Hb okb sb => ?_⟩
    have nown : ∀ {σx : L2.St} {δx : Es} {Hx : Hp}, Step (L2.wipe σ vs) δi H2 σx δx Hx → ¬ ownAt σx δx A := fun s z => (s.own A z).elim ni fun w => by rw [hAi] at w; cases w
    cases b with
    | false =>
      dsimp only at e6
      show (if _ then _ else _)
      rw [if_neg Bool.false_ne_true] at e6 ⊢
      obtain ⟨okc, sc⟩ := okb.wipe vs
      rw [hw] at okc sc
      have st := (sa.trans sb).trans sc
      exact ⟨_, outs, acc, okc, si.trans st, st.keep A _ hAi ni, st.reps ri, nown st, fun i hi s hs => wipeE_un hi hs, e6⟩
    | true =>
      dsimp only at e6
      show (if _ then _ else _)
      rw [if_pos rfl] at e6 ⊢
      obtain ⟨y, δc, e7, e8⟩ := bind_some2 e6
      obtain ⟨hb, e8⟩ := ite_some' e8
      refine ⟨orD S0 A, δb, y, δc, okb, e7, fun vy Hc okc sc ry => ?_⟩
      obtain ⟨okd, sd⟩ := okc.wipe vs
      rw [hw] at okd sd
      have st := ((sa.trans sb).trans sc).trans sd
      have rs := (st.reps ri).append (Reps.cons (sd.rep ry) Reps.nil)
      have mv : ∀ b u, Hc b = some u → ¬ Av (orD S0 A) (L2.wipe σ vs) (wipeE δc vs) b → upd Hc A (.lst (acc ++ [vy])) b = some u := fun b u e n => by rw [upd_ne (fun z => n (by rw [z]; exact .inl (.inr rfl)))]; exact e
      exact ⟨acc, ((sa.trans sb).trans sc).keep A _ hAi ni, by rw [ri.length]; exact big_line' hb, _, _, _, okd.poke (.inr rfl) (nown st), (si.trans st).poke hA, upd_same, rs.move mv fun b z => .inl z, nown st, fun i hi s hs => wipeE_un hi hs, e8⟩
  · have hi : i = ds.length := by omega
    subst hi
    rw [List.drop_length] at ei
    cases ei
    refine .inl ⟨r2, ?_⟩
    have hl : σ.length = (L2.wipe σ vs).length := by rw [L2.wipe_length]
    have ha : ∀ (i : Nat) s, δ'[i]? = some s → s ≠ .un → σ[i]? = (L2.wipe σ vs)[i]? := fun i s hs ns => by
      rw [wipe_get, if_neg]
      exact fun z => ns (ui i z.1 s hs)
    obtain ⟨ok2, s2⟩ := oki.agree hl ha
    have n2 : ¬ ownAt σ δ' A := fun z => (s2.own A z).elim ni fun w => by rw [hAi] at w; cases w
    obtain ⟨ok3, mv⟩ := ok2.erase hS n2
    have s3 := (s1.trans ((si.trans s2).erase hA))
    have := q A acc (er H' A) ok3 s3 er_self (mv (s2.reps ri))
    rw [upd_er hAi] at this
    exact this
theorem pf_lc {elt iter : Expr} {ifs : List Expr} {scope : Scope} {own : List (Str × Nat)} {fI : FA} {ft : FG} {fc : FT} {fe : FE} (hc : X.calm = true) (hN : X.N.Nodup) (ok : BlkOk X.N X.env.scope scope own) (hi : PI X tg iter (tIt T fI))
    (hg : ∀ (s : Shared) (H : Hp) (C : Addr) (cl : List (Str × Addr)) (fp : List Addr), PG (X.blk s H scope (compEnvC scope cl C X.env) fp) tg (tTg T (own.map (·.2)) ft)) (ht : ∀ (s : Shared) (H : Hp) (C : Addr) (cl : List (Str × Addr)) (fp : List Addr), PTs (X.blk s H scope (compEnvC scope cl C X.env) fp) ifs (tDt T fc))
    (he : ∀ (s : Shared) (H : Hp) (C : Addr) (cl : List (Str × Addr)) (fp : List Addr), PE (X.blk s H scope (compEnvC scope cl C X.env) fp) elt (tD T fe)) (hs : ∀ x, foldedSetIterable iter X.env x = pure x := by intro _; rfl) :
    PE X (.ListComp elt [⟨tg, iter, ifs, 0⟩] scope pos) (tF T (fLc fI ft fc fe (own.map (·.2)))) := PE.imp (pe_lc hc hN hi ok hg ht he hs) fun σ H Q h => lc_reading h
theorem st_lc (i : Nat) {x : Str} {py spos : Pos} {elt iter : Expr} {ifs : List Expr} {scope : Scope} {own : List (Str × Nat)} {fI : FA} {ft : FG} {fc : FT} {fe : FE} (hc : X.calm = true) (hN : X.N.Nodup) (ok : BlkOk X.N X.env.scope scope own) (hi : PI X tg iter (tIt T fI))
    (hg : ∀ (s : Shared) (H : Hp) (C : Addr) (cl : List (Str × Addr)) (fp : List Addr), PG (X.blk s H scope (compEnvC scope cl C X.env) fp) tg (tTg T (own.map (·.2)) ft)) (ht : ∀ (s : Shared) (H : Hp) (C : Addr) (cl : List (Str × Addr)) (fp : List Addr), PTs (X.blk s H scope (compEnvC scope cl C X.env) fp) ifs (tDt T fc))
    (he : ∀ (s : Shared) (H : Hp) (C : Addr) (cl : List (Str × Addr)) (fp : List Addr), PE (X.blk s H scope (compEnvC scope cl C X.env) fp) elt (tD T fe)) (hy : X.N[i]? = some x := by rfl) (hyl : X.env.scope.names.lookup x = some .local := by rfl)
    (hsw : swapsWith (.ListComp elt [⟨tg, iter, ifs, 0⟩] scope pos) (some (.Name x py)) spos.line X.env = pure true := by rfl) (hs : ∀ x, foldedSetIterable iter X.env x = pure x := by intro _; rfl) :
    PS X (.Assign [.Name x py] (.ListComp elt [⟨tg, iter, ifs, 0⟩] scope pos) spos) (tSt T (sOwn i (fLc fI ft fc fe (own.map (·.2))))) := PS.imp (ps_setLc hc hN hy hyl hsw hi ok hg ht he hs) fun E σ H ⟨S0, δ, r, ok, e, q⟩ => by
  obtain ⟨d, δ', e1, e2⟩ := map_some2 e
  subst e2
  refine lc_reading ⟨S0, δ, d, δ', ok, e1, fun a vs H' ok' s ha r => ?_⟩
  obtain ⟨ok2, s2⟩ := ok'.storeOwn (i := i) ha r
  exact q _ _ ok2 (s.trans s2)
end
end Dl
namespace Dl
open PySem PySem.Spec PyProof.Rows L2 ClX
section
variable {X : Cx} {T : CT} {k n c : Nat} {f C : Addr} {fd : FuncData} {ps ks : List Str} {x m : Str} {p pos apos : Pos} {e o : Expr} {es : List Expr} {kws : List Keyword} {fa fk : FA} {fo fe fb : FE} {sp : Sp} {E : XK} {t tk : TA} {g : List Value → List Value → List Value} {gV : List V → List V → List V}
/-! ### items and lengths of what a name holds, be it its own list or a value -/
def fIxN (i : Nat) (fb : FE) : FE := fun δ => if isOwn δ[i]? = true then fIxO i fb δ else fBin gIx (fV i) fb δ
theorem PE.orr {e : Expr} {t u : TE} (h : PE X e t) (h' : PE X e u) : PE X e (fun σ H Q => t σ H Q ∨ u σ H Q) := ⟨fun pins s σ H Q I q => q.elim (h.run pins s σ H Q I) (h'.run pins s σ H Q I)⟩
theorem pd_ixN {i : Nat} {b : Expr} {y : Str} {py : Pos} (hb : PE X b (tD T fb)) (hs : PlainIx b := by exact fun _ _ => rfl) (hN : X.N[i]? = some y := by rfl) (hv : Vis X.env.scope y := by first | exact Or.inl rfl | exact Or.inr (Or.inl rfl) | exact Or.inr (Or.inr rfl))
    (hdy : (y == ("__debug__" : Str)) = false := by decide) (hcd : (y == ("__classdict__" : Str)) = false := by decide) : PE X (.Subscript (.Name y py) b pos) (tD T (fIxN i fb)) :=
  PE.imp (PE.orr (pd_ixO hb hs hN hv hdy hcd) (pd_ix (pd_v i hN hv hdy hcd) hb hs)) fun σ H Q ⟨S0, δ, d, δ', ok, e, q⟩ => by
    unfold fIxN at e
    by_cases h : isOwn δ[i]? = true
    · rw [if_pos h] at e; exact .inl ⟨S0, δ, d, δ', ok, e, q⟩
    · rw [if_neg h] at e; exact .inr ⟨S0, δ, d, δ', ok, e, q⟩
def fLenN (i : Nat) : FE := fun δ => if isOwn δ[i]? = true then fLenO i δ else fFun funLen (fCons (fV i) fNil) δ
theorem pd_lenN {i : Nat} {y : Str} {py : Pos} (hm : X.mg "len" = none) (hN : X.N[i]? = some y := by rfl) (hv : Vis X.env.scope y := by first | exact Or.inl rfl | exact Or.inr (Or.inl rfl) | exact Or.inr (Or.inr rfl)) (hdy : (y == ("__debug__" : Str)) = false := by decide) (hcd : (y == ("__classdict__" : Str)) = false := by decide) (hg : Gl X "len" := by rfl)
    (he : starEach [.Name y py] X.env = (false, eval (.Name y py) X.env) :: starEach [] X.env := by rfl) (hpl : (backTo pos (starEach [] X.env)).any (·.1) = false := by rfl) : PE X (.Call (.Name "len" p) [.Name y py] [] pos) (tD T (fLenN i)) :=
  PE.imp (PE.orr (pd_lenO hm hN hv hdy hcd hg he hpl) (pd_blt call_len_seq callv_len hm PySem.boot_len (pds_cons (pd_v i hN hv hdy hcd) pds_nil he) hg (by decide) (by decide) he hpl)) fun σ H Q ⟨S0, δ, d, δ', ok, e, q⟩ => by
    unfold fLenN at e
    by_cases h : isOwn δ[i]? = true
    · rw [if_pos h] at e; exact .inl ⟨S0, δ, d, δ', ok, e, q⟩
    · rw [if_neg h] at e; exact .inr ⟨S0, δ, d, δ', ok, e, q⟩
/-- divmod -/
def funDivmod : List D → Option D
  | [.int i, .int j] => if okDiv i j = true then some (.tup [.int (i / j), .int (i % j)]) else none
  | _ => none
theorem callv_divmod : CallV T (fun xs H Q => ∃ i j, xs = [.int i, .int j] ∧ CDivP i j ∧ ∀ p, H p = none → Q (.ref p) (upd H p (.tup [.int (i / j), .int (i % j)]))) funDivmod := by
  intro S ds vs H d Q tr r e q
  unfold funDivmod at e
  split at e
  · obtain ⟨h, e⟩ := ite_some e
    subst e
    rename_i i j
    unfold okDiv at h
    simp only [Bool.and_eq_true, decide_eq_true_eq] at h
    refine ⟨i, j, reps_int2 r, ⟨h.1, PyProof.noPylong_of_log2 (Nat.lt_of_lt_of_le (PySem.Flt.log2_lt_of (by decide) h.2) (by decide))⟩, fun p hp => ?_⟩
    have sm : Same H (upd H p (.tup [.int (i / j), .int (i % j)])) := fun b o e => by rw [upd_ne (ne_of_none e hp)]; exact e
    refine q _ _ sm ?_
    rw [Rep]
    exact ⟨p, _, rfl, upd_same, (fun z => by obtain ⟨o, e⟩ := tr p z; rw [hp] at e; cases e), Reps.cons (rep_lit rfl) (Reps.cons (rep_lit rfl) Reps.nil)⟩
  · cases e

/-! ### classmethods, classes as values -/
theorem run_cmG {pins : List (Addr × Obj)} {σ : L2.St} {H : Hp} {s : Shared} {Q : VK} {q h : Addr} {us ws : List Value} {vs zs : List V} (F : FnG X.prog X.w X.K X.mg X.base k h fd ps sp) (hq : Quiet X.A) (hr : Room k X.A) (hb : KBn X.K fd ps (n + 1) ks g gV)
    (I : Inv X ((q, PySem.W.methodObj (.ref h) (.ref C)) :: pins) σ H s) (r : Vals vs us) (rz : Vals zs ws) (l1 : vs.length = n) (l2 : zs.length = ks.length) (hsp : sp (gV (.ref C :: vs) zs) H Q E) : wpAny (model X.prog X.w) X.A (call (.ref q) us (ks.zip ws)) (EP X pins σ Q) X.xe s := by
  have r1 : Vals (V.ref C :: vs) (Value.ref C :: us) := .cons rfl r
  have z : wpAny (model X.prog X.w) X.A (call (.ref q) us (ks.zip ws)) (EP X ((q, PySem.W.methodObj (.ref h) (.ref C)) :: pins) σ Q) X.xe s := by
    refine wpAny_call (PySem.W.method_call (pin_at I) ?_)
    refine codeAny_mono (F.run X.A X.stack s H ⟨.ref C :: us, ks.zip ws⟩ (g (.ref C :: us) ws) (gV (.ref C :: vs) zs) Q E hq hr I.env0 (hb.to s _ ws I.kIn (r1.length.symm.trans (congrArg Nat.succ l1)) (rz.length.symm.trans l2)) (hb.rel r1 rz) hsp) fun z s' hz => ?_
    have e := endG I z s' hz
    match z, e with
    | .ok (.ret _), e => exact e
    | .error _, e => exact e
  exact thn z fun _ _ y => unpinE y
def tCMethN (C : Addr) (n j : Nat) (sp : Sp) (gV : List V → List V → List V) (E : XK) (ta : TE) (t tk : TA) : TE := fun σ H Q => ta σ H fun x H1 => x = .ref C ∧ t σ H1 fun vs H2 => tk σ H2 fun zs H3 => vs.length = n ∧ zs.length = j ∧ sp (gV (.ref C :: vs) zs) H3 Q E
theorem pe_cmethG {pl : Sem Bool} {ta : TE} {mc : Value} {q h : Addr} (ho : PE X o ta) (r : CRead X.K C mc) (cm : CMet X.K C mc m q h) (F : FnG X.prog X.w X.K X.mg X.base k h fd ps sp) (hq : Quiet X.A) (hr : Room k X.A) (hb : KBn X.K fd ps (n + 1) ks g gV) (ha : PA X (e :: es) t) (hkw : PK X kws tk)
    (hall : (backToKw pos (keywordEach kws X.env)).all (·.1.isSome) = true) (hks : (backToKw pos (keywordEach kws X.env)).filterMap (·.1) = ks) (he : starEach (e :: es) X.env = (false, eval e X.env) :: starEach es X.env)
    (hpl : ((backTo pos (starEach (e :: es) X.env)).any (·.1) || (backToKw pos (keywordEach kws X.env)).any (·.1.isNone)) = false)
    (ht : eval (.Call (.Attribute o m apos) (e :: es) kws pos) X.env = (do
      let y ← eval o X.env
      standAt apos.atName
      let (h, first) ← holding [y] (getMethod y m pl)
      callWith pos h first (backTo pos (starEach (e :: es) X.env)) (backToKw pos (keywordEach kws X.env)))) : PE X (.Call (.Attribute o m apos) (e :: es) kws pos) (tCMethN C n ks.length sp gV E ta t tk) := by
  refine ⟨fun pins s σ H Q I hw => ?_⟩
  refine PySem.W.methodCall_KW (pl := pl) (thn (ho.run pins s σ H _ I hw) fun u s1 ⟨x, H1, I1, rx, ex, q1⟩ => ?_) ht
  subst ex
  obtain rfl : u = Value.ref C := rx
  refine getmethcm_ok I1 r cm fun s2 I2 => ?_
  refine PySem.W.callWith_of hpl (PySem.W.keeps_M (K := X.K) (self := .ref C) cm.fi) (PyProof.Rows.evalArgs_kw2 hall (thn (ha.run pos _ s2 σ H1 _ I2 q1) ?_) he)
  rintro us s3 ⟨vs, H2, I3, r3, q3⟩
  refine thn (hkw.run pos _ s3 σ H2 _ I3 q3) ?_
  rintro ws s4 ⟨zs, H3, I4, rz, l1, l2, q4⟩
  refine ⟨⟨pin_at I4, I4.kIn⟩, ?_⟩
  rw [hks]
  exact run_cmG F hq hr hb I4 r3 rz l1 l2 q4
theorem pe_cmethG0 {pl : Sem Bool} {ta : TE} {mc : Value} {q h : Addr} (ho : PE X o ta) (r : CRead X.K C mc) (cm : CMet X.K C mc m q h) (F : FnG X.prog X.w X.K X.mg X.base k h fd ps sp) (hq : Quiet X.A) (hr : Room k X.A) (hb : KBn X.K fd ps (0 + 1) ks g gV) (hkw : PK X kws tk)
    (hall : (backToKw pos (keywordEach kws X.env)).all (·.1.isSome) = true) (hks : (backToKw pos (keywordEach kws X.env)).filterMap (·.1) = ks)
    (hpl : ((backTo pos (starEach [] X.env)).any (·.1) || (backToKw pos (keywordEach kws X.env)).any (·.1.isNone)) = false)
    (ht : eval (.Call (.Attribute o m apos) [] kws pos) X.env = (do
      let y ← eval o X.env
      standAt apos.atName
      let (h, first) ← holding [y] (getMethod y m pl)
      callWith pos h first (backTo pos (starEach [] X.env)) (backToKw pos (keywordEach kws X.env)))) : PE X (.Call (.Attribute o m apos) [] kws pos) (tCMethN C 0 ks.length sp gV E ta tNil tk) := by
  refine ⟨fun pins s σ H Q I hw => ?_⟩
  refine PySem.W.methodCall_KW (pl := pl) (thn (ho.run pins s σ H _ I hw) fun u s1 ⟨x, H1, I1, rx, ex, q1⟩ => ?_) ht
  subst ex
  obtain rfl : u = Value.ref C := rx
  refine getmethcm_ok I1 r cm fun s2 I2 => ?_
  refine PySem.W.callWith_of hpl (PySem.W.keeps_M (K := X.K) (self := .ref C) cm.fi) (PyProof.Rows.evalArgs_kw2_nil hall (thn (hkw.run pos _ s2 σ H1 _ I2 q1) ?_))
  rintro ws s4 ⟨zs, H3, I4, rz, l1, l2, q4⟩
  refine ⟨⟨pin_at I4, I4.kIn⟩, ?_⟩
  rw [hks]
  exact run_cmG (us := []) (vs := []) F hq hr hb I4 .nil rz l1 l2 q4
def fCM (c : Nat) (F : List D → Option D) (gD : List D → List D → List D) (fa fk : FA) : FE := fun δ => (fa δ).bind fun (ds, δ1) => (fk δ1).bind fun (es, δ2) => (F (gD (.cls c :: ds) es)).map fun d => (d, δ2)
theorem cm_imp {ns : List Str} {F : List D → Option D} {gD : List D → List D → List D} {j i : Nat} (hT : T c = some (C, ns)) (hl : LenA fa j) (hk : LenA fk i) (hn : ∀ ds es, ds.length = j + 1 → es.length = i → (gD ds es).length = n)
    (hG : ∀ (T : CT) (H : Hp) (S : Addr → Prop) (ds es : List D) (vs zs : List V), ds.length = j + 1 → es.length = i → Reps T H S ds vs → Reps T H S es zs → Reps T H S (gD ds es) (gV vs zs)) {σ : L2.St} {H : Hp} {Q : VK} (h : tD T (fCM c F gD fa fk) σ H Q) :
    tCMethN C j i (sp0 T n F) gV E (tC (.ref C)) (tDs T fa) (tDs T fk) σ H Q := by
  obtain ⟨S0, δ, d, δ', ok, e, q⟩ := h
  obtain ⟨ds, δ1, e1, e2⟩ := bind_some2 e
  obtain ⟨es, δ2, e3, e4⟩ := bind_some2 e2
  dsimp only at e4
  obtain ⟨d1, e5, e6⟩ := map_some1 e4
  cases e6
  refine ⟨rfl, S0, δ, ds, δ1, ok, e1, fun vs H1 ok1 s1 r1 => ⟨S0, δ1, es, δ', ok1, e3, fun zs H2 ok2 s2 r2 => ?_⟩⟩
  have r1' := s2.reps r1
  have l1 := hl _ _ _ e1
  have l2 := hk _ _ _ e3
  have rc : Rep T H2 (Av S0 σ δ') (.cls c) (.ref C) := by rw [Rep]; exact ⟨C, ns, hT, rfl⟩
  exact ⟨by rw [r1.length, l1], by rw [r2.length, l2], _, gD (.cls c :: ds) es, d, fun b z => ok2.trk z, hn _ _ (by rw [List.length_cons, l1]) l2, hG _ _ _ _ _ _ _ (by rw [List.length_cons, l1]) l2 (Reps.cons rc r1') r2, e5, fun v H' sm r => q v H' (ok2.same sm) ((s1.trans s2).trans (Step.same sm)) r⟩
theorem pd_cm {pl : Sem Bool} {ns : List Str} {F : List D → Option D} {gD : List D → List D → List D} {j : Nat} {mc : Value} {y : Str} {py : Pos} {q h : Addr} (hT : T c = some (C, ns)) (hmC : X.mg y = some (.ref C)) (r : CRead X.K C mc) (cm : CMet X.K C mc m q h) (G : FnG X.prog X.w X.K X.mg X.base k h fd ps (sp0 T n F)) (hq : Quiet X.A) (hr : Room k X.A) (hb : Bnd X.K fd ps (j + 1) ks gD)
    (ha : PA X (e :: es) (tDs T fa)) (hkw : PK X kws (tDs T fk)) (hn : ∀ ds es, ds.length = j + 1 → es.length = ks.length → (gD ds es).length = n := by intro ds es h1 h2; simp [gPos, h1, h2]) (hl : LenA fa j := by repeat (first | exact lenA_nil | refine lenA_cons ?_)) (hlk : LenA fk ks.length := by repeat (first | exact lenA_nil | refine lenA_cons ?_)) (hgl : Gl X y := by rfl) (hdb : (y == ("__debug__" : Str)) = false := by decide)
    (hall : (backToKw pos (keywordEach kws X.env)).all (·.1.isSome) = true := by rfl) (hks : (backToKw pos (keywordEach kws X.env)).filterMap (·.1) = ks := by rfl) (he : starEach (e :: es) X.env = (false, eval e X.env) :: starEach es X.env := by rfl)
    (hpl : ((backTo pos (starEach (e :: es) X.env)).any (·.1) || (backToKw pos (keywordEach kws X.env)).any (·.1.isNone)) = false := by rfl)
    (ht : eval (.Call (.Attribute (.Name y py) m apos) (e :: es) kws pos) X.env = (do
      let y ← eval (.Name y py) X.env
      standAt apos.atName
      let (h, first) ← holding [y] (getMethod y m pl)
      callWith pos h first (backTo pos (starEach (e :: es) X.env)) (backToKw pos (keywordEach kws X.env))) := by rfl) : PE X (.Call (.Attribute (.Name y py) m apos) (e :: es) kws pos) (tD T (fCM c F gD fa fk)) := by
  obtain ⟨g, gV, hb, hG⟩ := hb
  exact PE.imp (pe_cmethG (E := E0) (pe_glob (v := .ref C) hgl hmC rfl hdb) r cm G hq hr hb ha hkw hall hks he hpl ht) fun _ _ _ h => cm_imp hT hl hlk hn hG h
theorem pd_cm0 {pl : Sem Bool} {ns : List Str} {F : List D → Option D} {gD : List D → List D → List D} {mc : Value} {y : Str} {py : Pos} {q h : Addr} (hT : T c = some (C, ns)) (hmC : X.mg y = some (.ref C)) (r : CRead X.K C mc) (cm : CMet X.K C mc m q h) (G : FnG X.prog X.w X.K X.mg X.base k h fd ps (sp0 T n F)) (hq : Quiet X.A) (hr : Room k X.A) (hb : Bnd X.K fd ps (0 + 1) ks gD)
    (hkw : PK X kws (tDs T fk)) (hn : ∀ ds es, ds.length = 0 + 1 → es.length = ks.length → (gD ds es).length = n := by intro ds es h1 h2; simp [gPos, h1, h2]) (hlk : LenA fk ks.length := by repeat (first | exact lenA_nil | refine lenA_cons ?_)) (hgl : Gl X y := by rfl) (hdb : (y == ("__debug__" : Str)) = false := by decide)
    (hall : (backToKw pos (keywordEach kws X.env)).all (·.1.isSome) = true := by rfl) (hks : (backToKw pos (keywordEach kws X.env)).filterMap (·.1) = ks := by rfl)
    (hpl : ((backTo pos (starEach [] X.env)).any (·.1) || (backToKw pos (keywordEach kws X.env)).any (·.1.isNone)) = false := by rfl)
    (ht : eval (.Call (.Attribute (.Name y py) m apos) [] kws pos) X.env = (do
      let y ← eval (.Name y py) X.env
      standAt apos.atName
      let (h, first) ← holding [y] (getMethod y m pl)
      callWith pos h first (backTo pos (starEach [] X.env)) (backToKw pos (keywordEach kws X.env))) := by rfl) : PE X (.Call (.Attribute (.Name y py) m apos) [] kws pos) (tD T (fCM c F gD fNil fk)) := by
  obtain ⟨g, gV, hb, hG⟩ := hb
  refine PE.imp (pe_cmethG0 (E := E0) (pe_glob (v := .ref C) hgl hmC rfl hdb) r cm G hq hr hb hkw hall hks hpl ht) fun σ H Q h => ?_
  obtain ⟨ex, S0, δ, d, δ1, ok, e1, q1⟩ := cm_imp hT lenA_nil hlk hn hG h
  cases e1
  exact ⟨ex, q1 [] H ok Step.refl Reps.nil⟩
end
end Dl
namespace Dl
open PySem PySem.Spec PyProof.Rows L2 ClX
section
variable {X : Cx} {T : CT} {k n c : Nat} {f C : Addr} {fd : FuncData} {ps ks : List Str} {x m : Str} {p pos apos : Pos} {e o : Expr} {es : List Expr} {kws : List Keyword} {fa fk : FA} {fo fe fb : FE} {sp : Sp} {E : XK} {t tk : TA} {g : List Value → List Value → List Value} {gV : List V → List V → List V}
/-! ### a class that a local name holds is called -/
theorem pe_makeL {i : Nat} (M : Mk X.K C f) (F : FnG X.prog X.w X.K X.mg X.base k f fd ps sp) (hq : Quiet X.A) (hr : Room (k + 1) X.A) (hN : X.N[i]? = some x) (hv : Vis X.env.scope x) (hb : KBn X.K fd ps (n + 1) ks g gV) (ha : PA X (e :: es) t) (hkw : PK X kws tk)
    (hall : (backToKw pos (keywordEach kws X.env)).all (·.1.isSome) = true) (hks : (backToKw pos (keywordEach kws X.env)).filterMap (·.1) = ks) (hdb : (x == ("__debug__" : Str)) = false) (hcd : (x == ("__classdict__" : Str)) = false) (he : starEach (e :: es) X.env = (false, eval e X.env) :: starEach es X.env)
    (hpl : ((backTo pos (starEach (e :: es) X.env)).any (·.1) || (backToKw pos (keywordEach kws X.env)).any (·.1.isNone)) = false) : PE X (.Call (.Name x p) (e :: es) kws pos) (fun σ H Q => σ[i]? = some (some (.ref C)) ∧ tMakeN C n ks.length sp gV E t tk σ H Q) := by
  refine ⟨fun pins s σ H Q I h => ?_⟩
  obtain ⟨hs, h⟩ := h
  refine wpAny_Call_Name_kw (thn ((pe_var (pos := p) hN hv hdb hcd).run pins s σ H (fun v H1 => v = .ref C ∧ H1 = H) I ⟨.ref C, hs, rfl, rfl⟩) fun u s1 ⟨v, H1, I1, r1, q1⟩ => ?_)
  obtain ⟨rfl, rfl⟩ := q1
  cases r1
  refine PySem.W.callWith_KW (h₀ := X.base) I.ok.mod.kin M.kp hall (thn (ha.run pos pins s1 σ _ _ I1 h) ?_) hpl he
  rintro us s2 ⟨vs, H2, I2, r, q⟩
  refine thn (hkw.run pos pins s2 σ H2 _ I2 q) ?_
  rintro ws s3 ⟨zs, H3, I3, rz, l1, l2, q2⟩
  refine ⟨I3.kIn, ?_⟩
  rw [hks]
  exact run_makeG M F hq hr hb I3 r rz l1 l2 q2
def fMakeL (i c : Nat) (F : List D → Option (List D)) (gD : List D → List D → List D) (fa fk : FA) : FE := fun δ => match δ[i]? with
  | some (.val (.cls c')) => if c' = c then fMake c F gD fa fk δ else none
  | _ => none
theorem pd_makeL {i : Nat} {ns : List Str} {F : List D → Option (List D)} {gD : List D → List D → List D} {ks : List Str} {kws : List Keyword} {fk : FA} {j : Nat} (hT : T c = some (C, ns)) (M : Mk X.K C f) (G : FnG X.prog X.w X.K X.mg X.base k f fd ps (spI T c n F)) (hq : Quiet X.A) (hr : Room (k + 1) X.A) (hb : BndI X.K fd ps j ks gD)
    (ha : PA X (e :: es) (tDs T fa)) (hkw : PK X kws (tDs T fk)) (hn : ∀ ds es, ds.length = j → es.length = ks.length → (gD ds es).length = n := by intro ds es h1 h2; simp [gPos, h1, h2]) (hl : LenA fa j := by repeat (first | exact lenA_nil | refine lenA_cons ?_)) (hlk : LenA fk ks.length := by repeat (first | exact lenA_nil | refine lenA_cons ?_)) (hN : X.N[i]? = some x := by rfl)
    (hv : Vis X.env.scope x := by first | exact Or.inl rfl | exact Or.inr (Or.inl rfl) | exact Or.inr (Or.inr rfl)) (hall : (backToKw pos (keywordEach kws X.env)).all (·.1.isSome) = true := by rfl) (hks : (backToKw pos (keywordEach kws X.env)).filterMap (·.1) = ks := by rfl) (hdb : (x == ("__debug__" : Str)) = false := by decide) (hcd : (x == ("__classdict__" : Str)) = false := by decide)
    (he : starEach (e :: es) X.env = (false, eval e X.env) :: starEach es X.env := by rfl) (hpl : ((backTo pos (starEach (e :: es) X.env)).any (·.1) || (backToKw pos (keywordEach kws X.env)).any (·.1.isNone)) = false := by rfl) : PE X (.Call (.Name x p) (e :: es) kws pos) (tD T (fMakeL i c F gD fa fk)) := by
  obtain ⟨g, gV, hb, hV, hx, hG⟩ := hb
  refine PE.imp (pe_makeL (i := i) (E := E0) M G hq hr hN hv hb ha hkw hall hks hdb hcd he hpl) fun σ H Q ⟨S0, δ, d, δ', ok, e, q⟩ => ?_
  unfold fMakeL at e
  split at e
  · rename_i c' hc'
    by_cases hcc : c' = c
    · subst hcc
      rw [if_pos rfl] at e
      obtain ⟨v, e1, r⟩ := ok.sl i _ hc'
      rw [Rep] at r
      obtain ⟨C', ns', hT', rfl⟩ := r
      rw [hT] at hT'; cases hT'
      exact ⟨e1, make_imp hT hl hlk hn hx hG ⟨S0, δ, d, δ', ok, e, q⟩⟩
    · rw [if_neg hcc] at e; cases e
  · cases e
/-- one value of several kinds of callee -/
def fOrE (f g : FE) : FE := fun δ => match f δ with
  | some r => some r
  | none => g δ
theorem PE.fOr {e : Expr} {f g : FE} (h : PE X e (tD T f)) (h' : PE X e (tD T g)) : PE X e (tD T (fOrE f g)) := PE.imp (PE.orr h h') fun σ H Q ⟨S0, δ, d, δ', ok, e, q⟩ => by
  unfold fOrE at e
  cases z : f δ with
  | some r => rw [z] at e; cases e; exact .inl ⟨S0, δ, d, δ', ok, z, q⟩
  | none => rw [z] at e; exact .inr ⟨S0, δ, d, δ', ok, e, q⟩
end
/-! ### a promise whose function is what the body's function tells -/
def outD (m : Nat) (g : FS) (ds : List D) : Option D := (g (ini m ds)).bind endD
def outP (m : Nat) (g : FS) (xs ds : List D) : Option (D × List D) := (g (.own .pot xs :: ini (m - 1) ds)).bind endP
section
variable {P : Program} {w : World} {K : PySem.W.Frag} {mg : Str → Option Value} {base : Heap} {T : CT}
theorem ok0' {x qual : Str} {st : Stmt} {f : Addr} {fd : FuncData} {N ps : List Str} {k m n : Nat} {g : FS} (F : Fun K x qual st f fd) (S : FnScope N ps (defScope st)) (hN : N.length = m) (hps : ps.length = n)
    (body : ∀ (cdv : Value) (A : Around) (outer : List PySem.Env) (s : Shared) (H : Hp) (E : XK), Quiet A → Room k (A.deeper (envOfC qual (defScope st) s.heap.objs.size f cdv)) → PSs (cxOf CX0 P w K mg base N qual (defScope st) f cdv A outer s H E).nox (defBody st) (tSt T g)) : FnG P w K mg base (k + 1) f fd ps (sp0 T n (outD m g)) := by
  subst hN hps
  exact ok0 (outD N.length g) F S body fun ds d _ h => by
    unfold outD at h
    obtain ⟨r, e1, e2⟩ := bind_some1 h
    exact ⟨r, e1, e2⟩
theorem ok1' {x qual : Str} {st : Stmt} {f : Addr} {fd : FuncData} {N ps : List Str} {k m n : Nat} {g : FS} (F : Fun K x qual st f fd) (S : FnScope N ps (defScope st)) (hN : N.length = m) (hn : ps.length = n + 1)
    (body : ∀ (cdv : Value) (A : Around) (outer : List PySem.Env) (s : Shared) (H : Hp) (E : XK), Quiet A → Room k (A.deeper (envOfC qual (defScope st) s.heap.objs.size f cdv)) → PSs (cxOf CX0 P w K mg base N qual (defScope st) f cdv A outer s H E).nox (defBody st) (tSt T g)) : FnG P w K mg base (k + 1) f fd ps (sp1 T n (outP m g)) := by
  subst hN
  exact ok1 (outP N.length g) F S hn body fun xs ds d xs' _ h => by
    unfold outP at h
    obtain ⟨r, e1, e2⟩ := bind_some1 h
    exact ⟨r, e1, e2⟩
end
end Dl
namespace Dl
open PySem PySem.Spec PyProof.Rows L2 ClX
/-! ### + of ints, texts, lists; own reflected operators -/
def gAdd0 : D → D → Option D := gOr (gI0 fun i j => .int (i + j)) (gOr gCatS gCatL)
def rAdd0 : R2 := fun x y H Q => (rI0 fun i j => .int (i + j)) x y H Q ∨ ((fun x y H Q => ∃ i j, x = .str i ∧ y = .str j ∧ i.length + j.length ≤ sizeLine ∧ Q (.str (i ++ j)) H) x y H Q ∨ rCat x y H Q)
section
variable {X : Cx} {T : CT} {k : Nat} {f C : Addr} {fd : FuncData} {ps : List Str} {sp : Sp} {E : XK}
theorem op_add0 : OpR X (binaryOp .Add) rAdd0 := OpR.or op_add (OpR.or op_add_str op_cat)
theorem opv_add0 : OpV T rAdd0 gAdd0 := OpV.or opv_add (OpV.or opv_catS opv_catL)
def CDivNW (_ j : Int) : Prop := j ≠ 0 ∧ j.natAbs.log2 < 9000
def okDivN (_ j : Int) : Bool := decide (j ≠ 0) && decide (j.natAbs < 2 ^ 4000)
theorem op_fdivNW : OpR X (binaryOp .FloorDiv) (rI CDivNW fun i j => .int (i.fdiv j)) := opI fun _ _ _ _ _ _ _ hc q => floordiv_int hc.1 q (.inl (PyProof.noPylong_of_log2 hc.2))
theorem opv_fdiv : OpV T (rI CDivNW fun i j => .int (i.fdiv j)) (gI okDivN fun i j => .int (i.fdiv j)) := opv_I (fun i j h => by
  unfold okDivN at h
  simp only [Bool.and_eq_true, decide_eq_true_eq] at h
  exact ⟨h.1, Nat.lt_of_lt_of_le (PySem.Flt.log2_lt_of (by decide) h.2) (by decide)⟩) fun _ _ => rfl
/-- len, of a text too -/
def funLenS : List D → Option D
  | [.str z] => if z.length ≤ big then some (.int z.length) else none
  | _ => none
theorem callv_lenS : CallV T (fun xs H Q => ∃ z, xs = [.str z] ∧ z.length ≤ sizeLine ∧ Q (.int z.length) H) funLenS := by
  intro S ds vs H d Q tr r e q
  unfold funLenS at e
  split at e
  · obtain ⟨h, e⟩ := ite_some e
    subst e
    rw [Reps] at r
    obtain ⟨v, r2, rfl, h1, h2⟩ := r
    rw [Reps] at h2; subst h2
    exact ⟨_, by rw [rep_str h1], big_line h, q _ H (Same.refl _) (rep_lit rfl)⟩
  · cases e
theorem op_radd (w : OwnRev X.K C .Add f "int.__add__" Builtin.«int.__add__») (F : FnG X.prog X.w X.K X.mg X.base k f fd ps sp) (hqt : Quiet X.A) (hr : Room k X.A) (hb : Binds X.K fd ps []) (hn : ps.length = 2) : OpR X (binaryOp .Add) (rOwnR C sp E) :=
  op_ownR w F hqt hr hb hn PySem.F.fills_int_add PySem.F.slot_int_add PySem.F.entry_int_add (fun _ _ => PySem.F.args_int_add_2 _ _) fun b t y dx => OwB.int_add_dec b t y C dx
theorem op_rsub (w : OwnRev X.K C .Sub f "int.__sub__" Builtin.«int.__sub__») (F : FnG X.prog X.w X.K X.mg X.base k f fd ps sp) (hqt : Quiet X.A) (hr : Room k X.A) (hb : Binds X.K fd ps []) (hn : ps.length = 2) : OpR X (binaryOp .Sub) (rOwnR C sp E) :=
  op_ownR w F hqt hr hb hn PySem.F.fills_int_sub PySem.F.slot_int_sub PySem.F.entry_int_sub (fun _ _ => PySem.F.args_int_sub_2 _ _) fun b t y dx => OwB.int_sub_dec b t y C dx
theorem op_rmul (w : OwnRev X.K C .Mult f "int.__mul__" Builtin.«int.__mul__») (F : FnG X.prog X.w X.K X.mg X.base k f fd ps sp) (hqt : Quiet X.A) (hr : Room k X.A) (hb : Binds X.K fd ps []) (hn : ps.length = 2) : OpR X (binaryOp .Mult) (rOwnR C sp E) :=
  op_ownR w F hqt hr hb hn PySem.F.fills_int_mul PySem.F.slot_int_mul PySem.F.entry_int_mul (fun _ _ => PySem.F.args_int_mul_2 _ _) fun b t y dx => OwB.int_mul_dec b t y C dx
end
end Dl
namespace Dl
open PySem PySem.Spec PyProof.Rows L2 ClX
section
variable {X : Cx} {T : CT}
theorem CallR.orr {f : Value} {r r' : List V → Hp → VK → Prop} (h : CallR X f r) (h' : CallR X f r') : CallR X f (fun xs H Q => r xs H Q ∨ r' xs H Q) := by
  intro pins s σ H xs us Q I rr hq
  rcases hq with hq | hq
  · exact h pins s σ H xs us Q I rr hq
  · exact h' pins s σ H xs us Q I rr hq
theorem UnR.orr {f : Value → Sem Value} {r r' : V → Hp → VK → Prop} (h : UnR X f r) (h' : UnR X f r') : UnR X f (fun x H Q => r x H Q ∨ r' x H Q) := by
  intro pins s σ H x v Q I rr hq
  rcases hq with hq | hq
  · exact h pins s σ H x v Q I rr hq
  · exact h' pins s σ H x v Q I rr hq
def uOr (g g' : D → Option D) : D → Option D := fun x => match g x with
  | some d => some d
  | none => g' x
theorem UnV.or {r r' : V → Hp → VK → Prop} {g g' : D → Option D} (h : UnV T r g) (h' : UnV T r' g') : UnV T (fun x H Q => r x H Q ∨ r' x H Q) (uOr g g') := by
  intro S x v H d Q tr rx e q
  unfold uOr at e
  cases z : g x with
  | some d' => rw [z] at e; cases e; exact .inl (h S x v H d Q tr rx z q)
  | none => rw [z] at e; exact .inr (h' S x v H d Q tr rx e q)
end
end Dl
namespace Dl
open PySem PySem.Spec PyProof.Rows L2 ClX
/-! ### the law's script -/
def ScK (K : PySem.W.Frag) (T : CT) : Prop := ∀ a ns, T.sc a ns → ∀ H, SqL K H a (ns.map V.int)
section
variable {X : Cx} {T : CT} {k n c : Nat} {f C : Addr} {fd : FuncData} {ps ks : List Str} {x m : Str} {p pos apos : Pos} {e o : Expr} {es : List Expr} {kws : List Keyword} {fa fk : FA} {fo fe fb : FE}
theorem scr_sql {K : PySem.W.Frag} {H : Hp} {S : Addr → Prop} {ns : List Int} {v : V} (hS : ScK K T) (r : Rep T H S (.scr ns) v) : ∃ a, v = .ref a ∧ SqL K H a (ns.map V.int) := by
  rw [Rep] at r
  obtain ⟨a, e, h | ⟨o, ha, _⟩⟩ := r
  · exact ⟨a, e, hS a ns h H⟩
  · exact ⟨a, e, .inl (.inr ⟨o, ha⟩)⟩
theorem atI_map {α β : Type} (g : α → β) (xs : List α) (i : Int) : atI (xs.map g) i = (atI xs i).map g := by
  unfold atI
  rw [List.length_map]
  cases ixN xs.length i with
  | none => rfl
  | some j => simp
def gIxS : D → D → Option D
  | .scr ns, .int i => (atI ns i).map D.int
  | _, _ => none
theorem opv_ixS {K : PySem.W.Frag} (hS : ScK K T) : OpV T (rIxL K) gIxS := by
  intro S x y vx vy H d Q tr rx ry e q
  unfold gIxS at e
  split at e
  · obtain ⟨j, e1, e2⟩ := map_some1 e
    subst e2
    obtain ⟨a, rfl, h⟩ := scr_sql hS rx
    exact ⟨a, _, _, .int j, rfl, rep_int ry, h, by rw [atI_map, e1]; rfl, q _ H (Same.refl _) (rep_lit rfl)⟩
  · cases e
theorem pd_ixS {a b : Expr} (hS : ScK X.K T) (ha : PE X a (tD T fo)) (hb : PE X b (tD T fb)) (hs : PlainIx b := by exact fun _ _ => rfl) : PE X (.Subscript a b pos) (tD T (fBin gIxS fo fb)) := PE.imp (pe_ix ix_list ha hb hs) fun _ _ _ h => bin_imp (opv_ixS hS) h
def funLenR : List D → Option D
  | [.scr ns] => some (.int ns.length)
  | _ => none
theorem callv_lenR {K : PySem.W.Frag} (hS : ScK K T) : CallV T (fun xs H Q => ∃ p ys, xs = [.ref p] ∧ (SqL K H p ys ∨ SqT K H p ys) ∧ Q (.int ys.length) H) funLenR := by
  intro S ds vs H d Q tr r e q
  unfold funLenR at e
  split at e
  · cases e
    rw [Reps] at r
    obtain ⟨v, r2, rfl, h1, h2⟩ := r
    rw [Reps] at h2; subst h2
    obtain ⟨a, rfl, h⟩ := scr_sql hS h1
    exact ⟨a, _, rfl, .inl h, q _ H (Same.refl _) (rep_lit (by rw [List.length_map]; rfl))⟩
  · cases e

/-! ### a def that returns a new list -/
/-- a body's end: a new list is returned -/
def tSF (T : CT) (f : FA) : TS := fun E σ H => ∃ S0 δ ds δ', Ok T S0 σ δ H ∧ f δ = some (ds, δ') ∧ ∀ a vs σ' H1, Ok T S0 σ' δ' H1 → Step σ δ H σ' δ' H1 → H1 a = none → Reps T H1 (Av S0 σ' δ') ds vs → E.rt (.ref a) (upd H1 a (.lst vs))
theorem sts_retF {f : FA} (h : PE X e (tF T f)) : PSs X [.Return (some e) pos] (tSF T f) := PSs.imp (pss_one (ps_ret h)) fun E σ H ⟨S0, δ, ds, δ', ok, e, q⟩ => ⟨S0, δ, ds, δ', ok, e, fun a vs H1 ok1 s1 ha r => q a vs σ H1 ok1 s1 ha r⟩
def sSeqF (g : FS) (f : FA) : FA := fun δ => (g δ).bind fun r => match r with
  | .nx δ1 => f δ1
  | _ => none
theorem sts_consF {st : Stmt} {rest : List Stmt} {g : FS} {f : FA} (h1 : PS X st (tSt T g)) (h2 : PSs X rest (tSF T f)) : PSs X (st :: rest) (tSF T (sSeqF g f)) := PSs.imp (pss_cons h1 h2) fun E σ H ⟨S0, δ, ds, δ', ok, e, q⟩ => by
  obtain ⟨r, e1, e2⟩ := bind_some1 e
  refine ⟨S0, δ, r, ok, e1, ?_⟩
  cases r with
  | nx δ1 => exact fun σ1 H1 ok1 s1 => ⟨S0, δ1, ds, δ', ok1, e2, fun a vs σ' H2 ok2 s2 ha r => q a vs σ' H2 ok2 (s1.trans s2) ha r⟩
  | bk δ1 => cases e2
  | ct δ1 => cases e2
  | rt d δ1 => cases e2
def spF (T : CT) (n : Nat) (F : List D → Option (List D)) : Sp := fun vs H Q _ => ∃ S ds xs, (∀ b, S b → ∃ o, H b = some o) ∧ ds.length = n ∧ Reps T H S ds vs ∧ F ds = some xs ∧ ∀ a us H1, Same H H1 → H1 a = none → Reps T H1 S xs us → Q (.ref a) (upd H1 a (.lst us))
def outF (m : Nat) (g : FA) (ds : List D) : Option (List D) := (g (ini m ds)).map (·.1)
def fCallF (F : List D → Option (List D)) (fa : FA) : FA := fun δ => (fa δ).bind fun (ds, δ1) => (F ds).map fun xs => (xs, δ1)
theorem pf_call {F : List D → Option (List D)} (G : FnG X.prog X.w X.K X.mg X.base k f fd ps (spF T n F)) (hq : Quiet X.A) (hr : Room k X.A) (hm : X.mg x = some (.ref f)) (hk : PySem.W.keepIn X.K (.ref f) = true) (hb : Binds X.K fd ps []) (hps : ps.length = n)
    (ha : PA X (e :: es) (tDs T fa)) (hl : LenA fa n := by repeat (first | exact lenA_nil | refine lenA_cons ?_)) (hg : Gl X x := by rfl) (hdb : (x == ("__debug__" : Str)) = false := by decide) (he : starEach (e :: es) X.env = (false, eval e X.env) :: starEach es X.env := by rfl)
    (hpl : ((backTo pos (starEach (e :: es) X.env)).any (·.1) || (backToKw pos (keywordEach [] X.env)).any (·.1.isNone)) = false := by rfl) : PE X (.Call (.Name x p) (e :: es) [] pos) (tF T (fCallF F fa)) := PE.imp (pe_callG (E := E0) G hq hr hm hk (kbn_pos hb hps) ha pk_nil hg rfl rfl hdb he hpl) fun σ H Q ⟨S0, δ, xs, δ', ok, e, q⟩ => by
  obtain ⟨ds, δ1, e1, e2⟩ := bind_some2 e
  obtain ⟨xs', e3, e4⟩ := map_some1 e2
  cases e4
  refine ⟨S0, δ, ds, δ', ok, e1, fun vs H1 ok1 s1 r1 => ?_⟩
  have l1 := hl _ _ _ e1
  exact ⟨by rw [r1.length, l1], rfl, Av S0 σ δ', ds, xs, fun b z => ok1.trk z, l1, r1, e3, fun a us H2 sm ha rs => q a us H2 (ok1.same sm) (s1.trans (Step.same sm)) ha rs⟩
end
section
variable {P : Program} {w : World} {K : PySem.W.Frag} {mg : Str → Option Value} {base : Heap} {T : CT}
theorem okF {x qual : Str} {st : Stmt} {f : Addr} {fd : FuncData} {N ps : List Str} {k m n : Nat} {g : FA} (F : Fun K x qual st f fd) (S : FnScope N ps (defScope st)) (hN : N.length = m) (hps : ps.length = n)
    (body : ∀ (cdv : Value) (A : Around) (outer : List PySem.Env) (s : Shared) (H : Hp) (E : XK), Quiet A → Room k (A.deeper (envOfC qual (defScope st) s.heap.objs.size f cdv)) → PSs (cxOf CX0 P w K mg base N qual (defScope st) f cdv A outer s H E).nox (defBody st) (tSF T g)) : FnG P w K mg base (k + 1) f fd ps (spF T n (outF m g)) := by
  subst hN hps
  obtain ⟨oc, od, kV, doc, pm, an, cdv, ct, osl, rfl, lk, hcd⟩ := F.ex
  refine fnG_of lk hcd S (fun vs H Q E h => ?_) (fun A outer s H vs Q E hq hr h => ?_)
  · obtain ⟨S, ds, d, _, hl, r, _⟩ := h
    rw [r.length, hl]
  · obtain ⟨S, ds, xs, tr, hl, r, eG, q⟩ := h
    unfold outF at eG
    obtain ⟨z, e1, e2⟩ := map_some1 eG
    obtain ⟨ys, δ'⟩ := z
    cases e2
    refine ⟨_, body cdv A outer s H E hq hr, S, ini N.length ds, _, δ', ini_ok tr r, e1, fun a us σ' H1 ok1 s1 ha rs => ?_⟩
    exact q a us H1 (fun b o e => s1.keep b o e (ini_own b)) ha (rs.sub fun b z => .inl z)

/-! ### the head: the law's promise at the heap behind the top -/
/-- the lists of ints that K has -/
def scOf (K : PySem.W.Frag) : Addr → List Int → Prop := fun a ns => ∀ H, SqL K H a (ns.map V.int)
/-- at most one address is tracked, and K has nothing there -/
def Lone (K : PySem.W.Frag) (H : Hp) (l : Addr) : Prop := ∀ c u, H c = some u → c = l ∧ K.lookup l = none
/-- the state behind the top, seen with the script alone in the tracked heap -/
theorem head_env {t : Shared} {bm : Str → Option Value} {H : Hp} {l : Addr} {ob : Obj} (one : Lone K H l) (hob : t.heap.get? l = some ob) (nd : ∀ es ep, ob.data ≠ .dict es ep) (kin : K.In t.heap) (gl : t.heap.Ns mainGlobals mg) (bl : t.heap.Ns builtinsNs bm)
    (bb : ∀ y : Str, y ≠ "__name__" → bm y = bootBuiltins y) (nl : t.heap.NoLimit) (gn : t.gens = #[]) (ok : HOk P w H t.heap) :
    K.In (hidT t.heap H) ∧ (hidT t.heap H).Ns mainGlobals mg ∧ Env0 P w K mg (hidT t.heap H) callerA [] t H := by
  have free : ∀ {c : Addr}, (c = l → K.lookup l = none → False) → H c = none := fun {c} no => by
    cases hc : H c with
    | none => rfl
    | some u => exact (no (one c u hc).1 (one c u hc).2).elim
  have keepNs : ∀ {c : Addr} {mm : Str → Option Value}, t.heap.Ns c mm → (hidT t.heap H).Ns c mm := by
    rintro c mm ⟨od, es, ep, h1, h2, h3⟩
    refine ⟨od, es, ep, hidT_get h1 (free fun z _ => ?_), h2, h3⟩
    rw [z, hob] at h1
    cases h1
    exact nd _ _ h2
  have kin' : K.In (hidT t.heap H) := fun c od hc => hidT_get (kin c od hc) (free fun z1 z2 => by rw [z1, z2] at hc; cases hc)
  obtain ⟨lm, n1, n2⟩ := nl
  refine ⟨kin', keepNs gl, rfl, ⟨kin', keepNs gl, ⟨bm, keepNs bl, bb⟩, lm, keepNs n1, n2⟩, fun c od hc => of_hidT hc, Nat.le_of_eq (hidT_size _ _), trivial, ?_, ok, .of_eq gn⟩
  intro c hc
  cases hc
/-- the law's call at the heap behind the top: where its function tells True, it returns True and leaves what stood as it stood -/
theorem law_callG {fa a : Addr} {fd : FuncData} {x : Str} {k : Nat} {G : List D → Option D} {bm : Str → Option Value} {t : Shared} {us : List Value} {ns : List Int} (hT : T.sc = scOf K) (kin : K.In t.heap) (gl : t.heap.Ns mainGlobals mg) (bl : t.heap.Ns builtinsNs bm)
    (bb : ∀ y : Str, y ≠ "__name__" → bm y = bootBuiltins y) (nl : t.heap.NoLimit) (gn : t.gens = #[]) (hob : t.heap.get? a = some { cls := .type "list", data := .seq us.toArray }) (hi : IntsAre us ns) (hl : ns.length ≤ sizeLine) (hr : Room k callerA) (hqc : Quiet callerA)
    (F : ∀ base : Heap, K.In base → base.Ns mainGlobals mg → FnG P w K mg base k fa fd [x] (sp0 T 1 G)) (hbind : ∀ (s : Shared) (u : Value), BindsTo s fd ⟨[u], []⟩ [(x, u)]) (hG : G [.scr ns] = some (.bl true)) :
    codeAny (model P w) callerA (.call (.ref fa) ⟨[.ref a], []⟩) (fun r t' => r = .ok (.ret (.bool true)) ∧ OldK t.heap t'.heap ∧ t'.os = t.os ∧ AllBare t'.gens) t := by
  have vis := vals_ints hi
  have nlen := hi.length
  -- whatever is tracked: nothing, or the script's list as it stands
  have go : ∀ H : Hp, (∀ c u, H c = some u → u = .frz { cls := .type "list", data := .seq us.toArray } (.lst (ns.map V.int))) → Lone K H a → Rep T H (fun _ => False) (.scr ns) (.ref a) →
      codeAny (model P w) callerA (.call (.ref fa) ⟨[.ref a], []⟩) (fun r t' => r = .ok (.ret (.bool true)) ∧ OldK t.heap t'.heap ∧ t'.os = t.os ∧ AllBare t'.gens) t := fun H what one rs => by
    have ok : HOk P w H t.heap := fun c u hc => by
      rw [what c u hc, (one c u hc).1]
      exact ⟨hob, by simpa using hl, us, _, vis, hob⟩
    obtain ⟨k1, k2, env⟩ := head_env (P := P) (w := w) one hob (fun _ _ z => nomatch z) kin gl bl bb nl gn ok
    have told : sp0 T 1 G [.ref a] H (fun v _ => v = .bl true) E0 := ⟨_, [.scr ns], _, fun _ z => z.elim, rfl, Reps.cons rs Reps.nil, hG, fun _ _ _ r => rep_bl r⟩
    have run := (F _ k1 k2).run callerA [] t H ⟨[.ref a], []⟩ [.ref a] [.ref a] _ _ hqc hr env (hbind t _) (.cons rfl .nil) told
    refine codeAny_mono run fun r t' e => ?_
    match r, e with
    | .ok (.ret y), ⟨v, H', os, bare, un, ok', ry, hv⟩ =>
      cases hv
      cases (show y = Value.bool true from ry)
      refine ⟨rfl, .of_keep fun c od hc => ?_, os, bare⟩
      cases hH : H c with
      | none => exact un.keep c od hc hH (fun z => by cases z) (fun z => by cases z)
      | some u =>
        have e1 := what c u hH
        subst e1
        have o1 : t.heap.get? c = some _ := (ok c _ hH).1
        have o2 : t'.heap.get? c = some _ := (ok' c _ (un.frzs c _ _ hH)).1
        rw [o1] at hc
        cases hc
        exact o2
    | .ok .next, e => exact (e : False).elim
    | .ok .brk, e => exact (e : False).elim
    | .ok .cont, e => exact (e : False).elim
    | .error _, e => exact (e : False).elim
  by_cases own : K.lookup a = none
  · refine go (fun c => if c = a then some (.frz { cls := .type "list", data := .seq us.toArray } (.lst (ns.map V.int))) else none) (fun c u hc => ?_) (fun c u hc => ?_) ?_
    · try dsimp only at hc
      split at hc
      · exact (Option.some.inj hc).symm
      · cases hc
    · try dsimp only at hc
      split at hc
      · exact ⟨by assumption, own⟩
      · cases hc
    · rw [Rep]
      exact ⟨a, rfl, .inr ⟨_, if_pos rfl, id⟩⟩
  · obtain ⟨od, hod⟩ := Option.ne_none_iff_exists'.mp own
    have same := kin a od hod
    rw [hob] at same
    cases same
    refine go (fun _ => none) (fun _ _ z => nomatch z) (fun _ _ z => nomatch z) ?_
    rw [Rep, hT]
    exact ⟨a, rfl, .inl fun H => .inr ⟨_, us.toArray, _, hod, rfl, rfl, rfl, by rw [List.size_toArray, nlen]; exact hl, by simpa using vis⟩⟩
end
theorem walk_G {l : PySem.W.OpenLaw} {n k : Nat} {q : Program} {loose : List Str} {XP : (Str → Option Value) → Heap → Prop} {YP : World → Heap → Prop} {d : DefRec} {K : Params → PySem.W.Frag} {G : List D → Option D} {x : Str}
    (hn : l.most = some n) (hn2 : n ≤ sizeLine) (hdf : d.params.defaults = []) (hr : Room k callerA) (hqc : Quiet callerA)
    (hY : ∀ (w : World) (h : Heap), YP w h → (K w.params).In h)
    (F : ∀ (w : World) (mg : Str → Option Value) (fa : Addr) (h : Heap), (K w.params).In h → h.Ns mainGlobals mg → mg d.name = some (.ref fa) →
      ∃ (fd : FuncData) (T : CT), T.sc = scOf (K w.params) ∧ (∀ (s : Shared) (u : Value), BindsTo s fd ⟨[u], []⟩ [(x, u)]) ∧
        ∀ base : Heap, (K w.params).In base → base.Ns mainGlobals mg → FnG l.prog w (K w.params) mg base k fa fd [x] (sp0 T 1 G))
    (hG : ∀ ns : List Int, ns.length ≤ n → G [.scr ns] = some (.bl true)) :
    PySem.W.WalkO q loose XP YP l.row.toRowW d [] (fun f vs => PySem.call f vs) := by
  refine Att.attach_call hn hdf fun w s₀ s₁ mg mb fa o pm cd doc a vs ns G Y ho hd hcd hmg hobj hints hlen hg => ?_
  have KX := hY w _ Y
  obtain ⟨fd, T, hT, hb, hF⟩ := F w mg fa _ KX G.T.g hmg
  exact law_callG hT KX G.T.g G.T.b G.T.builtins G.T.nolimit hg hobj hints (Nat.le_trans hlen hn2) hr hqc hF hb (hG ns hlen)
end Dl
namespace Dl
open PySem PySem.Spec PyProof.Rows L2 ClX
section
variable {K : PySem.W.Frag} {x qual : Str} {params : Arguments} {body : List Stmt} {scope : Scope} {dvs : List V} {f : Addr} {fd : FuncData} {ps : List Str}
/-- an __init__ with defaults, n values and keywords that follow in the parameters' order given; the defaults behind the first j fill up -/
theorem bndI_of (F : FunD K x qual params body scope dvs [] f fd) (n j : Nat) (ks : List Str) (dd : List D) (hd : dvs ≠ []) (hl : Lits dd (dvs.drop j))
    (h : ∀ (T : Addr) (kV doc pm : Value) (an : Option Addr) (cdv ct : Value) (us its ws : List Value), us.length = n + 1 → its.length = dvs.length → ws.length = ks.length →
      ∃ k, bindArgs (PySem.W.fnOf x qual params body scope (.ref T) kV doc pm an cdv ct) ⟨us, ks.zip ws⟩ = seqItems? (.ref T) >>= k ∧ k (some its.toArray) = pure (ps.zip (us ++ ws ++ its.drop j))) : BndI K fd ps n ks (gPos dd) := by
  have rel : ∀ {vs ds zs : List V} {us its ws : List Value}, Vals vs us → Vals ds its → Vals zs ws → Vals (vs ++ zs ++ ds.drop j) (us ++ ws ++ its.drop j) := fun {vs ds zs us its ws} r1 r2 r3 => (r1.append r3).append (by
    clear h hl
    induction j generalizing ds its with
    | zero => exact r2
    | succ j ih => cases r2 with
      | nil => exact .nil
      | cons a b => exact ih b)
  obtain ⟨its, hk⟩ := F.kbindsD (ps := ps) (n + 1) ks (fun {α} us its ws => us ++ ws ++ its.drop j) hd rel h
  exact ⟨_, _, hk, fun vs zs => vs ++ zs ++ dvs.drop j, fun a vs zs _ _ => rfl, fun T H S ds es vs zs _ _ r1 r2 => (r1.append r2).append (hl T H S)⟩
theorem funD_mk {oc : Value} {od an : Option Addr} {osl : Array (Option Value)} {dA : Addr} {o : Obj} {its : List Value} {m : Nat} {kV doc pm cdv ct : Value} (l : K.lookup f = some ⟨oc, od, .func (PySem.W.fnOf x qual params body scope (.ref dA) kV doc pm an cdv ct), osl⟩)
    (c : PySem.W.codeIn K cdv qual = true) (k : PySem.W.keepIn K (.ref f) = true) (hd : dvs ≠ []) (lt : K.lookup dA = some o) (ot : o.data = .seq its.toArray m) (rt : Vals dvs its) : FunD K x qual params body scope dvs [] f (PySem.W.fnOf x qual params body scope (.ref dA) kV doc pm an cdv ct) :=
  ⟨⟨oc, od, .ref dA, kV, doc, pm, an, cdv, ct, osl, rfl, l, c, .inr ⟨hd, dA, o, its, m, rfl, lt, ot, rt⟩, .inl rfl⟩, k⟩
theorem kit_obj {C : Addr} {b : String} {r : Bool} (h : PySem.W.subIn K (.ref C) (.type b) = some r) (m : PySem.W.kitMeta b = true) : PySem.W.kitOne K (.ref C) (.type b) = some r := by
  unfold PySem.W.kitOne PySem.W.kitCls
  rw [if_neg (by simp)]
  show (if PySem.W.kitMeta b = true then _ else _) = _
  rw [if_pos m]
  exact h
theorem kit_own {C : Addr} {a : String} {r : Bool} (hc : PySem.W.isClsIn K C = true) (ht : PySem.W.typeIn K (.ref C) = some (.type "type")) (h : PySem.W.subIn K (.type a) (.ref C) = some r) : PySem.W.kitOne K (.type a) (.ref C) = some r := by
  unfold PySem.W.kitOne PySem.W.kitCls
  have e : (PySem.W.clsIn K C).isSome = true := hc
  rw [if_neg (by simp)]
  show (if ((PySem.W.clsIn K C).isSome && PySem.W.typeIn K (.ref C) == some (.type "type")) = true then _ else _) = _
  rw [if_pos (by rw [e, ht]; simp)]
  exact h
theorem kit_self {C : Addr} : PySem.W.kitOne K (.ref C) (.ref C) = some true := by
  unfold PySem.W.kitOne
  rw [if_pos (by simp)]
end
section
variable {X : Cx} {T : CT} {pos : Pos}
/-- three names, the third gets a new list of its own -/
def sPar3F (i j l : Nat) (fa fb : FE) (fc : FA) : FS := fun δ => (fa δ).bind fun (x, δ1) => (fb δ1).bind fun (y, δ2) => (fc δ2).bind fun (zs, δ3) => some (.nx (((δ3.set i (.val x)).set j (.val y)).set l (.own .mine zs)))
theorem st_par3F (i j l : Nat) {x y z : Str} {a b c : Expr} {fa fb : FE} {fc : FA} {px py pz pt : Pos} {kt k2 pt2} (hc : X.calm = true) (hN : X.N.Nodup) (ha : PE X a (tD T fa)) (hb : PE X b (tD T fb)) (hf : PE X c (tF T fc)) (hij : i ≠ j := by decide) (hil : i ≠ l := by decide) (hjl : j ≠ l := by decide)
    (hi : X.N[i]? = some x := by rfl) (hj : X.N[j]? = some y := by rfl) (hl : X.N[l]? = some z := by rfl) (hx : X.env.scope.names.lookup x = some .local := by rfl) (hy : X.env.scope.names.lookup y = some .local := by rfl) (hz : X.env.scope.names.lookup z = some .local := by rfl)
    (h1 : starEach [a, b, c] X.env = (false, eval a X.env) :: starEach [b, c] X.env := by rfl) (h2 : starEach [b, c] X.env = (false, eval b X.env) :: starEach [c] X.env := by rfl) (h3 : starEach [c] X.env = (false, eval c X.env) :: starEach [] X.env := by rfl)
    (hw : swappedStores [.Tuple [.Name x px, .Name y py, .Name z pz] kt pt] (.Tuple [a, b, c] k2 pt2) X.env = pure (some [x, y, z]) := by rfl) (hs : swapsWithSole [.Tuple [.Name x px, .Name y py, .Name z pz] kt pt] (.Tuple [a, b, c] k2 pt2) pos.line X.env = pure false := by rfl) :
    PS X (.Assign [.Tuple [.Name x px, .Name y py, .Name z pz] kt pt] (.Tuple [a, b, c] k2 pt2) pos) (tSt T (sPar3F i j l fa fb fc)) := PS.imp (ps_par3 hc hN hi hj hl hij hil hjl hx hy hz (pa_cons ha (pa_cons hb (pa_cons hf pa_nil h3) h2) h1) hw hs) fun E σ H ⟨S0, δ, r, ok, e, q⟩ => by
  obtain ⟨dx, δ1, e1, e2⟩ := bind_some2 e
  obtain ⟨dy, δ2, e3, e4⟩ := bind_some2 e2
  obtain ⟨zs, δ3, e5, e6⟩ := bind_some2 e4
  cases e6
  refine ⟨S0, δ, dx, δ1, ok, e1, fun u H1 ok1 s1 r1 => ⟨S0, δ1, dy, δ2, ok1, e3, fun v H2 ok2 s2 r2 => ⟨S0, δ2, zs, δ3, ok2, e5, fun p vs H3 ok3 s3 hp r3 => ?_⟩⟩⟩
  have r1' := (s2.trans s3).rep r1
  have r2' := s3.rep r2
  obtain ⟨ok4, s4⟩ := ok3.store (i := i) r1'
  obtain ⟨ok5, s5⟩ := ok4.store (i := j) (s4.rep r2')
  obtain ⟨ok6, s6⟩ := ok5.storeOwn (i := l) hp ((s4.trans s5).reps r3)
  exact ⟨u, v, .ref p, rfl, q _ _ ok6 ((((s1.trans s2).trans s3).trans (s4.trans s5)).trans s6)⟩
end
end Dl
namespace My
def cof (t b : Int) : Int := if b < 0 then -(Int.gcd t b : Int) else (Int.gcd t b : Int)
def nrm (t b : Int) : Int × Int := (t.fdiv (cof t b), b.fdiv (cof t b))
structure IsN (t b p q : Int) : Prop where
  pos : 0 < q
  one : Int.gcd p q = 1
  eq : p * b = t * q
theorem cof_ne {t b : Int} (h : b ≠ 0) : cof t b ≠ 0 := by
  have : 0 < Int.gcd t b := Int.gcd_pos_of_ne_zero_right _ h
  unfold cof
  split <;> omega
theorem cof_dvd {t b : Int} : cof t b ∣ t ∧ cof t b ∣ b := by
  unfold cof
  split
  · exact ⟨Int.neg_dvd.mpr (Int.gcd_dvd_left ..), Int.neg_dvd.mpr (Int.gcd_dvd_right ..)⟩
  · exact ⟨Int.gcd_dvd_left .., Int.gcd_dvd_right ..⟩
theorem nrm_is {t b : Int} (h : b ≠ 0) : IsN t b (nrm t b).1 (nrm t b).2 := by
  obtain ⟨⟨p, hp⟩, ⟨q, hq⟩⟩ := @cof_dvd t b
  have hc := @cof_ne t b h
  have e1 : (nrm t b).1 = p := by
    show t.fdiv (cof t b) = p
    conv => lhs; arg 1; rw [hp]
    exact Int.mul_fdiv_cancel_left p hc
  have e2 : (nrm t b).2 = q := by
    show b.fdiv (cof t b) = q
    conv => lhs; arg 1; rw [hq]
    exact Int.mul_fdiv_cancel_left q hc
  rw [e1, e2]
  have hg : 0 < Int.gcd t b := Int.gcd_pos_of_ne_zero_right _ h
  have habs : (cof t b).natAbs = Int.gcd t b := by
    unfold cof
    split <;> simp
  refine ⟨?_, ?_, ?_⟩
  · have : b = cof t b * q := hq
    by_cases hb : b < 0
    · have hc' : cof t b < 0 := by unfold cof; rw [if_pos hb]; omega
      rcases Int.lt_trichotomy q 0 with hq' | hq' | hq'
      · have := Int.mul_pos_of_neg_of_neg hc' hq'; omega
      · subst hq'; omega
      · exact hq'
    · have hc' : 0 < cof t b := by unfold cof; rw [if_neg hb]; omega
      rcases Int.lt_trichotomy q 0 with hq' | hq' | hq'
      · have := Int.mul_neg_of_pos_of_neg hc' hq'; omega
      · subst hq'; omega
      · exact hq'
  · have e : Int.gcd (cof t b * p) (cof t b * q) = (cof t b).natAbs * Int.gcd p q := Int.gcd_mul_left ..
    rw [← hp, ← hq, habs] at e
    have : Int.gcd t b * Int.gcd p q = Int.gcd t b * 1 := by omega
    exact Nat.eq_of_mul_eq_mul_left hg this
  · calc p * b = p * (cof t b * q) := by rw [← hq]
      _ = (cof t b * p) * q := by rw [← Int.mul_assoc, Int.mul_comm p]
      _ = t * q := by rw [← hp]
theorem dvd_co {q a b : Int} (h : q ∣ a * b) (c : Int.gcd q a = 1) : q ∣ b := by
  rw [← Int.natAbs_dvd_natAbs] at h ⊢
  rw [Int.natAbs_mul] at h
  exact Nat.Coprime.dvd_of_dvd_mul_left c h
theorem isN_unique {t b p q p' q' : Int} (hb : b ≠ 0) (h : IsN t b p q) (h' : IsN t b p' q') : p = p' ∧ q = q' := by
  have e : p * q' = p' * q := by
    have : b * (p * q') = b * (p' * q) := by
      calc b * (p * q') = (p * b) * q' := by rw [← Int.mul_assoc, Int.mul_comm b]
        _ = t * q * q' := by rw [h.eq]
        _ = t * q' * q := by rw [Int.mul_assoc, Int.mul_comm q, ← Int.mul_assoc]
        _ = p' * b * q := by rw [h'.eq]
        _ = b * (p' * q) := by rw [← Int.mul_assoc, Int.mul_comm b]
    exact Int.eq_of_mul_eq_mul_left hb this
  have d1 : q ∣ q' := by
    have : q ∣ p * q' := ⟨p', by rw [e, Int.mul_comm]⟩
    exact dvd_co this (by rw [Int.gcd_comm]; exact h.one)
  have d2 : q' ∣ q := by
    have : q' ∣ p' * q := ⟨p, by rw [← e, Int.mul_comm]⟩
    exact dvd_co this (by rw [Int.gcd_comm]; exact h'.one)
  have eq : q = q' := Int.dvd_antisymm (Int.le_of_lt h.pos) (Int.le_of_lt h'.pos) d1 d2
  subst eq
  exact ⟨Int.eq_of_mul_eq_mul_right (Int.ne_of_gt h.pos) e, rfl⟩
theorem nrm_eq {t b p q : Int} (hb : b ≠ 0) (h : IsN t b p q) : nrm t b = (p, q) := by
  obtain ⟨e1, e2⟩ := isN_unique hb (nrm_is hb) h
  exact Prod.ext e1 e2
/-- the same fraction by other numbers -/
theorem nrm_same {t b t' b' : Int} (hb : b ≠ 0) (hb' : b' ≠ 0) (e : t * b' = t' * b) : nrm t b = nrm t' b' := by
  have h := nrm_is (t := t') hb'
  refine nrm_eq hb ⟨h.pos, h.one, ?_⟩
  have : b' * ((nrm t' b').1 * b) = b' * (t * (nrm t' b').2) := by
    calc b' * ((nrm t' b').1 * b) = ((nrm t' b').1 * b') * b := by rw [← Int.mul_assoc, Int.mul_comm b']
      _ = t' * (nrm t' b').2 * b := by rw [h.eq]
      _ = (t' * b) * (nrm t' b').2 := by rw [Int.mul_assoc, Int.mul_comm (nrm t' b').2, ← Int.mul_assoc]
      _ = (t * b') * (nrm t' b').2 := by rw [e]
      _ = b' * (t * (nrm t' b').2) := by rw [← Int.mul_assoc, Int.mul_comm t]
  exact Int.eq_of_mul_eq_mul_left hb' this
theorem nrm_one (i : Int) : nrm i 1 = (i, 1) := nrm_eq (by decide) ⟨by decide, by simp, by simp⟩
theorem natAbs_fdiv_le {a c : Int} (h : c ∣ a) : (a.fdiv c).natAbs ≤ a.natAbs := by
  obtain ⟨k, rfl⟩ := h
  by_cases hc : c = 0
  · subst hc; simp
  · rw [Int.mul_fdiv_cancel_left k hc, Int.natAbs_mul]
    exact Nat.le_mul_of_pos_left _ (by omega)
theorem nrm_le (t b : Int) : (nrm t b).1.natAbs ≤ t.natAbs ∧ (nrm t b).2.natAbs ≤ b.natAbs := ⟨natAbs_fdiv_le cof_dvd.1, natAbs_fdiv_le cof_dvd.2⟩
end My
namespace My
open PySem PySem.Spec PyProof.Rows L2 ClX Dl
def top (i : Nat) : Stmt := PySem.Challenge.pw_soughtrows_k11_whole_numbers_reckoned.main.body.getD i (.Pass ⟨0, 0, 0, 0⟩)
def TT (K : PySem.W.Frag) (C : Addr) : CT := ⟨fun c => match c with
  | 0 => some (C, ["_top", "_bottom"])
  | _ => none, scOf K⟩
theorem sS {K : PySem.W.Frag} {C : Addr} : ScK K (TT K C) := fun a ns h H => h H
def pInt : D → Bool
  | .bl _ => true | .int _ => true | _ => false
def pBool : D → Bool
  | .bl _ => true | _ => false
def pStr : D → Bool
  | .str _ => true | _ => false
def pLst : D → Bool
  | .lst _ => true | _ => false
def pTup : D → Bool
  | .tup _ => true | _ => false
def pObj (c : Nat) : D → Bool
  | .obj c' _ => c' == c | _ => false
abbrev s_law_pot : Stmt := top 12
abbrev s_law_draw : Stmt := top 13
abbrev s_law_pick : Stmt := top 14
abbrev s_law_top : Stmt := top 15
abbrev s_law_whole : Stmt := top 16
abbrev s_law_pair : Stmt := top 17
abbrev s_law_common : Stmt := top 18
abbrev s_is_integer : Stmt := top 2
abbrev s_is_list : Stmt := top 3
abbrev s_Ratio_init : Stmt := inClass (top 9) 0
abbrev s_as_ratio : Stmt := top 10
abbrev s_Ratio_top : Stmt := inClass (top 9) 2
abbrev s_Ratio_bottom : Stmt := inClass (top 9) 3
abbrev s_Ratio_sign : Stmt := inClass (top 9) 4
abbrev s_Ratio_is_whole : Stmt := inClass (top 9) 5
abbrev s_Ratio_eq : Stmt := inClass (top 9) 6
abbrev s_Ratio_str : Stmt := inClass (top 9) 7
abbrev s_Ratio_repr : Stmt := inClass (top 9) 8
abbrev s_Ratio_neg : Stmt := inClass (top 9) 9
abbrev s_Ratio_add : Stmt := inClass (top 9) 10
abbrev s_Ratio_radd : Stmt := inClass (top 9) 11
abbrev s_Ratio_sub : Stmt := inClass (top 9) 12
abbrev s_Ratio_rsub : Stmt := inClass (top 9) 13
abbrev s_Ratio_mul : Stmt := inClass (top 9) 14
abbrev s_Ratio_rmul : Stmt := inClass (top 9) 15
abbrev s_Ratio_over : Stmt := inClass (top 9) 16
abbrev s_Ratio_size : Stmt := inClass (top 9) 17
abbrev s_Ratio_is_below : Stmt := inClass (top 9) 18
abbrev s_Ratio_is_at_most : Stmt := inClass (top 9) 19
abbrev s_Ratio_total : Stmt := inClass (top 9) 1
abbrev s_law_is : Stmt := top 19
abbrev s_law_two_right : Stmt := top 20
abbrev s_law_whole_right : Stmt := top 21
abbrev s_law_total_right : Stmt := top 22
abbrev s_law : Stmt := top 23
structure Facts (K : PySem.W.Frag) (mg : Str → Option Value) where
  C_Ratio : Addr
  a_law_pot : Addr
  d_law_pot : FuncData
  a_law_draw : Addr
  d_law_draw : FuncData
  a_law_pick : Addr
  d_law_pick : FuncData
  a_law_top : Addr
  d_law_top : FuncData
  a_law_whole : Addr
  d_law_whole : FuncData
  a_law_pair : Addr
  d_law_pair : FuncData
  a_law_common : Addr
  d_law_common : FuncData
  a_is_integer : Addr
  d_is_integer : FuncData
  a_is_list : Addr
  d_is_list : FuncData
  a_Ratio_init : Addr
  d_Ratio_init : FuncData
  a_as_ratio : Addr
  d_as_ratio : FuncData
  a_Ratio_top : Addr
  d_Ratio_top : FuncData
  a_Ratio_bottom : Addr
  d_Ratio_bottom : FuncData
  a_Ratio_sign : Addr
  d_Ratio_sign : FuncData
  a_Ratio_is_whole : Addr
  d_Ratio_is_whole : FuncData
  a_Ratio_eq : Addr
  d_Ratio_eq : FuncData
  a_Ratio_str : Addr
  d_Ratio_str : FuncData
  a_Ratio_repr : Addr
  d_Ratio_repr : FuncData
  a_Ratio_neg : Addr
  d_Ratio_neg : FuncData
  a_Ratio_add : Addr
  d_Ratio_add : FuncData
  a_Ratio_radd : Addr
  d_Ratio_radd : FuncData
  a_Ratio_sub : Addr
  d_Ratio_sub : FuncData
  a_Ratio_rsub : Addr
  d_Ratio_rsub : FuncData
  a_Ratio_mul : Addr
  d_Ratio_mul : FuncData
  a_Ratio_rmul : Addr
  d_Ratio_rmul : FuncData
  p_Ratio_sign : Addr
  p_Ratio_top : Addr
  p_Ratio_bottom : Addr
  a_Ratio_over : Addr
  d_Ratio_over : FuncData
  a_Ratio_size : Addr
  d_Ratio_size : FuncData
  a_Ratio_is_below : Addr
  d_Ratio_is_below : FuncData
  a_Ratio_is_at_most : Addr
  d_Ratio_is_at_most : FuncData
  a_Ratio_total : Addr
  d_Ratio_total : FuncData
  p_Ratio_is_whole : Addr
  a_law_is : Addr
  d_law_is : FuncData
  a_law_two_right : Addr
  d_law_two_right : FuncData
  a_law_whole_right : Addr
  d_law_whole_right : FuncData
  mc_Ratio : Value
  p_Ratio_total : Addr
  a_law_total_right : Addr
  d_law_total_right : FuncData
  a_law : Addr
  d_law : FuncData
  n_int : mg "int" = none
  n_max : mg "max" = none
  n_len : mg "len" = none
  n_abs : mg "abs" = none
  F_law_pot : Fun K "_law_pot" "_law_pot" s_law_pot a_law_pot d_law_pot
  b_law_pot : Binds K d_law_pot ["_law_script", "_law_k"] []
  n_divmod : mg "divmod" = none
  F_law_draw : Fun K "_law_draw" "_law_draw" s_law_draw a_law_draw d_law_draw
  b_law_draw : Binds K d_law_draw ["_law_pot_here", "_law_size"] []
  m_law_draw : mg "_law_draw" = some (.ref a_law_draw)
  F_law_pick : Fun K "_law_pick" "_law_pick" s_law_pick a_law_pick d_law_pick
  b_law_pick : Binds K d_law_pick ["_law_pot_here", "_law_some"] []
  n_range : mg "range" = none
  F_law_top : Fun K "_law_top" "_law_top" s_law_top a_law_top d_law_top
  b_law_top : Binds K d_law_top ["_law_pot_here"] []
  F_law_whole : Fun K "_law_whole" "_law_whole" s_law_whole a_law_whole d_law_whole
  b_law_whole : Binds K d_law_whole ["_law_pot_here"] []
  m_law_top : mg "_law_top" = some (.ref a_law_top)
  F_law_pair : Fun K "_law_pair" "_law_pair" s_law_pair a_law_pair d_law_pair
  b_law_pair : Binds K d_law_pair ["_law_pot_here"] []
  F_law_common : Fun K "_law_common" "_law_common" s_law_common a_law_common d_law_common
  b_law_common : Binds K d_law_common ["_law_one", "_law_other"] []
  n_isinstance : mg "isinstance" = none
  ca : ClsAll K (TT K C_Ratio)
  i_int : Isi K (TT K C_Ratio) (.type "int") pInt
  i_bool : Isi K (TT K C_Ratio) (.type "bool") pBool
  n_bool : mg "bool" = none
  F_is_integer : Fun K "is_integer" "is_integer" s_is_integer a_is_integer d_is_integer
  b_is_integer : Binds K d_is_integer ["value"] []
  i_list : Isi K (TT K C_Ratio) (.type "list") pLst
  n_list : mg "list" = none
  i_tuple : Isi K (TT K C_Ratio) (.type "tuple") pTup
  n_tuple : mg "tuple" = none
  F_is_list : Fun K "is_list" "is_list" s_is_list a_is_list d_is_list
  b_is_list : Binds K d_is_list ["value"] []
  m_is_integer : mg "is_integer" = some (.ref a_is_integer)
  m_gcd : mg "gcd" = some (.builtin "math.gcd")
  hc_Ratio : Cls K C_Ratio
  na_Ratio_top : NoAttr K C_Ratio "_top"
  na_Ratio_bottom : NoAttr K C_Ratio "_bottom"
  F_Ratio_init : FunD K "__init__" "Ratio.__init__" (defArgs s_Ratio_init) (defBody s_Ratio_init) (defScope s_Ratio_init) [V.int 1] [] a_Ratio_init d_Ratio_init
  i_Ratio : Isi K (TT K C_Ratio) (.ref C_Ratio) (pObj 0)
  m_Ratio : mg "Ratio" = some (.ref C_Ratio)
  mk_Ratio : Mk K C_Ratio a_Ratio_init
  bi_Ratio_init_1 : BndI K d_Ratio_init ["self", "top", "bottom"] 1 [] (gPos [.int 1])
  F_as_ratio : Fun K "as_ratio" "as_ratio" s_as_ratio a_as_ratio d_as_ratio
  b_as_ratio : Binds K d_as_ratio ["number"] []
  F_Ratio_top : Fun K "top" "Ratio.top" s_Ratio_top a_Ratio_top d_Ratio_top
  b_Ratio_top : Binds K d_Ratio_top ["self"] []
  F_Ratio_bottom : Fun K "bottom" "Ratio.bottom" s_Ratio_bottom a_Ratio_bottom d_Ratio_bottom
  b_Ratio_bottom : Binds K d_Ratio_bottom ["self"] []
  F_Ratio_sign : Fun K "sign" "Ratio.sign" s_Ratio_sign a_Ratio_sign d_Ratio_sign
  b_Ratio_sign : Binds K d_Ratio_sign ["self"] []
  F_Ratio_is_whole : Fun K "is_whole" "Ratio.is_whole" s_Ratio_is_whole a_Ratio_is_whole d_Ratio_is_whole
  b_Ratio_is_whole : Binds K d_Ratio_is_whole ["self"] []
  F_Ratio_eq : Fun K "__eq__" "Ratio.__eq__" s_Ratio_eq a_Ratio_eq d_Ratio_eq
  b_Ratio_eq : Binds K d_Ratio_eq ["self", "other"] []
  e_Ratio_eq : PySem.W.findIn K (.ref C_Ratio) "__eq__" = some (some (.ref a_Ratio_eq))
  ef_Ratio_eq : PySem.W.isFn K (.ref a_Ratio_eq) = true
  tp_Ratio : Top K (TT K C_Ratio) C_Ratio
  n_str : mg "str" = none
  F_Ratio_str : Fun K "__str__" "Ratio.__str__" s_Ratio_str a_Ratio_str d_Ratio_str
  b_Ratio_str : Binds K d_Ratio_str ["self"] []
  F_Ratio_repr : Fun K "__repr__" "Ratio.__repr__" s_Ratio_repr a_Ratio_repr d_Ratio_repr
  b_Ratio_repr : Binds K d_Ratio_repr ["self"] []
  bi_Ratio_init_2 : BndI K d_Ratio_init ["self", "top", "bottom"] 2 [] (gPos [])
  F_Ratio_neg : Fun K "__neg__" "Ratio.__neg__" s_Ratio_neg a_Ratio_neg d_Ratio_neg
  b_Ratio_neg : Binds K d_Ratio_neg ["self"] []
  m_as_ratio : mg "as_ratio" = some (.ref a_as_ratio)
  F_Ratio_add : Fun K "__add__" "Ratio.__add__" s_Ratio_add a_Ratio_add d_Ratio_add
  b_Ratio_add : Binds K d_Ratio_add ["self", "other"] []
  o_Ratio_add : OwnOp K C_Ratio .Add a_Ratio_add
  F_Ratio_radd : Fun K "__radd__" "Ratio.__radd__" s_Ratio_radd a_Ratio_radd d_Ratio_radd
  b_Ratio_radd : Binds K d_Ratio_radd ["self", "other"] []
  F_Ratio_sub : Fun K "__sub__" "Ratio.__sub__" s_Ratio_sub a_Ratio_sub d_Ratio_sub
  b_Ratio_sub : Binds K d_Ratio_sub ["self", "other"] []
  o_Ratio_sub : OwnOp K C_Ratio .Sub a_Ratio_sub
  F_Ratio_rsub : Fun K "__rsub__" "Ratio.__rsub__" s_Ratio_rsub a_Ratio_rsub d_Ratio_rsub
  b_Ratio_rsub : Binds K d_Ratio_rsub ["self", "other"] []
  F_Ratio_mul : Fun K "__mul__" "Ratio.__mul__" s_Ratio_mul a_Ratio_mul d_Ratio_mul
  b_Ratio_mul : Binds K d_Ratio_mul ["self", "other"] []
  o_Ratio_mul : OwnOp K C_Ratio .Mult a_Ratio_mul
  F_Ratio_rmul : Fun K "__rmul__" "Ratio.__rmul__" s_Ratio_rmul a_Ratio_rmul d_Ratio_rmul
  b_Ratio_rmul : Binds K d_Ratio_rmul ["self", "other"] []
  pr_Ratio_sign : PropOf K C_Ratio "sign" p_Ratio_sign a_Ratio_sign
  r_Ratio_rmul : OwnRev K C_Ratio .Mult a_Ratio_rmul "int.__mul__" Builtin.«int.__mul__»
  pr_Ratio_top : PropOf K C_Ratio "top" p_Ratio_top a_Ratio_top
  pr_Ratio_bottom : PropOf K C_Ratio "bottom" p_Ratio_bottom a_Ratio_bottom
  F_Ratio_over : Fun K "over" "Ratio.over" s_Ratio_over a_Ratio_over d_Ratio_over
  b_Ratio_over : Binds K d_Ratio_over ["self", "other"] []
  F_Ratio_size : Fun K "size" "Ratio.size" s_Ratio_size a_Ratio_size d_Ratio_size
  b_Ratio_size : Binds K d_Ratio_size ["self"] []
  r_Ratio_rsub : OwnRev K C_Ratio .Sub a_Ratio_rsub "int.__sub__" Builtin.«int.__sub__»
  F_Ratio_is_below : Fun K "is_below" "Ratio.is_below" s_Ratio_is_below a_Ratio_is_below d_Ratio_is_below
  b_Ratio_is_below : Binds K d_Ratio_is_below ["self", "other"] []
  F_Ratio_is_at_most : Fun K "is_at_most" "Ratio.is_at_most" s_Ratio_is_at_most a_Ratio_is_at_most d_Ratio_is_at_most
  b_Ratio_is_at_most : Binds K d_Ratio_is_at_most ["self", "other"] []
  m_is_list : mg "is_list" = some (.ref a_is_list)
  r_Ratio_radd : OwnRev K C_Ratio .Add a_Ratio_radd "int.__add__" Builtin.«int.__add__»
  F_Ratio_total : Fun K "total" "Ratio.total" s_Ratio_total a_Ratio_total d_Ratio_total
  b_Ratio_total : Binds K d_Ratio_total ["cls", "numbers"] []
  ne_Ratio_eq : PySem.W.findIn K (.ref C_Ratio) "__ne__" = some (some (.builtin "object.__ne__"))
  ob_Ratio : PySem.W.subIn K (.ref C_Ratio) (.type "object") = some true
  m_law_common : mg "_law_common" = some (.ref a_law_common)
  s_Ratio_str : PySem.W.findIn K (.ref C_Ratio) "__str__" = some (some (.ref a_Ratio_str))
  sf_Ratio_str : PySem.W.isFn K (.ref a_Ratio_str) = true
  s_Ratio_repr : PySem.W.findIn K (.ref C_Ratio) "__repr__" = some (some (.ref a_Ratio_repr))
  sf_Ratio_repr : PySem.W.isFn K (.ref a_Ratio_repr) = true
  n_repr : mg "repr" = none
  pr_Ratio_is_whole : PropOf K C_Ratio "is_whole" p_Ratio_is_whole a_Ratio_is_whole
  t_Ratio_size : Meth K C_Ratio "size" a_Ratio_size
  F_law_is : Fun K "_law_is" "_law_is" s_law_is a_law_is d_law_is
  b_law_is : Binds K d_law_is ["_law_ratio", "_law_top_here", "_law_bottom"] []
  bi_Ratio_init_0_top_bottom : BndI K d_Ratio_init ["self", "top", "bottom"] 0 ["top", "bottom"] (gPos [])
  m_law_is : mg "_law_is" = some (.ref a_law_is)
  u_Ratio_neg : PySem.W.findIn K (.ref C_Ratio) "__neg__" = some (some (.ref a_Ratio_neg))
  uf_Ratio_neg : PySem.W.isFn K (.ref a_Ratio_neg) = true
  t_Ratio_over : Meth K C_Ratio "over" a_Ratio_over
  t_Ratio_is_below : Meth K C_Ratio "is_below" a_Ratio_is_below
  t_Ratio_is_at_most : Meth K C_Ratio "is_at_most" a_Ratio_is_at_most
  F_law_two_right : Fun K "_law_two_right" "_law_two_right" s_law_two_right a_law_two_right d_law_two_right
  b_law_two_right : Binds K d_law_two_right ["_law_one", "_law_other"] []
  F_law_whole_right : Fun K "_law_whole_right" "_law_whole_right" s_law_whole_right a_law_whole_right d_law_whole_right
  b_law_whole_right : Binds K d_law_whole_right ["_law_one", "_law_whole_here"] []
  m_law_whole : mg "_law_whole" = some (.ref a_law_whole)
  m_law_pick : mg "_law_pick" = some (.ref a_law_pick)
  cr_Ratio : CRead K C_Ratio mc_Ratio
  cm_Ratio_total : CMet K C_Ratio mc_Ratio "total" p_Ratio_total a_Ratio_total
  F_law_total_right : Fun K "_law_total_right" "_law_total_right" s_law_total_right a_law_total_right d_law_total_right
  b_law_total_right : Binds K d_law_total_right ["_law_pot_here", "_law_pairs"] []
  m_law_pot : mg "_law_pot" = some (.ref a_law_pot)
  m_law_pair : mg "_law_pair" = some (.ref a_law_pair)
  m_law_two_right : mg "_law_two_right" = some (.ref a_law_two_right)
  n_all : mg "all" = none
  m_law_whole_right : mg "_law_whole_right" = some (.ref a_law_whole_right)
  m_law_total_right : mg "_law_total_right" = some (.ref a_law_total_right)
  F_law : Fun K "law" "law" s_law a_law d_law
  b_law : Binds K d_law ["_law_script"] []
section
variable {P : Program} {w : World} {K : PySem.W.Frag} {mg : Str → Option Value} {base : Heap}
def G_Ratio_init : List D → Option (List D)
  | [.int t, .int b] => if b ≠ 0 ∧ b.natAbs < 2 ^ 4000 then some [.int (nrm t b).1, .int (nrm t b).2] else none
  | _ => none
theorem cof_small {t b : Int} (h : b ≠ 0) (hs : b.natAbs < 2 ^ 4000) (a : Int) : okDivN a (cof t b) = true := by
  have hn := @cof_ne t b h
  have hl : (cof t b).natAbs ≤ b.natAbs := by
    have h1 : (cof t b).natAbs = Int.gcd t b := by unfold cof; split <;> simp
    rw [h1]
    exact Nat.le_of_dvd (by omega) (Int.natAbs_dvd_natAbs.mpr (Int.gcd_dvd_right t b))
  unfold okDivN
  simp only [Bool.and_eq_true, decide_eq_true_eq]
  exact ⟨hn, Nat.lt_of_le_of_lt hl hs⟩
def fu_law_common : Es → Nat := fun δ => match (δ[3]? : Option Sl) with
  | some (Sl.val (D.int j)) => j.natAbs + 1
  | _ => 0
theorem sc_law_pot : FnScope ["_law_script", "_law_k", "_law_cell"] ["_law_script", "_law_k"] (defScope s_law_pot) := ⟨rfl, rfl, rfl, by decide +kernel, rfl, by decide +kernel, by decide +kernel⟩
def g_law_pot : FA := (sSeqF (sSet 2 (fBin gAdd0 (fBin (gI okMul fun i j => .int (i * j)) (fC (.int 839)) (fV 1)) (fC (.int 569))))
    (sSeqF (sIf (fB (fBin (gI0 fun i j => .bl (decide (i < j))) (fV 1) (fFun funLenR (fCons (fV 0) fNil)))) (sSet 2 (fFun (fun1I fun i => .int (if i < 0 then -i else i)) (fCons (fBin gIxS (fV 0) (fV 1)) fNil))) sNil)
    (fLst (fCons (fFun funMax2 (fCons (fC (.int 0)) (fCons (fBin (gI0 fun i j => .int (i - j)) (fV 2) (fBin (gI okPow fun i j => .int (i ^ j.toNat)) (fC (.int 10)) (fC (.int 18)))) fNil))) (fCons (fBin gAdd0 (fBin (gI okPos fun i j => .int (i % j)) (fFun funInt (fCons (fBin gAdd0 (fBin (gI okMul fun i j => .int (i * j)) (fBin (gI okPos fun i j => .int (i % j)) (fFun funInt (fCons (fV 2) fNil)) (fC (.int 2147483549))) (fBin gAdd0 (fBin (gI okMul fun i j => .int (i * j)) (fC (.int 2)) (fV 1)) (fC (.int 491)))) (fC (.int 1277))) fNil)) (fC (.int 2147483543))) (fC (.int 1))) fNil)))))
def G_law_pot : List D → Option (List D) := outF 3 g_law_pot
theorem ok_law_pot (M : Facts K mg) : FnG P w K mg base 1 M.a_law_pot M.d_law_pot ["_law_script", "_law_k"] (spF (TT K M.C_Ratio) 2 G_law_pot) :=
  okF (g := g_law_pot) M.F_law_pot sc_law_pot rfl rfl (fun cdv A outer s H E hq hr =>
    (sts_consF (st_set 2 sc_law_pot.nd (pd_op op_add0 opv_add0 (pd_op op_mulW opv_mulW pd_int (pd_v 1)) pd_int))
    (sts_consF (st_if (pt_cmp' op_lt opv_lt (pd_v 1) (pd_blt call_len_seq (callv_lenR sS) M.n_len PySem.boot_len (pds_cons (pd_v 0) pds_nil)) rfl) (sts_one (st_set 2 sc_law_pot.nd (pd_blt call_abs callv_abs M.n_abs (by decide +kernel) (pds_cons (pd_ixS sS (pd_v 0) (pd_v 1)) pds_nil)))) sts_nil)
    (sts_retF (pf_lst (pds_cons (pd_blt (call_max2 rfl) callv_max2 M.n_max (by decide +kernel) (pds_cons pd_int (pds_cons (pd_op op_sub opv_sub (pd_v 2) (pd_op op_pow opv_pow pd_int pd_int)) pds_nil))) (pds_cons (pd_op op_add0 opv_add0 (pd_op op_mod opv_mod (pd_bty call_int1 callv_int M.n_int (by decide +kernel) (pds_cons (pd_op op_add0 opv_add0 (pd_op op_mulW opv_mulW (pd_op op_mod opv_mod (pd_bty call_int1 callv_int M.n_int (by decide +kernel) (pds_cons (pd_v 2) pds_nil)) pd_int) (pd_op op_add0 opv_add0 (pd_op op_mulW opv_mulW pd_int (pd_v 1)) pd_int)) pd_int) pds_nil)) pd_int) pd_int) pds_nil)))))))

theorem sc_law_draw : FnScope ["_law_pot_here", "_law_size", "_law_digit"] ["_law_pot_here", "_law_size"] (defScope s_law_draw) := ⟨rfl, rfl, rfl, by decide +kernel, rfl, by decide +kernel, by decide +kernel⟩
def g_law_draw : FS := (sSeq (sIf (fB (fBin (gI0 fun i j => .bl (decide (j < i))) (fIxN 0 (fC (.int 0))) (fC (.int 0)))) (sSeq (sAsg (fFun funDivmod (fCons (fIxN 0 (fC (.int 0))) (fCons (fV 1) fNil))) (gT 2 (gsCons (gI1 0 (fC (.int 0))) (gsCons (gN 2) gsNil))))
    (sRet (fV 2))) sNil)
    (sSeq (sAsg (fBin (gI okPos fun i j => .int (i % j)) (fFun funInt (fCons (fBin gAdd0 (fBin (gI okMul fun i j => .int (i * j)) (fIxN 0 (fC (.int 1))) (fC (.int 48271))) (fC (.int 18521))) fNil)) (fC (.int 2147483587))) (gI1 0 (fC (.int 1))))
    (sRet (fBin (gI okPos fun i j => .int (i % j)) (fFun funInt (fCons (fBin (gI okDivN fun i j => .int (i.fdiv j)) (fBin (gI okPos fun i j => .int (i % j)) (fFun funInt (fCons (fBin (gI okMul fun i j => .int (i * j)) (fIxN 0 (fC (.int 1))) (fIxN 0 (fC (.int 1)))) fNil)) (fC (.int 2147483549))) (fC (.int 13))) fNil)) (fV 1)))))
def G_law_draw : List D → List D → Option (D × List D) := outP 3 g_law_draw
theorem ok_law_draw (M : Facts K mg) : FnG P w K mg base 1 M.a_law_draw M.d_law_draw ["_law_pot_here", "_law_size"] (sp1 (TT K M.C_Ratio) 1 G_law_draw) :=
  ok1' (g := g_law_draw) M.F_law_draw sc_law_draw rfl rfl (fun cdv A outer s H E hq hr =>
    (sts_cons (st_if (pt_cmp' op_gt opv_gt (pd_ixN (i := 0) pd_int) pd_int rfl) (sts_cons (st_asg (ws := [2, 0]) (pd_blt call_divmodW callv_divmod M.n_divmod (by decide +kernel) (pds_cons (pd_ixN (i := 0) pd_int) (pds_cons (pd_v 1) pds_nil))) (tg_t rfl (tgs_cons (tg_i (i := 0) pd_int) (tgs_cons (tg_n 2 sc_law_draw.nd) tgs_nil))))
    (sts_one (st_ret (pd_v 2)))) sts_nil)
    (sts_cons (st_asg (ws := [0]) (pd_op op_mod opv_mod (pd_bty call_int1 callv_int M.n_int (by decide +kernel) (pds_cons (pd_op op_add0 opv_add0 (pd_op op_mulW opv_mulW (pd_ixN (i := 0) pd_int) pd_int) pd_int) pds_nil)) pd_int) (tg_i (i := 0) pd_int))
    (sts_one (st_ret (pd_op op_mod opv_mod (pd_bty call_int1 callv_int M.n_int (by decide +kernel) (pds_cons (pd_op op_fdivNW opv_fdiv (pd_op op_mod opv_mod (pd_bty call_int1 callv_int M.n_int (by decide +kernel) (pds_cons (pd_op op_mulW opv_mulW (pd_ixN (i := 0) pd_int) (pd_ixN (i := 0) pd_int)) pds_nil)) pd_int) pd_int) pds_nil)) (pd_v 1)))))))

theorem sc_law_pick : FnScope ["_law_pot_here", "_law_some"] ["_law_pot_here", "_law_some"] (defScope s_law_pick) := ⟨rfl, rfl, rfl, by decide +kernel, rfl, by decide +kernel, by decide +kernel⟩
def g_law_pick : FS := (sRet (fIxN 1 (fCallP 0 G_law_draw (fCons (fLenN 1) fNil))))
def G_law_pick : List D → List D → Option (D × List D) := outP 2 g_law_pick
theorem ok_law_pick (M : Facts K mg) : FnG P w K mg base 2 M.a_law_pick M.d_law_pick ["_law_pot_here", "_law_some"] (sp1 (TT K M.C_Ratio) 1 G_law_pick) :=
  ok1' (g := g_law_pick) M.F_law_pick sc_law_pick rfl rfl (fun cdv A outer s H E hq hr =>
    (sts_one (st_ret (pd_ixN (i := 1) (pd_callP (i := 0) (ok_law_draw M) hq (hr.mono (by decide)) M.m_law_draw M.F_law_draw.kp M.b_law_draw rfl (pds_cons (pd_lenN (i := 1) M.n_len) pds_nil))))))

theorem sc_law_top : FnScope ["_law_pot_here", "_law_way", "_law_found", "_law_turn"] ["_law_pot_here"] (defScope s_law_top) := ⟨rfl, rfl, rfl, by decide +kernel, rfl, by decide +kernel, by decide +kernel⟩
def g_law_top : FS := (sSeq (sSet 1 (fCallP 0 G_law_draw (fCons (fC (.int 5)) fNil)))
    (sSeq (sIf (fB (fBin (gI0 fun i j => .bl (decide (i < j))) (fV 1) (fC (.int 3)))) (sRet (fBin (gI0 fun i j => .int (i - j)) (fCallP 0 G_law_draw (fCons (fC (.int 25)) fNil)) (fC (.int 12)))) sNil)
    (sSeq (sSet 2 (fC (.int 0)))
    (sSeq (sFor (fRg1 (fCons (fIf (fB (fBin gEqF (fV 1) (fC (.int 3)))) (fC (.int 3)) (fC (.int 5))) fNil)) (gN 3) (sSet 2 (fBin gAdd0 (fBin (gI okMul fun i j => .int (i * j)) (fV 2) (fBin (gI okPow fun i j => .int (i ^ j.toNat)) (fC (.int 10)) (fC (.int 9)))) (fCallP 0 G_law_draw (fCons (fBin (gI okPow fun i j => .int (i ^ j.toNat)) (fC (.int 10)) (fC (.int 9))) fNil)))))
    (sRet (fIf (fB (fBin gEqF (fCallP 0 G_law_draw (fCons (fC (.int 2)) fNil)) (fC (.int 0)))) (fV 2) (fBin (gI0 fun i j => .int (i - j)) (fC (.int 0)) (fV 2))))))))
def G_law_top : List D → List D → Option (D × List D) := outP 4 g_law_top
theorem ok_law_top (M : Facts K mg) : FnG P w K mg base 2 M.a_law_top M.d_law_top ["_law_pot_here"] (sp1 (TT K M.C_Ratio) 0 G_law_top) :=
  ok1' (g := g_law_top) M.F_law_top sc_law_top rfl rfl (fun cdv A outer s H E hq hr =>
    (sts_cons (st_set 1 sc_law_top.nd (pd_callP (i := 0) (ok_law_draw M) hq (hr.mono (by decide)) M.m_law_draw M.F_law_draw.kp M.b_law_draw rfl (pds_cons pd_int pds_nil)))
    (sts_cons (st_if (pt_cmp' op_lt opv_lt (pd_v 1) pd_int rfl) (sts_one (st_ret (pd_op op_sub opv_sub (pd_callP (i := 0) (ok_law_draw M) hq (hr.mono (by decide)) M.m_law_draw M.F_law_draw.kp M.b_law_draw rfl (pds_cons pd_int pds_nil)) pd_int))) sts_nil)
    (sts_cons (st_set 2 sc_law_top.nd pd_int)
    (sts_cons (st_for (ws := [3]) PassesOwn.never rfl (pid_rg1 M.n_range (pds_cons (pd_if (pt_cmp' op_eq opv_eqF (pd_v 1) pd_int rfl) pd_int pd_int) pds_nil)) (tg_n 3 sc_law_top.nd) (sts_one (st_set 2 sc_law_top.nd (pd_op op_add0 opv_add0 (pd_op op_mulW opv_mulW (pd_v 2) (pd_op op_pow opv_pow pd_int pd_int)) (pd_callP (i := 0) (ok_law_draw M) hq (hr.mono (by decide)) M.m_law_draw M.F_law_draw.kp M.b_law_draw rfl (pds_cons (pd_op op_pow opv_pow pd_int pd_int) pds_nil))))))
    (sts_one (st_ret (pd_if (pt_cmp' op_eq opv_eqF (pd_callP (i := 0) (ok_law_draw M) hq (hr.mono (by decide)) M.m_law_draw M.F_law_draw.kp M.b_law_draw rfl (pds_cons pd_int pds_nil)) pd_int rfl) (pd_v 2) (pd_op op_sub opv_sub pd_int (pd_v 2))))))))))

theorem sc_law_whole : FnScope ["_law_pot_here"] ["_law_pot_here"] (defScope s_law_whole) := ⟨rfl, rfl, rfl, by decide +kernel, rfl, by decide +kernel, by decide +kernel⟩
def g_law_whole : FS := (sRet (fIf (fB (fBin gEqF (fCallP 0 G_law_draw (fCons (fC (.int 2)) fNil)) (fC (.int 0)))) (fBin (gI0 fun i j => .int (i - j)) (fCallP 0 G_law_draw (fCons (fC (.int 25)) fNil)) (fC (.int 12))) (fBin (gI0 fun i j => .int (i - j)) (fCallP 0 G_law_draw (fCons (fC (.int 1999999)) fNil)) (fC (.int 999999)))))
def G_law_whole : List D → List D → Option (D × List D) := outP 1 g_law_whole
theorem ok_law_whole (M : Facts K mg) : FnG P w K mg base 2 M.a_law_whole M.d_law_whole ["_law_pot_here"] (sp1 (TT K M.C_Ratio) 0 G_law_whole) :=
  ok1' (g := g_law_whole) M.F_law_whole sc_law_whole rfl rfl (fun cdv A outer s H E hq hr =>
    (sts_one (st_ret (pd_if (pt_cmp' op_eq opv_eqF (pd_callP (i := 0) (ok_law_draw M) hq (hr.mono (by decide)) M.m_law_draw M.F_law_draw.kp M.b_law_draw rfl (pds_cons pd_int pds_nil)) pd_int rfl) (pd_op op_sub opv_sub (pd_callP (i := 0) (ok_law_draw M) hq (hr.mono (by decide)) M.m_law_draw M.F_law_draw.kp M.b_law_draw rfl (pds_cons pd_int pds_nil)) pd_int) (pd_op op_sub opv_sub (pd_callP (i := 0) (ok_law_draw M) hq (hr.mono (by decide)) M.m_law_draw M.F_law_draw.kp M.b_law_draw rfl (pds_cons pd_int pds_nil)) pd_int)))))

theorem sc_law_pair : FnScope ["_law_pot_here", "_law_bottom"] ["_law_pot_here"] (defScope s_law_pair) := ⟨rfl, rfl, rfl, by decide +kernel, rfl, by decide +kernel, by decide +kernel⟩
def g_law_pair : FS := (sSeq (sSet 1 (fIf (fB (fBin gEqF (fCallP 0 G_law_draw (fCons (fC (.int 3)) fNil)) (fC (.int 0)))) (fCallP 0 G_law_top fNil) (fBin gAdd0 (fC (.int 1)) (fCallP 0 G_law_draw (fCons (fC (.int 12)) fNil)))))
    (sRet (fTup (fCons (fCallP 0 G_law_top fNil) (fCons (fIf (fB (fBin gNeF (fV 1) (fC (.int 0)))) (fV 1) (fC (.int 5))) fNil)))))
def G_law_pair : List D → List D → Option (D × List D) := outP 2 g_law_pair
theorem ok_law_pair (M : Facts K mg) : FnG P w K mg base 3 M.a_law_pair M.d_law_pair ["_law_pot_here"] (sp1 (TT K M.C_Ratio) 0 G_law_pair) :=
  ok1' (g := g_law_pair) M.F_law_pair sc_law_pair rfl rfl (fun cdv A outer s H E hq hr =>
    (sts_cons (st_set 1 sc_law_pair.nd (pd_if (pt_cmp' op_eq opv_eqF (pd_callP (i := 0) (ok_law_draw M) hq (hr.mono (by decide)) M.m_law_draw M.F_law_draw.kp M.b_law_draw rfl (pds_cons pd_int pds_nil)) pd_int rfl) (pd_callP (i := 0) (ok_law_top M) hq (hr.mono (by decide)) M.m_law_top M.F_law_top.kp M.b_law_top rfl pds_nil) (pd_op op_add0 opv_add0 pd_int (pd_callP (i := 0) (ok_law_draw M) hq (hr.mono (by decide)) M.m_law_draw M.F_law_draw.kp M.b_law_draw rfl (pds_cons pd_int pds_nil)))))
    (sts_one (st_ret (pd_tup (pds_cons (pd_callP (i := 0) (ok_law_top M) hq (hr.mono (by decide)) M.m_law_top M.F_law_top.kp M.b_law_top rfl pds_nil) (pds_cons (pd_if (pt_cmp' op_ne opv_neF (pd_v 1) pd_int rfl) (pd_v 1) pd_int) pds_nil)))))))

theorem sc_law_common : FnScope ["_law_one", "_law_other", "_law_near", "_law_far"] ["_law_one", "_law_other"] (defScope s_law_common) := ⟨rfl, rfl, rfl, by decide +kernel, rfl, by decide +kernel, by decide +kernel⟩
def g_law_common : FS := (sSeq (sPar 2 3 (fCons (fFun (fun1I fun i => .int (if i < 0 then -i else i)) (fCons (fV 0) fNil)) (fCons (fFun (fun1I fun i => .int (if i < 0 then -i else i)) (fCons (fV 1) fNil)) fNil)))
    (sSeq (sWhile fu_law_common (fB (fBin (gI0 fun i j => .bl (decide (j < i))) (fV 3) (fC (.int 0)))) (sPar 2 3 (fCons (fV 3) (fCons (fBin (gI okPos fun i j => .int (i % j)) (fV 2) (fV 3)) fNil))))
    (sRet (fV 2))))
def G_law_common : List D → Option D := outD 4 g_law_common
theorem ok_law_common (M : Facts K mg) : FnG P w K mg base 1 M.a_law_common M.d_law_common ["_law_one", "_law_other"] (sp0 (TT K M.C_Ratio) 2 G_law_common) :=
  ok0' (g := g_law_common) M.F_law_common sc_law_common rfl rfl (fun cdv A outer s H E hq hr =>
    (sts_cons (st_par 2 3 rfl sc_law_common.nd (pds_cons (pd_blt call_abs callv_abs M.n_abs (by decide +kernel) (pds_cons (pd_v 0) pds_nil)) (pds_cons (pd_blt call_abs callv_abs M.n_abs (by decide +kernel) (pds_cons (pd_v 1) pds_nil)) pds_nil)))
    (sts_cons (st_while fu_law_common PassesOwn.never (pt_cmp' op_gt opv_gt (pd_v 3) pd_int rfl) (sts_one (st_par 2 3 rfl sc_law_common.nd (pds_cons (pd_v 3) (pds_cons (pd_op op_mod opv_mod (pd_v 2) (pd_v 3)) pds_nil)))))
    (sts_one (st_ret (pd_v 2))))))

theorem sc_is_integer : FnScope ["value"] ["value"] (defScope s_is_integer) := ⟨rfl, rfl, rfl, by decide +kernel, rfl, by decide +kernel, by decide +kernel⟩
def g_is_integer : FS := (sRet (fAndV (fIsi pInt (fV 0)) (fNotV (fIsi pBool (fV 0)))))
def G_is_integer : List D → Option D := outD 1 g_is_integer
theorem ok_is_integer (M : Facts K mg) : FnG P w K mg base 1 M.a_is_integer M.d_is_integer ["value"] (sp0 (TT K M.C_Ratio) 1 G_is_integer) :=
  ok0' (g := g_is_integer) M.F_is_integer sc_is_integer rfl rfl (fun cdv A outer s H E hq hr =>
    (sts_one (st_ret (pd_and (pd_isi (pd_v 0) (pe_bltn (v := .ty "int") rfl M.n_int (by decide +kernel) rfl) (ClsV.ty "int") M.ca M.i_int M.n_isinstance) (pd_one (pd_not (pd_isi (pd_v 0) (pe_bltn (v := .ty "bool") rfl M.n_bool (by decide +kernel) rfl) (ClsV.ty "bool") M.ca M.i_bool M.n_isinstance)))))))

theorem sc_is_list : FnScope ["value"] ["value"] (defScope s_is_list) := ⟨rfl, rfl, rfl, by decide +kernel, rfl, by decide +kernel, by decide +kernel⟩
def g_is_list : FS := (sRet (fIsi (fun d => pLst d || pTup d) (fV 0)))
def G_is_list : List D → Option D := outD 1 g_is_list
theorem ok_is_list (M : Facts K mg) : FnG P w K mg base 1 M.a_is_list M.d_is_list ["value"] (sp0 (TT K M.C_Ratio) 1 G_is_list) :=
  ok0' (g := g_is_list) M.F_is_list sc_is_list rfl rfl (fun cdv A outer s H E hq hr =>
    (sts_one (st_ret (pd_isi2 (pd_v 0) (pe_bltn (v := .ty "list") rfl M.n_list (by decide +kernel) rfl) (pe_bltn (v := .ty "tuple") rfl M.n_tuple (by decide +kernel) rfl) (ClsV.ty "list") (ClsV.ty "tuple") M.ca M.i_list M.i_tuple M.n_isinstance))))

theorem sc_Ratio_init : FnScope ["self", "top", "bottom", "common"] ["self", "top", "bottom"] (defScope s_Ratio_init) := ⟨rfl, rfl, rfl, by decide +kernel, rfl, by decide +kernel, by decide +kernel⟩
def g_Ratio_init (C : Addr) : FS := (sSeq (sIf (fNot (fB (fCall G_is_integer (gPos []) (fCons (fV 1) fNil) fNil))) sNo sNil)
    (sSeq (sIf (fOr (fNot (fB (fCall G_is_integer (gPos []) (fCons (fV 2) fNil) fNil))) (fB (fBin gEqF (fV 2) (fC (.int 0))))) sNo sNil)
    (sSeq (sSet 3 (fFun funGcd (fCons (fV 1) (fCons (fV 2) fNil))))
    (sSeq (sIf (fB (fBin (gI0 fun i j => .bl (decide (i < j))) (fV 2) (fC (.int 0)))) (sSet 3 (fUn gNeg (fV 3))) sNil)
    (sSeq (sIni 0 C ["_top", "_bottom"] "_top" (fBin (gI okDivN fun i j => .int (i.fdiv j)) (fV 1) (fV 3)))
    (sIni 0 C ["_top", "_bottom"] "_bottom" (fBin (gI okDivN fun i j => .int (i.fdiv j)) (fV 2) (fV 3))))))))
theorem tell_Ratio_init (C dx : Addr) (ds fs : List D) (h : ds.length = 2) (e : G_Ratio_init ds = some fs) : ∃ r, g_Ratio_init C (.own (.ini C dx ["_top", "_bottom"]) [] :: ini 3 ds) = some r ∧ endI C ["_top", "_bottom"] r = some fs := by
  unfold G_Ratio_init at e
  split at e
  case h_2 => cases e
  rename_i t b
  obtain ⟨⟨hb, hs⟩, e⟩ := ite_some e
  subst e
  have k1 := @cof_small t b hb hs t
  have k2 := @cof_small t b hb hs b
  have isI : ∀ i : Int, G_is_integer [.int i] = some (.bl true) := fun _ => rfl
  by_cases hn : b < 0
  · have e : cof t b = -(Int.gcd t b : Int) := if_pos hn
    simp only [e] at k1 k2
    simp [g_Ratio_init, sSeq, sIf, fNot, fOr, fB, fCall, fCons, fNil, fV, ini, gPos, isI, sNo, sNil, fBin, Dl.gOr, gEqF, litV, scal, sSet, fFun, funGcd, gI0, gI, fC, sIni, hb, hn, fUn, gNeg, uOr, nrm, e]
    simp [k1, k2, endI, Int.gcd] at k1 k2 ⊢
  · have e : cof t b = (Int.gcd t b : Int) := if_neg hn
    simp only [e] at k1 k2
    simp [g_Ratio_init, sSeq, sIf, fNot, fOr, fB, fCall, fCons, fNil, fV, ini, gPos, isI, sNo, sNil, fBin, Dl.gOr, gEqF, litV, scal, sSet, fFun, funGcd, gI0, gI, fC, sIni, hb, hn, fUn, gNeg, uOr, nrm, e]
    simp [k1, k2, endI, Int.gcd] at k1 k2 ⊢
theorem ok_Ratio_init (M : Facts K mg) : FnG P w K mg base 2 M.a_Ratio_init M.d_Ratio_init ["self", "top", "bottom"] (spI (TT K M.C_Ratio) 0 2 G_Ratio_init) :=
  okI (g := g_Ratio_init M.C_Ratio) (C := M.C_Ratio) G_Ratio_init M.F_Ratio_init sc_Ratio_init rfl rfl (fun cdv A outer s H E hq hr =>
    (sts_cons (st_if (pt_n (pt_d (pd_call (ok_is_integer M) hq (hr.mono (by decide)) M.m_is_integer M.F_is_integer.kp (bnd_of 1 M.b_is_integer .nil lits_nil rfl) (pds_cons (pd_v 1) pds_nil) pks_nil))) (sts_one st_no) sts_nil)
    (sts_cons (st_if (PW.pt (w_or (pt_n (pt_d (pd_call (ok_is_integer M) hq (hr.mono (by decide)) M.m_is_integer M.F_is_integer.kp (bnd_of 1 M.b_is_integer .nil lits_nil rfl) (pds_cons (pd_v 2) pds_nil) pks_nil))) (w_or1 (pt_cmp' op_eq opv_eqF (pd_v 2) pd_int rfl)))) (sts_one st_no) sts_nil)
    (sts_cons (st_set 3 sc_Ratio_init.nd (pd_bfun cr_gcd callv_gcd M.m_gcd (pds_cons (pd_v 1) (pds_cons (pd_v 2) pds_nil))))
    (sts_cons (st_if (pt_cmp' op_lt opv_lt (pd_v 2) pd_int rfl) (sts_one (st_set 3 sc_Ratio_init.nd (pd_un un_neg unv_neg (pd_v 3)))) sts_nil)
    (sts_cons (st_ini (i := 0) (pd_op op_fdivNW opv_fdiv (pd_v 1) (pd_v 3)) M.hc_Ratio M.na_Ratio_top)
    (sts_one (st_ini (i := 0) (pd_op op_fdivNW opv_fdiv (pd_v 2) (pd_v 3)) M.hc_Ratio M.na_Ratio_bottom)))))))) fun dx ds fs h1 h2 => tell_Ratio_init M.C_Ratio dx ds fs h1 h2

theorem sc_as_ratio : FnScope ["number"] ["number"] (defScope s_as_ratio) := ⟨rfl, rfl, rfl, by decide +kernel, rfl, by decide +kernel, by decide +kernel⟩
def g_as_ratio : FS := (sSeq (sIf (fB (fIsi (pObj 0) (fV 0))) (sRet (fV 0)) sNil)
    (sRet (fMake 0 G_Ratio_init (gPos [.int 1]) (fCons (fV 0) fNil) fNil)))
def G_as_ratio : List D → Option D := outD 1 g_as_ratio
theorem ok_as_ratio (M : Facts K mg) : FnG P w K mg base 4 M.a_as_ratio M.d_as_ratio ["number"] (sp0 (TT K M.C_Ratio) 1 G_as_ratio) :=
  ok0' (g := g_as_ratio) M.F_as_ratio sc_as_ratio rfl rfl (fun cdv A outer s H E hq hr =>
    (sts_cons (st_if (pt_d (pd_isi (pd_v 0) (pe_glob (v := .ref M.C_Ratio) rfl M.m_Ratio rfl) (ClsV.own M.C_Ratio) M.ca M.i_Ratio M.n_isinstance)) (sts_one (st_ret (pd_v 0))) sts_nil)
    (sts_one (st_ret (pd_make (c := 0) rfl M.mk_Ratio (ok_Ratio_init M) hq (hr.mono (by decide)) M.m_Ratio M.bi_Ratio_init_1 (pds_cons (pd_v 0) pds_nil) pks_nil)))))

theorem sc_Ratio_top : FnScope ["self"] ["self"] (defScope s_Ratio_top) := ⟨rfl, rfl, rfl, by decide +kernel, rfl, by decide +kernel, by decide +kernel⟩
def g_Ratio_top : FS := (sRet (fFld 0 0 (fV 0)))
def G_Ratio_top : List D → Option D := outD 1 g_Ratio_top
theorem ok_Ratio_top (M : Facts K mg) : FnG P w K mg base 1 M.a_Ratio_top M.d_Ratio_top ["self"] (sp0 (TT K M.C_Ratio) 1 G_Ratio_top) :=
  ok0' (g := g_Ratio_top) M.F_Ratio_top sc_Ratio_top rfl rfl (fun cdv A outer s H E hq hr =>
    (sts_one (st_ret (pd_fld (c := 0) (j := 0) (pd_v 0) rfl M.hc_Ratio M.na_Ratio_top))))

theorem sc_Ratio_bottom : FnScope ["self"] ["self"] (defScope s_Ratio_bottom) := ⟨rfl, rfl, rfl, by decide +kernel, rfl, by decide +kernel, by decide +kernel⟩
def g_Ratio_bottom : FS := (sRet (fFld 0 1 (fV 0)))
def G_Ratio_bottom : List D → Option D := outD 1 g_Ratio_bottom
theorem ok_Ratio_bottom (M : Facts K mg) : FnG P w K mg base 1 M.a_Ratio_bottom M.d_Ratio_bottom ["self"] (sp0 (TT K M.C_Ratio) 1 G_Ratio_bottom) :=
  ok0' (g := g_Ratio_bottom) M.F_Ratio_bottom sc_Ratio_bottom rfl rfl (fun cdv A outer s H E hq hr =>
    (sts_one (st_ret (pd_fld (c := 0) (j := 1) (pd_v 0) rfl M.hc_Ratio M.na_Ratio_bottom))))

theorem sc_Ratio_sign : FnScope ["self"] ["self"] (defScope s_Ratio_sign) := ⟨rfl, rfl, rfl, by decide +kernel, rfl, by decide +kernel, by decide +kernel⟩
def g_Ratio_sign : FS := (sSeq (sIf (fB (fBin (gI0 fun i j => .bl (decide (i < j))) (fFld 0 0 (fV 0)) (fC (.int 0)))) (sRet (fUn gNeg (fC (.int 1)))) sNil)
    (sRet (fIf (fB (fBin (gI0 fun i j => .bl (decide (j < i))) (fFld 0 0 (fV 0)) (fC (.int 0)))) (fC (.int 1)) (fC (.int 0)))))
def G_Ratio_sign : List D → Option D := outD 1 g_Ratio_sign
theorem ok_Ratio_sign (M : Facts K mg) : FnG P w K mg base 1 M.a_Ratio_sign M.d_Ratio_sign ["self"] (sp0 (TT K M.C_Ratio) 1 G_Ratio_sign) :=
  ok0' (g := g_Ratio_sign) M.F_Ratio_sign sc_Ratio_sign rfl rfl (fun cdv A outer s H E hq hr =>
    (sts_cons (st_if (pt_cmp' op_lt opv_lt (pd_fld (c := 0) (j := 0) (pd_v 0) rfl M.hc_Ratio M.na_Ratio_top) pd_int rfl) (sts_one (st_ret (pd_un un_neg unv_neg pd_int))) sts_nil)
    (sts_one (st_ret (pd_if (pt_cmp' op_gt opv_gt (pd_fld (c := 0) (j := 0) (pd_v 0) rfl M.hc_Ratio M.na_Ratio_top) pd_int rfl) pd_int pd_int)))))

theorem sc_Ratio_is_whole : FnScope ["self"] ["self"] (defScope s_Ratio_is_whole) := ⟨rfl, rfl, rfl, by decide +kernel, rfl, by decide +kernel, by decide +kernel⟩
def g_Ratio_is_whole : FS := (sRet (fBin gEqF (fFld 0 1 (fV 0)) (fC (.int 1))))
def G_Ratio_is_whole : List D → Option D := outD 1 g_Ratio_is_whole
theorem ok_Ratio_is_whole (M : Facts K mg) : FnG P w K mg base 1 M.a_Ratio_is_whole M.d_Ratio_is_whole ["self"] (sp0 (TT K M.C_Ratio) 1 G_Ratio_is_whole) :=
  ok0' (g := g_Ratio_is_whole) M.F_Ratio_is_whole sc_Ratio_is_whole rfl rfl (fun cdv A outer s H E hq hr =>
    (sts_one (st_ret (pd_cmp op_eq opv_eqF (pd_fld (c := 0) (j := 1) (pd_v 0) rfl M.hc_Ratio M.na_Ratio_bottom) pd_int rfl))))

theorem sc_Ratio_eq : FnScope ["self", "other"] ["self", "other"] (defScope s_Ratio_eq) := ⟨rfl, rfl, rfl, by decide +kernel, rfl, by decide +kernel, by decide +kernel⟩
def g_Ratio_eq : FS := (sRet (fAndV (fIsi (pObj 0) (fV 1)) (fAndV (fBin gEqF (fFld 0 0 (fV 0)) (fFld 0 0 (fV 1))) (fBin gEqF (fFld 0 1 (fV 0)) (fFld 0 1 (fV 1))))))
def G_Ratio_eq : List D → Option D := outD 2 g_Ratio_eq
theorem ok_Ratio_eq (M : Facts K mg) : FnG P w K mg base 1 M.a_Ratio_eq M.d_Ratio_eq ["self", "other"] (sp0 (TT K M.C_Ratio) 2 G_Ratio_eq) :=
  ok0' (g := g_Ratio_eq) M.F_Ratio_eq sc_Ratio_eq rfl rfl (fun cdv A outer s H E hq hr =>
    (sts_one (st_ret (pd_and (pd_isi (pd_v 1) (pe_glob (v := .ref M.C_Ratio) rfl M.m_Ratio rfl) (ClsV.own M.C_Ratio) M.ca M.i_Ratio M.n_isinstance) (pd_and (pd_cmp op_eq opv_eqF (pd_fld (c := 0) (j := 0) (pd_v 0) rfl M.hc_Ratio M.na_Ratio_top) (pd_fld (c := 0) (j := 0) (pd_v 1) rfl M.hc_Ratio M.na_Ratio_top) rfl) (pd_one (pd_cmp op_eq opv_eqF (pd_fld (c := 0) (j := 1) (pd_v 0) rfl M.hc_Ratio M.na_Ratio_bottom) (pd_fld (c := 0) (j := 1) (pd_v 1) rfl M.hc_Ratio M.na_Ratio_bottom) rfl)))))))

theorem sc_Ratio_str : FnScope ["self"] ["self"] (defScope s_Ratio_str) := ⟨rfl, rfl, rfl, by decide +kernel, rfl, by decide +kernel, by decide +kernel⟩
def g_Ratio_str : FS := (sSeq (sIf (fB (fBin (gOr gEqF (gOwnE 0 G_Ratio_eq)) (fFld 0 1 (fV 0)) (fC (.int 1)))) (sRet (fFun funStrI (fCons (fFld 0 0 (fV 0)) fNil))) sNil)
    (sRet (fJoin [fFmt (fFld 0 0 (fV 0)), fC (.str "/"), fFmt (fFld 0 1 (fV 0))] Str.empty)))
def G_Ratio_str : List D → Option D := outD 1 g_Ratio_str
theorem ok_Ratio_str (M : Facts K mg) : FnG P w K mg base 2 M.a_Ratio_str M.d_Ratio_str ["self"] (sp0 (TT K M.C_Ratio) 1 G_Ratio_str) :=
  ok0' (g := g_Ratio_str) M.F_Ratio_str sc_Ratio_str rfl rfl (fun cdv A outer s H E hq hr =>
    (sts_cons (st_if (pt_cmp' (Dl.OpR.or op_eq (op_ownE (T := TT K M.C_Ratio) (E := E0) M.e_Ratio_eq M.ef_Ratio_eq (ok_Ratio_eq M) hq (hr.mono (by decide)) M.b_Ratio_eq rfl)) (Dl.OpV.or opv_eqF (opv_ownE (c := 0) rfl M.tp_Ratio)) (pd_fld (c := 0) (j := 1) (pd_v 0) rfl M.hc_Ratio M.na_Ratio_bottom) pd_int rfl) (sts_one (st_ret (pd_bty call_str_int callv_strI M.n_str (by decide +kernel) (pds_cons (pd_fld (c := 0) (j := 0) (pd_v 0) rfl M.hc_Ratio M.na_Ratio_top) pds_nil)))) sts_nil)
    (sts_one (st_ret (pd_joined (.cons (pd_fmt (pd_fld (c := 0) (j := 0) (pd_v 0) rfl M.hc_Ratio M.na_Ratio_top)) (.cons pd_str (.cons (pd_fmt (pd_fld (c := 0) (j := 1) (pd_v 0) rfl M.hc_Ratio M.na_Ratio_bottom)) .nil))))))))

theorem sc_Ratio_repr : FnScope ["self"] ["self"] (defScope s_Ratio_repr) := ⟨rfl, rfl, rfl, by decide +kernel, rfl, by decide +kernel, by decide +kernel⟩
def g_Ratio_repr : FS := (sRet (fJoin [fC (.str "Ratio("), fFmt (fFld 0 0 (fV 0)), fC (.str ", "), fFmt (fFld 0 1 (fV 0)), fC (.str ")")] Str.empty))
def G_Ratio_repr : List D → Option D := outD 1 g_Ratio_repr
theorem ok_Ratio_repr (M : Facts K mg) : FnG P w K mg base 1 M.a_Ratio_repr M.d_Ratio_repr ["self"] (sp0 (TT K M.C_Ratio) 1 G_Ratio_repr) :=
  ok0' (g := g_Ratio_repr) M.F_Ratio_repr sc_Ratio_repr rfl rfl (fun cdv A outer s H E hq hr =>
    (sts_one (st_ret (pd_joined (.cons pd_str (.cons (pd_fmt (pd_fld (c := 0) (j := 0) (pd_v 0) rfl M.hc_Ratio M.na_Ratio_top)) (.cons pd_str (.cons (pd_fmt (pd_fld (c := 0) (j := 1) (pd_v 0) rfl M.hc_Ratio M.na_Ratio_bottom)) (.cons pd_str .nil)))))))))

theorem sc_Ratio_neg : FnScope ["self"] ["self"] (defScope s_Ratio_neg) := ⟨rfl, rfl, rfl, by decide +kernel, rfl, by decide +kernel, by decide +kernel⟩
def g_Ratio_neg : FS := (sRet (fMake 0 G_Ratio_init (gPos []) (fCons (fUn gNeg (fFld 0 0 (fV 0))) (fCons (fFld 0 1 (fV 0)) fNil)) fNil))
def G_Ratio_neg : List D → Option D := outD 1 g_Ratio_neg
theorem ok_Ratio_neg (M : Facts K mg) : FnG P w K mg base 4 M.a_Ratio_neg M.d_Ratio_neg ["self"] (sp0 (TT K M.C_Ratio) 1 G_Ratio_neg) :=
  ok0' (g := g_Ratio_neg) M.F_Ratio_neg sc_Ratio_neg rfl rfl (fun cdv A outer s H E hq hr =>
    (sts_one (st_ret (pd_make (c := 0) rfl M.mk_Ratio (ok_Ratio_init M) hq (hr.mono (by decide)) M.m_Ratio M.bi_Ratio_init_2 (pds_cons (pd_un un_neg unv_neg (pd_fld (c := 0) (j := 0) (pd_v 0) rfl M.hc_Ratio M.na_Ratio_top)) (pds_cons (pd_fld (c := 0) (j := 1) (pd_v 0) rfl M.hc_Ratio M.na_Ratio_bottom) pds_nil)) pks_nil))))

theorem sc_Ratio_add : FnScope ["self", "other", "right"] ["self", "other"] (defScope s_Ratio_add) := ⟨rfl, rfl, rfl, by decide +kernel, rfl, by decide +kernel, by decide +kernel⟩
def g_Ratio_add : FS := (sSeq (sSet 2 (fCall G_as_ratio (gPos []) (fCons (fV 1) fNil) fNil))
    (sRet (fMake 0 G_Ratio_init (gPos []) (fCons (fBin gAdd0 (fBin (gI okMul fun i j => .int (i * j)) (fFld 0 0 (fV 0)) (fFld 0 1 (fV 2))) (fBin (gI okMul fun i j => .int (i * j)) (fFld 0 0 (fV 2)) (fFld 0 1 (fV 0)))) (fCons (fBin (gI okMul fun i j => .int (i * j)) (fFld 0 1 (fV 0)) (fFld 0 1 (fV 2))) fNil)) fNil)))
def G_Ratio_add : List D → Option D := outD 3 g_Ratio_add
theorem ok_Ratio_add (M : Facts K mg) : FnG P w K mg base 5 M.a_Ratio_add M.d_Ratio_add ["self", "other"] (sp0 (TT K M.C_Ratio) 2 G_Ratio_add) :=
  ok0' (g := g_Ratio_add) M.F_Ratio_add sc_Ratio_add rfl rfl (fun cdv A outer s H E hq hr =>
    (sts_cons (st_set 2 sc_Ratio_add.nd (pd_call (ok_as_ratio M) hq (hr.mono (by decide)) M.m_as_ratio M.F_as_ratio.kp (bnd_of 1 M.b_as_ratio .nil lits_nil rfl) (pds_cons (pd_v 1) pds_nil) pks_nil))
    (sts_one (st_ret (pd_make (c := 0) rfl M.mk_Ratio (ok_Ratio_init M) hq (hr.mono (by decide)) M.m_Ratio M.bi_Ratio_init_2 (pds_cons (pd_op op_add0 opv_add0 (pd_op op_mulW opv_mulW (pd_fld (c := 0) (j := 0) (pd_v 0) rfl M.hc_Ratio M.na_Ratio_top) (pd_fld (c := 0) (j := 1) (pd_v 2) rfl M.hc_Ratio M.na_Ratio_bottom)) (pd_op op_mulW opv_mulW (pd_fld (c := 0) (j := 0) (pd_v 2) rfl M.hc_Ratio M.na_Ratio_top) (pd_fld (c := 0) (j := 1) (pd_v 0) rfl M.hc_Ratio M.na_Ratio_bottom))) (pds_cons (pd_op op_mulW opv_mulW (pd_fld (c := 0) (j := 1) (pd_v 0) rfl M.hc_Ratio M.na_Ratio_bottom) (pd_fld (c := 0) (j := 1) (pd_v 2) rfl M.hc_Ratio M.na_Ratio_bottom)) pds_nil)) pks_nil)))))

theorem sc_Ratio_radd : FnScope ["self", "other"] ["self", "other"] (defScope s_Ratio_radd) := ⟨rfl, rfl, rfl, by decide +kernel, rfl, by decide +kernel, by decide +kernel⟩
def g_Ratio_radd : FS := (sRet (fBin (gOr gAdd0 (gOwn2 0 G_Ratio_add)) (fCall G_as_ratio (gPos []) (fCons (fV 1) fNil) fNil) (fV 0)))
def G_Ratio_radd : List D → Option D := outD 2 g_Ratio_radd
theorem ok_Ratio_radd (M : Facts K mg) : FnG P w K mg base 6 M.a_Ratio_radd M.d_Ratio_radd ["self", "other"] (sp0 (TT K M.C_Ratio) 2 G_Ratio_radd) :=
  ok0' (g := g_Ratio_radd) M.F_Ratio_radd sc_Ratio_radd rfl rfl (fun cdv A outer s H E hq hr =>
    (sts_one (st_ret (pd_op (Dl.OpR.or op_add0 (op_ownB (E := E0) M.o_Ratio_add (ok_Ratio_add M) hq (hr.mono (by decide)) M.b_Ratio_add rfl)) (Dl.OpV.or opv_add0 (opv_own2 (c := 0) rfl)) (pd_call (ok_as_ratio M) hq (hr.mono (by decide)) M.m_as_ratio M.F_as_ratio.kp (bnd_of 1 M.b_as_ratio .nil lits_nil rfl) (pds_cons (pd_v 1) pds_nil) pks_nil) (pd_v 0)))))

theorem sc_Ratio_sub : FnScope ["self", "other", "right"] ["self", "other"] (defScope s_Ratio_sub) := ⟨rfl, rfl, rfl, by decide +kernel, rfl, by decide +kernel, by decide +kernel⟩
def g_Ratio_sub : FS := (sSeq (sSet 2 (fCall G_as_ratio (gPos []) (fCons (fV 1) fNil) fNil))
    (sRet (fMake 0 G_Ratio_init (gPos []) (fCons (fBin (gI0 fun i j => .int (i - j)) (fBin (gI okMul fun i j => .int (i * j)) (fFld 0 0 (fV 0)) (fFld 0 1 (fV 2))) (fBin (gI okMul fun i j => .int (i * j)) (fFld 0 0 (fV 2)) (fFld 0 1 (fV 0)))) (fCons (fBin (gI okMul fun i j => .int (i * j)) (fFld 0 1 (fV 0)) (fFld 0 1 (fV 2))) fNil)) fNil)))
def G_Ratio_sub : List D → Option D := outD 3 g_Ratio_sub
theorem ok_Ratio_sub (M : Facts K mg) : FnG P w K mg base 5 M.a_Ratio_sub M.d_Ratio_sub ["self", "other"] (sp0 (TT K M.C_Ratio) 2 G_Ratio_sub) :=
  ok0' (g := g_Ratio_sub) M.F_Ratio_sub sc_Ratio_sub rfl rfl (fun cdv A outer s H E hq hr =>
    (sts_cons (st_set 2 sc_Ratio_sub.nd (pd_call (ok_as_ratio M) hq (hr.mono (by decide)) M.m_as_ratio M.F_as_ratio.kp (bnd_of 1 M.b_as_ratio .nil lits_nil rfl) (pds_cons (pd_v 1) pds_nil) pks_nil))
    (sts_one (st_ret (pd_make (c := 0) rfl M.mk_Ratio (ok_Ratio_init M) hq (hr.mono (by decide)) M.m_Ratio M.bi_Ratio_init_2 (pds_cons (pd_op op_sub opv_sub (pd_op op_mulW opv_mulW (pd_fld (c := 0) (j := 0) (pd_v 0) rfl M.hc_Ratio M.na_Ratio_top) (pd_fld (c := 0) (j := 1) (pd_v 2) rfl M.hc_Ratio M.na_Ratio_bottom)) (pd_op op_mulW opv_mulW (pd_fld (c := 0) (j := 0) (pd_v 2) rfl M.hc_Ratio M.na_Ratio_top) (pd_fld (c := 0) (j := 1) (pd_v 0) rfl M.hc_Ratio M.na_Ratio_bottom))) (pds_cons (pd_op op_mulW opv_mulW (pd_fld (c := 0) (j := 1) (pd_v 0) rfl M.hc_Ratio M.na_Ratio_bottom) (pd_fld (c := 0) (j := 1) (pd_v 2) rfl M.hc_Ratio M.na_Ratio_bottom)) pds_nil)) pks_nil)))))

theorem sc_Ratio_rsub : FnScope ["self", "other"] ["self", "other"] (defScope s_Ratio_rsub) := ⟨rfl, rfl, rfl, by decide +kernel, rfl, by decide +kernel, by decide +kernel⟩
def g_Ratio_rsub : FS := (sRet (fBin (gOr (gI0 fun i j => .int (i - j)) (gOwn2 0 G_Ratio_sub)) (fCall G_as_ratio (gPos []) (fCons (fV 1) fNil) fNil) (fV 0)))
def G_Ratio_rsub : List D → Option D := outD 2 g_Ratio_rsub
theorem ok_Ratio_rsub (M : Facts K mg) : FnG P w K mg base 6 M.a_Ratio_rsub M.d_Ratio_rsub ["self", "other"] (sp0 (TT K M.C_Ratio) 2 G_Ratio_rsub) :=
  ok0' (g := g_Ratio_rsub) M.F_Ratio_rsub sc_Ratio_rsub rfl rfl (fun cdv A outer s H E hq hr =>
    (sts_one (st_ret (pd_op (Dl.OpR.or op_sub (op_ownB (E := E0) M.o_Ratio_sub (ok_Ratio_sub M) hq (hr.mono (by decide)) M.b_Ratio_sub rfl)) (Dl.OpV.or opv_sub (opv_own2 (c := 0) rfl)) (pd_call (ok_as_ratio M) hq (hr.mono (by decide)) M.m_as_ratio M.F_as_ratio.kp (bnd_of 1 M.b_as_ratio .nil lits_nil rfl) (pds_cons (pd_v 1) pds_nil) pks_nil) (pd_v 0)))))

theorem sc_Ratio_mul : FnScope ["self", "other", "right"] ["self", "other"] (defScope s_Ratio_mul) := ⟨rfl, rfl, rfl, by decide +kernel, rfl, by decide +kernel, by decide +kernel⟩
def g_Ratio_mul : FS := (sSeq (sSet 2 (fCall G_as_ratio (gPos []) (fCons (fV 1) fNil) fNil))
    (sRet (fMake 0 G_Ratio_init (gPos []) (fCons (fBin (gI okMul fun i j => .int (i * j)) (fFld 0 0 (fV 0)) (fFld 0 0 (fV 2))) (fCons (fBin (gI okMul fun i j => .int (i * j)) (fFld 0 1 (fV 0)) (fFld 0 1 (fV 2))) fNil)) fNil)))
def G_Ratio_mul : List D → Option D := outD 3 g_Ratio_mul
theorem ok_Ratio_mul (M : Facts K mg) : FnG P w K mg base 5 M.a_Ratio_mul M.d_Ratio_mul ["self", "other"] (sp0 (TT K M.C_Ratio) 2 G_Ratio_mul) :=
  ok0' (g := g_Ratio_mul) M.F_Ratio_mul sc_Ratio_mul rfl rfl (fun cdv A outer s H E hq hr =>
    (sts_cons (st_set 2 sc_Ratio_mul.nd (pd_call (ok_as_ratio M) hq (hr.mono (by decide)) M.m_as_ratio M.F_as_ratio.kp (bnd_of 1 M.b_as_ratio .nil lits_nil rfl) (pds_cons (pd_v 1) pds_nil) pks_nil))
    (sts_one (st_ret (pd_make (c := 0) rfl M.mk_Ratio (ok_Ratio_init M) hq (hr.mono (by decide)) M.m_Ratio M.bi_Ratio_init_2 (pds_cons (pd_op op_mulW opv_mulW (pd_fld (c := 0) (j := 0) (pd_v 0) rfl M.hc_Ratio M.na_Ratio_top) (pd_fld (c := 0) (j := 0) (pd_v 2) rfl M.hc_Ratio M.na_Ratio_top)) (pds_cons (pd_op op_mulW opv_mulW (pd_fld (c := 0) (j := 1) (pd_v 0) rfl M.hc_Ratio M.na_Ratio_bottom) (pd_fld (c := 0) (j := 1) (pd_v 2) rfl M.hc_Ratio M.na_Ratio_bottom)) pds_nil)) pks_nil)))))

theorem sc_Ratio_rmul : FnScope ["self", "other"] ["self", "other"] (defScope s_Ratio_rmul) := ⟨rfl, rfl, rfl, by decide +kernel, rfl, by decide +kernel, by decide +kernel⟩
def g_Ratio_rmul : FS := (sRet (fBin (gOr (gI okMul fun i j => .int (i * j)) (gOwn2 0 G_Ratio_mul)) (fCall G_as_ratio (gPos []) (fCons (fV 1) fNil) fNil) (fV 0)))
def G_Ratio_rmul : List D → Option D := outD 2 g_Ratio_rmul
theorem ok_Ratio_rmul (M : Facts K mg) : FnG P w K mg base 6 M.a_Ratio_rmul M.d_Ratio_rmul ["self", "other"] (sp0 (TT K M.C_Ratio) 2 G_Ratio_rmul) :=
  ok0' (g := g_Ratio_rmul) M.F_Ratio_rmul sc_Ratio_rmul rfl rfl (fun cdv A outer s H E hq hr =>
    (sts_one (st_ret (pd_op (Dl.OpR.or op_mulW (op_ownB (E := E0) M.o_Ratio_mul (ok_Ratio_mul M) hq (hr.mono (by decide)) M.b_Ratio_mul rfl)) (Dl.OpV.or opv_mulW (opv_own2 (c := 0) rfl)) (pd_call (ok_as_ratio M) hq (hr.mono (by decide)) M.m_as_ratio M.F_as_ratio.kp (bnd_of 1 M.b_as_ratio .nil lits_nil rfl) (pds_cons (pd_v 1) pds_nil) pks_nil) (pd_v 0)))))

theorem sc_Ratio_over : FnScope ["self", "other", "right"] ["self", "other"] (defScope s_Ratio_over) := ⟨rfl, rfl, rfl, by decide +kernel, rfl, by decide +kernel, by decide +kernel⟩
def g_Ratio_over : FS := (sSeq (sSet 2 (fCall G_as_ratio (gPos []) (fCons (fV 1) fNil) fNil))
    (sSeq (sIf (fB (fBin (gOr gEqF (gOwnE 0 G_Ratio_eq)) (fProp 0 G_Ratio_sign (fV 2)) (fC (.int 0)))) sNo sNil)
    (sRet (fMake 0 G_Ratio_init (gPos []) (fCons (fBin (gOr (gOr (gI okMul fun i j => .int (i * j)) (gOwn2 0 G_Ratio_mul)) (gOwnR 0 G_Ratio_rmul)) (fFld 0 0 (fV 0)) (fProp 0 G_Ratio_bottom (fV 2))) (fCons (fBin (gOr (gOr (gI okMul fun i j => .int (i * j)) (gOwn2 0 G_Ratio_mul)) (gOwnR 0 G_Ratio_rmul)) (fFld 0 1 (fV 0)) (fProp 0 G_Ratio_top (fV 2))) fNil)) fNil))))
def G_Ratio_over : List D → Option D := outD 3 g_Ratio_over
theorem ok_Ratio_over (M : Facts K mg) : FnG P w K mg base 7 M.a_Ratio_over M.d_Ratio_over ["self", "other"] (sp0 (TT K M.C_Ratio) 2 G_Ratio_over) :=
  ok0' (g := g_Ratio_over) M.F_Ratio_over sc_Ratio_over rfl rfl (fun cdv A outer s H E hq hr =>
    (sts_cons (st_set 2 sc_Ratio_over.nd (pd_call (ok_as_ratio M) hq (hr.mono (by decide)) M.m_as_ratio M.F_as_ratio.kp (bnd_of 1 M.b_as_ratio .nil lits_nil rfl) (pds_cons (pd_v 1) pds_nil) pks_nil))
    (sts_cons (st_if (pt_cmp' (Dl.OpR.or op_eq (op_ownE (T := TT K M.C_Ratio) (E := E0) M.e_Ratio_eq M.ef_Ratio_eq (ok_Ratio_eq M) hq (hr.mono (by decide)) M.b_Ratio_eq rfl)) (Dl.OpV.or opv_eqF (opv_ownE (c := 0) rfl M.tp_Ratio)) (pd_prop (c := 0) (pd_v 2) rfl M.hc_Ratio M.pr_Ratio_sign (ok_Ratio_sign M) hq (hr.mono (by decide)) M.b_Ratio_sign) pd_int rfl) (sts_one st_no) sts_nil)
    (sts_one (st_ret (pd_make (c := 0) rfl M.mk_Ratio (ok_Ratio_init M) hq (hr.mono (by decide)) M.m_Ratio M.bi_Ratio_init_2 (pds_cons (pd_op (Dl.OpR.or (Dl.OpR.or op_mulW (op_ownB (E := E0) M.o_Ratio_mul (ok_Ratio_mul M) hq (hr.mono (by decide)) M.b_Ratio_mul rfl)) (op_rmul (E := E0) M.r_Ratio_rmul (ok_Ratio_rmul M) hq (hr.mono (by decide)) M.b_Ratio_rmul rfl)) (Dl.OpV.or (Dl.OpV.or opv_mulW (opv_own2 (c := 0) rfl)) (opv_ownR (c := 0) rfl)) (pd_fld (c := 0) (j := 0) (pd_v 0) rfl M.hc_Ratio M.na_Ratio_top) (pd_prop (c := 0) (pd_v 2) rfl M.hc_Ratio M.pr_Ratio_bottom (ok_Ratio_bottom M) hq (hr.mono (by decide)) M.b_Ratio_bottom)) (pds_cons (pd_op (Dl.OpR.or (Dl.OpR.or op_mulW (op_ownB (E := E0) M.o_Ratio_mul (ok_Ratio_mul M) hq (hr.mono (by decide)) M.b_Ratio_mul rfl)) (op_rmul (E := E0) M.r_Ratio_rmul (ok_Ratio_rmul M) hq (hr.mono (by decide)) M.b_Ratio_rmul rfl)) (Dl.OpV.or (Dl.OpV.or opv_mulW (opv_own2 (c := 0) rfl)) (opv_ownR (c := 0) rfl)) (pd_fld (c := 0) (j := 1) (pd_v 0) rfl M.hc_Ratio M.na_Ratio_bottom) (pd_prop (c := 0) (pd_v 2) rfl M.hc_Ratio M.pr_Ratio_top (ok_Ratio_top M) hq (hr.mono (by decide)) M.b_Ratio_top)) pds_nil)) pks_nil))))))

theorem sc_Ratio_size : FnScope ["self"] ["self"] (defScope s_Ratio_size) := ⟨rfl, rfl, rfl, by decide +kernel, rfl, by decide +kernel, by decide +kernel⟩
def g_Ratio_size : FS := (sRet (fMake 0 G_Ratio_init (gPos []) (fCons (fFun (fun1I fun i => .int (if i < 0 then -i else i)) (fCons (fFld 0 0 (fV 0)) fNil)) (fCons (fFld 0 1 (fV 0)) fNil)) fNil))
def G_Ratio_size : List D → Option D := outD 1 g_Ratio_size
theorem ok_Ratio_size (M : Facts K mg) : FnG P w K mg base 4 M.a_Ratio_size M.d_Ratio_size ["self"] (sp0 (TT K M.C_Ratio) 1 G_Ratio_size) :=
  ok0' (g := g_Ratio_size) M.F_Ratio_size sc_Ratio_size rfl rfl (fun cdv A outer s H E hq hr =>
    (sts_one (st_ret (pd_make (c := 0) rfl M.mk_Ratio (ok_Ratio_init M) hq (hr.mono (by decide)) M.m_Ratio M.bi_Ratio_init_2 (pds_cons (pd_blt call_abs callv_abs M.n_abs (by decide +kernel) (pds_cons (pd_fld (c := 0) (j := 0) (pd_v 0) rfl M.hc_Ratio M.na_Ratio_top) pds_nil)) (pds_cons (pd_fld (c := 0) (j := 1) (pd_v 0) rfl M.hc_Ratio M.na_Ratio_bottom) pds_nil)) pks_nil))))

theorem sc_Ratio_is_below : FnScope ["self", "other"] ["self", "other"] (defScope s_Ratio_is_below) := ⟨rfl, rfl, rfl, by decide +kernel, rfl, by decide +kernel, by decide +kernel⟩
def g_Ratio_is_below : FS := (sRet (fBin (gI0 fun i j => .bl (decide (i < j))) (fProp 0 G_Ratio_sign (fBin (gOr (gOr (gI0 fun i j => .int (i - j)) (gOwn2 0 G_Ratio_sub)) (gOwnR 0 G_Ratio_rsub)) (fV 0) (fV 1))) (fC (.int 0))))
def G_Ratio_is_below : List D → Option D := outD 2 g_Ratio_is_below
theorem ok_Ratio_is_below (M : Facts K mg) : FnG P w K mg base 7 M.a_Ratio_is_below M.d_Ratio_is_below ["self", "other"] (sp0 (TT K M.C_Ratio) 2 G_Ratio_is_below) :=
  ok0' (g := g_Ratio_is_below) M.F_Ratio_is_below sc_Ratio_is_below rfl rfl (fun cdv A outer s H E hq hr =>
    (sts_one (st_ret (pd_cmp op_lt opv_lt (pd_prop (c := 0) (pd_op (Dl.OpR.or (Dl.OpR.or op_sub (op_ownB (E := E0) M.o_Ratio_sub (ok_Ratio_sub M) hq (hr.mono (by decide)) M.b_Ratio_sub rfl)) (op_rsub (E := E0) M.r_Ratio_rsub (ok_Ratio_rsub M) hq (hr.mono (by decide)) M.b_Ratio_rsub rfl)) (Dl.OpV.or (Dl.OpV.or opv_sub (opv_own2 (c := 0) rfl)) (opv_ownR (c := 0) rfl)) (pd_v 0) (pd_v 1)) rfl M.hc_Ratio M.pr_Ratio_sign (ok_Ratio_sign M) hq (hr.mono (by decide)) M.b_Ratio_sign) pd_int rfl))))

theorem sc_Ratio_is_at_most : FnScope ["self", "other"] ["self", "other"] (defScope s_Ratio_is_at_most) := ⟨rfl, rfl, rfl, by decide +kernel, rfl, by decide +kernel, by decide +kernel⟩
def g_Ratio_is_at_most : FS := (sRet (fBin (gI0 fun i j => .bl (decide (i ≤ j))) (fProp 0 G_Ratio_sign (fBin (gOr (gOr (gI0 fun i j => .int (i - j)) (gOwn2 0 G_Ratio_sub)) (gOwnR 0 G_Ratio_rsub)) (fV 0) (fV 1))) (fC (.int 0))))
def G_Ratio_is_at_most : List D → Option D := outD 2 g_Ratio_is_at_most
theorem ok_Ratio_is_at_most (M : Facts K mg) : FnG P w K mg base 7 M.a_Ratio_is_at_most M.d_Ratio_is_at_most ["self", "other"] (sp0 (TT K M.C_Ratio) 2 G_Ratio_is_at_most) :=
  ok0' (g := g_Ratio_is_at_most) M.F_Ratio_is_at_most sc_Ratio_is_at_most rfl rfl (fun cdv A outer s H E hq hr =>
    (sts_one (st_ret (pd_cmp op_le opv_le (pd_prop (c := 0) (pd_op (Dl.OpR.or (Dl.OpR.or op_sub (op_ownB (E := E0) M.o_Ratio_sub (ok_Ratio_sub M) hq (hr.mono (by decide)) M.b_Ratio_sub rfl)) (op_rsub (E := E0) M.r_Ratio_rsub (ok_Ratio_rsub M) hq (hr.mono (by decide)) M.b_Ratio_rsub rfl)) (Dl.OpV.or (Dl.OpV.or opv_sub (opv_own2 (c := 0) rfl)) (opv_ownR (c := 0) rfl)) (pd_v 0) (pd_v 1)) rfl M.hc_Ratio M.pr_Ratio_sign (ok_Ratio_sign M) hq (hr.mono (by decide)) M.b_Ratio_sign) pd_int rfl))))

theorem sc_Ratio_total : FnScope ["cls", "numbers", "found", "number"] ["cls", "numbers"] (defScope s_Ratio_total) := ⟨rfl, rfl, rfl, by decide +kernel, rfl, by decide +kernel, by decide +kernel⟩
def g_Ratio_total : FS := (sSeq (sIf (fNot (fB (fCall G_is_list (gPos []) (fCons (fV 1) fNil) fNil))) sNo sNil)
    (sSeq (sSet 2 (fMakeL 0 0 G_Ratio_init (gPos [.int 1]) (fCons (fC (.int 0)) fNil) fNil))
    (sSeq (sFor (fSq (fV 1)) (gN 3) (sSet 2 (fBin (gOr (gOr gAdd0 (gOwn2 0 G_Ratio_add)) (gOwnR 0 G_Ratio_radd)) (fV 2) (fV 3))))
    (sRet (fV 2)))))
def G_Ratio_total : List D → Option D := outD 4 g_Ratio_total
theorem ok_Ratio_total (M : Facts K mg) : FnG P w K mg base 7 M.a_Ratio_total M.d_Ratio_total ["cls", "numbers"] (sp0 (TT K M.C_Ratio) 2 G_Ratio_total) :=
  ok0' (g := g_Ratio_total) M.F_Ratio_total sc_Ratio_total rfl rfl (fun cdv A outer s H E hq hr =>
    (sts_cons (st_if (pt_n (pt_d (pd_call (ok_is_list M) hq (hr.mono (by decide)) M.m_is_list M.F_is_list.kp (bnd_of 1 M.b_is_list .nil lits_nil rfl) (pds_cons (pd_v 1) pds_nil) pks_nil))) (sts_one st_no) sts_nil)
    (sts_cons (st_set 2 sc_Ratio_total.nd (pd_makeL (i := 0) (c := 0) rfl M.mk_Ratio (ok_Ratio_init M) hq (hr.mono (by decide)) M.bi_Ratio_init_1 (pds_cons pd_int pds_nil) pks_nil))
    (sts_cons (st_for (ws := [3]) PassesOwn.never rfl (pid_sq (pd_v 1)) (tg_n 3 sc_Ratio_total.nd) (sts_one (st_set 2 sc_Ratio_total.nd (pd_op (Dl.OpR.or (Dl.OpR.or op_add0 (op_ownB (E := E0) M.o_Ratio_add (ok_Ratio_add M) hq (hr.mono (by decide)) M.b_Ratio_add rfl)) (op_radd (E := E0) M.r_Ratio_radd (ok_Ratio_radd M) hq (hr.mono (by decide)) M.b_Ratio_radd rfl)) (Dl.OpV.or (Dl.OpV.or opv_add0 (opv_own2 (c := 0) rfl)) (opv_ownR (c := 0) rfl)) (pd_v 2) (pd_v 3)))))
    (sts_one (st_ret (pd_v 2)))))))

theorem sc_law_is : FnScope ["_law_ratio", "_law_top_here", "_law_bottom", "_law_text", "_law_sign"] ["_law_ratio", "_law_top_here", "_law_bottom"] (defScope s_law_is) := ⟨rfl, rfl, rfl, by decide +kernel, rfl, by decide +kernel, by decide +kernel⟩
def g_law_is : FS := (sSeq (sIf (fOr (fNot (fB (fIsi (pObj 0) (fV 0)))) (fOr (fB (fBin (gI0 fun i j => .bl (decide (i < j))) (fProp 0 G_Ratio_bottom (fV 0)) (fC (.int 1)))) (fOr (fB (fBin (gOr gNeF (gOwnNe 0 G_Ratio_eq)) (fBin (gOr (gOr (gI okMul fun i j => .int (i * j)) (gOwn2 0 G_Ratio_mul)) (gOwnR 0 G_Ratio_rmul)) (fProp 0 G_Ratio_top (fV 0)) (fV 2)) (fBin (gOr (gOr (gI okMul fun i j => .int (i * j)) (gOwn2 0 G_Ratio_mul)) (gOwnR 0 G_Ratio_rmul)) (fV 1) (fProp 0 G_Ratio_bottom (fV 0))))) (fB (fBin (gOr gNeF (gOwnNe 0 G_Ratio_eq)) (fCall G_law_common (gPos []) (fCons (fProp 0 G_Ratio_top (fV 0)) (fCons (fProp 0 G_Ratio_bottom (fV 0)) fNil)) fNil) (fC (.int 1))))))) (sRet (fC (.bl false))) sNil)
    (sSeq (sSet 3 (fBin (gOr (gOr gAdd0 (gOwn2 0 G_Ratio_add)) (gOwnR 0 G_Ratio_radd)) (fFun (funOr funStrI (funTxt 0 G_Ratio_str)) (fCons (fProp 0 G_Ratio_top (fV 0)) fNil)) (fIf (fB (fBin (gOr gNeF (gOwnNe 0 G_Ratio_eq)) (fProp 0 G_Ratio_bottom (fV 0)) (fC (.int 1)))) (fBin (gOr (gOr gAdd0 (gOwn2 0 G_Ratio_add)) (gOwnR 0 G_Ratio_radd)) (fC (.str "/")) (fFun (funOr funStrI (funTxt 0 G_Ratio_str)) (fCons (fProp 0 G_Ratio_bottom (fV 0)) fNil))) (fC (.str "")))))
    (sSeq (sIf (fOr (fB (fBin (gOr gNeF (gOwnNe 0 G_Ratio_eq)) (fFun (funOr funStrI (funTxt 0 G_Ratio_str)) (fCons (fV 0) fNil)) (fV 3))) (fB (fBin (gOr gNeF (gOwnNe 0 G_Ratio_eq)) (fFun (funOr funReprD (funTxt 0 G_Ratio_repr)) (fCons (fV 0) fNil)) (fBin (gOr (gOr gAdd0 (gOwn2 0 G_Ratio_add)) (gOwnR 0 G_Ratio_radd)) (fBin (gOr (gOr gAdd0 (gOwn2 0 G_Ratio_add)) (gOwnR 0 G_Ratio_radd)) (fBin (gOr (gOr gAdd0 (gOwn2 0 G_Ratio_add)) (gOwnR 0 G_Ratio_radd)) (fBin (gOr (gOr gAdd0 (gOwn2 0 G_Ratio_add)) (gOwnR 0 G_Ratio_radd)) (fC (.str "Ratio(")) (fFun (funOr funStrI (funTxt 0 G_Ratio_str)) (fCons (fProp 0 G_Ratio_top (fV 0)) fNil))) (fC (.str ", "))) (fFun (funOr funStrI (funTxt 0 G_Ratio_str)) (fCons (fProp 0 G_Ratio_bottom (fV 0)) fNil))) (fC (.str ")")))))) (sRet (fC (.bl false))) sNil)
    (sSeq (sSet 4 (fBin (gOr (gOr (gI0 fun i j => .int (i - j)) (gOwn2 0 G_Ratio_sub)) (gOwnR 0 G_Ratio_rsub)) (fFun funInt (fCons (fBin (gI0 fun i j => .bl (decide (j < i))) (fProp 0 G_Ratio_top (fV 0)) (fC (.int 0))) fNil)) (fFun funInt (fCons (fBin (gI0 fun i j => .bl (decide (i < j))) (fProp 0 G_Ratio_top (fV 0)) (fC (.int 0))) fNil))))
    (sRet (fAndV (fBin (gOr gEqF (gOwnE 0 G_Ratio_eq)) (fFun (funOr funReprD (funTxt 0 G_Ratio_repr)) (fCons (fFr (fLst (fCons (fProp 0 G_Ratio_sign (fV 0)) (fCons (fProp 0 G_Ratio_is_whole (fV 0)) fNil)))) fNil)) (fFun (funOr funReprD (funTxt 0 G_Ratio_repr)) (fCons (fFr (fLst (fCons (fV 4) (fCons (fBin (gOr gEqF (gOwnE 0 G_Ratio_eq)) (fProp 0 G_Ratio_bottom (fV 0)) (fC (.int 1))) fNil)))) fNil))) (fBin (gOr gEqF (gOwnE 0 G_Ratio_eq)) (fMeth 0 G_Ratio_size (gPos []) (fV 0) fNil fNil) (fMake 0 G_Ratio_init (gPos []) (fCons (fFun (fun1I fun i => .int (if i < 0 then -i else i)) (fCons (fProp 0 G_Ratio_top (fV 0)) fNil)) (fCons (fProp 0 G_Ratio_bottom (fV 0)) fNil)) fNil))))))))
def G_law_is : List D → Option D := outD 5 g_law_is
theorem ok_law_is (M : Facts K mg) : FnG P w K mg base 7 M.a_law_is M.d_law_is ["_law_ratio", "_law_top_here", "_law_bottom"] (sp0 (TT K M.C_Ratio) 3 G_law_is) :=
  ok0' (g := g_law_is) M.F_law_is sc_law_is rfl rfl (fun cdv A outer s H E hq hr =>
    (sts_cons (st_if (PW.pt (w_or (pt_n (pt_d (pd_isi (pd_v 0) (pe_glob (v := .ref M.C_Ratio) rfl M.m_Ratio rfl) (ClsV.own M.C_Ratio) M.ca M.i_Ratio M.n_isinstance))) (w_or (pt_cmp' op_lt opv_lt (pd_prop (c := 0) (pd_v 0) rfl M.hc_Ratio M.pr_Ratio_bottom (ok_Ratio_bottom M) hq (hr.mono (by decide)) M.b_Ratio_bottom) pd_int rfl) (w_or (pt_cmp' (Dl.OpR.or op_ne (op_ownNe (T := TT K M.C_Ratio) (E := E0) M.e_Ratio_eq M.ef_Ratio_eq M.ne_Ratio_eq M.ob_Ratio (ok_Ratio_eq M) hq (hr.mono (by decide)) M.b_Ratio_eq rfl)) (Dl.OpV.or opv_neF (opv_ownNe (c := 0) rfl M.tp_Ratio)) (pd_op (Dl.OpR.or (Dl.OpR.or op_mulW (op_ownB (E := E0) M.o_Ratio_mul (ok_Ratio_mul M) hq (hr.mono (by decide)) M.b_Ratio_mul rfl)) (op_rmul (E := E0) M.r_Ratio_rmul (ok_Ratio_rmul M) hq (hr.mono (by decide)) M.b_Ratio_rmul rfl)) (Dl.OpV.or (Dl.OpV.or opv_mulW (opv_own2 (c := 0) rfl)) (opv_ownR (c := 0) rfl)) (pd_prop (c := 0) (pd_v 0) rfl M.hc_Ratio M.pr_Ratio_top (ok_Ratio_top M) hq (hr.mono (by decide)) M.b_Ratio_top) (pd_v 2)) (pd_op (Dl.OpR.or (Dl.OpR.or op_mulW (op_ownB (E := E0) M.o_Ratio_mul (ok_Ratio_mul M) hq (hr.mono (by decide)) M.b_Ratio_mul rfl)) (op_rmul (E := E0) M.r_Ratio_rmul (ok_Ratio_rmul M) hq (hr.mono (by decide)) M.b_Ratio_rmul rfl)) (Dl.OpV.or (Dl.OpV.or opv_mulW (opv_own2 (c := 0) rfl)) (opv_ownR (c := 0) rfl)) (pd_v 1) (pd_prop (c := 0) (pd_v 0) rfl M.hc_Ratio M.pr_Ratio_bottom (ok_Ratio_bottom M) hq (hr.mono (by decide)) M.b_Ratio_bottom)) rfl) (w_or1 (pt_cmp' (Dl.OpR.or op_ne (op_ownNe (T := TT K M.C_Ratio) (E := E0) M.e_Ratio_eq M.ef_Ratio_eq M.ne_Ratio_eq M.ob_Ratio (ok_Ratio_eq M) hq (hr.mono (by decide)) M.b_Ratio_eq rfl)) (Dl.OpV.or opv_neF (opv_ownNe (c := 0) rfl M.tp_Ratio)) (pd_call (ok_law_common M) hq (hr.mono (by decide)) M.m_law_common M.F_law_common.kp (bnd_of 2 M.b_law_common .nil lits_nil rfl) (pds_cons (pd_prop (c := 0) (pd_v 0) rfl M.hc_Ratio M.pr_Ratio_top (ok_Ratio_top M) hq (hr.mono (by decide)) M.b_Ratio_top) (pds_cons (pd_prop (c := 0) (pd_v 0) rfl M.hc_Ratio M.pr_Ratio_bottom (ok_Ratio_bottom M) hq (hr.mono (by decide)) M.b_Ratio_bottom) pds_nil)) pks_nil) pd_int rfl)))))) (sts_one (st_ret pd_bl)) sts_nil)
    (sts_cons (st_set 3 sc_law_is.nd (pd_op (Dl.OpR.or (Dl.OpR.or op_add0 (op_ownB (E := E0) M.o_Ratio_add (ok_Ratio_add M) hq (hr.mono (by decide)) M.b_Ratio_add rfl)) (op_radd (E := E0) M.r_Ratio_radd (ok_Ratio_radd M) hq (hr.mono (by decide)) M.b_Ratio_radd rfl)) (Dl.OpV.or (Dl.OpV.or opv_add0 (opv_own2 (c := 0) rfl)) (opv_ownR (c := 0) rfl)) (pd_bty (Dl.CallR.orr call_str_int (call_strOwn (E := E0) M.s_Ratio_str M.sf_Ratio_str (ok_Ratio_str M) hq (hr.mono (by decide)) M.b_Ratio_str rfl)) (Dl.CallV.or callv_strI (callv_txt (c := 0) rfl)) M.n_str (by decide +kernel) (pds_cons (pd_prop (c := 0) (pd_v 0) rfl M.hc_Ratio M.pr_Ratio_top (ok_Ratio_top M) hq (hr.mono (by decide)) M.b_Ratio_top) pds_nil)) (pd_if (pt_cmp' (Dl.OpR.or op_ne (op_ownNe (T := TT K M.C_Ratio) (E := E0) M.e_Ratio_eq M.ef_Ratio_eq M.ne_Ratio_eq M.ob_Ratio (ok_Ratio_eq M) hq (hr.mono (by decide)) M.b_Ratio_eq rfl)) (Dl.OpV.or opv_neF (opv_ownNe (c := 0) rfl M.tp_Ratio)) (pd_prop (c := 0) (pd_v 0) rfl M.hc_Ratio M.pr_Ratio_bottom (ok_Ratio_bottom M) hq (hr.mono (by decide)) M.b_Ratio_bottom) pd_int rfl) (pd_op (Dl.OpR.or (Dl.OpR.or op_add0 (op_ownB (E := E0) M.o_Ratio_add (ok_Ratio_add M) hq (hr.mono (by decide)) M.b_Ratio_add rfl)) (op_radd (E := E0) M.r_Ratio_radd (ok_Ratio_radd M) hq (hr.mono (by decide)) M.b_Ratio_radd rfl)) (Dl.OpV.or (Dl.OpV.or opv_add0 (opv_own2 (c := 0) rfl)) (opv_ownR (c := 0) rfl)) pd_str (pd_bty (Dl.CallR.orr call_str_int (call_strOwn (E := E0) M.s_Ratio_str M.sf_Ratio_str (ok_Ratio_str M) hq (hr.mono (by decide)) M.b_Ratio_str rfl)) (Dl.CallV.or callv_strI (callv_txt (c := 0) rfl)) M.n_str (by decide +kernel) (pds_cons (pd_prop (c := 0) (pd_v 0) rfl M.hc_Ratio M.pr_Ratio_bottom (ok_Ratio_bottom M) hq (hr.mono (by decide)) M.b_Ratio_bottom) pds_nil))) pd_str)))
    (sts_cons (st_if (PW.pt (w_or (pt_cmp' (Dl.OpR.or op_ne (op_ownNe (T := TT K M.C_Ratio) (E := E0) M.e_Ratio_eq M.ef_Ratio_eq M.ne_Ratio_eq M.ob_Ratio (ok_Ratio_eq M) hq (hr.mono (by decide)) M.b_Ratio_eq rfl)) (Dl.OpV.or opv_neF (opv_ownNe (c := 0) rfl M.tp_Ratio)) (pd_bty (Dl.CallR.orr call_str_int (call_strOwn (E := E0) M.s_Ratio_str M.sf_Ratio_str (ok_Ratio_str M) hq (hr.mono (by decide)) M.b_Ratio_str rfl)) (Dl.CallV.or callv_strI (callv_txt (c := 0) rfl)) M.n_str (by decide +kernel) (pds_cons (pd_v 0) pds_nil)) (pd_v 3) rfl) (w_or1 (pt_cmp' (Dl.OpR.or op_ne (op_ownNe (T := TT K M.C_Ratio) (E := E0) M.e_Ratio_eq M.ef_Ratio_eq M.ne_Ratio_eq M.ob_Ratio (ok_Ratio_eq M) hq (hr.mono (by decide)) M.b_Ratio_eq rfl)) (Dl.OpV.or opv_neF (opv_ownNe (c := 0) rfl M.tp_Ratio)) (pd_blt (Dl.CallR.orr (call_reprD hq (hr.mono (by decide))) (call_reprOwn (E := E0) M.s_Ratio_repr M.sf_Ratio_repr (ok_Ratio_repr M) hq (hr.mono (by decide)) M.b_Ratio_repr rfl)) (Dl.CallV.or callv_reprD (callv_txt (c := 0) rfl)) M.n_repr (by decide +kernel) (pds_cons (pd_v 0) pds_nil)) (pd_op (Dl.OpR.or (Dl.OpR.or op_add0 (op_ownB (E := E0) M.o_Ratio_add (ok_Ratio_add M) hq (hr.mono (by decide)) M.b_Ratio_add rfl)) (op_radd (E := E0) M.r_Ratio_radd (ok_Ratio_radd M) hq (hr.mono (by decide)) M.b_Ratio_radd rfl)) (Dl.OpV.or (Dl.OpV.or opv_add0 (opv_own2 (c := 0) rfl)) (opv_ownR (c := 0) rfl)) (pd_op (Dl.OpR.or (Dl.OpR.or op_add0 (op_ownB (E := E0) M.o_Ratio_add (ok_Ratio_add M) hq (hr.mono (by decide)) M.b_Ratio_add rfl)) (op_radd (E := E0) M.r_Ratio_radd (ok_Ratio_radd M) hq (hr.mono (by decide)) M.b_Ratio_radd rfl)) (Dl.OpV.or (Dl.OpV.or opv_add0 (opv_own2 (c := 0) rfl)) (opv_ownR (c := 0) rfl)) (pd_op (Dl.OpR.or (Dl.OpR.or op_add0 (op_ownB (E := E0) M.o_Ratio_add (ok_Ratio_add M) hq (hr.mono (by decide)) M.b_Ratio_add rfl)) (op_radd (E := E0) M.r_Ratio_radd (ok_Ratio_radd M) hq (hr.mono (by decide)) M.b_Ratio_radd rfl)) (Dl.OpV.or (Dl.OpV.or opv_add0 (opv_own2 (c := 0) rfl)) (opv_ownR (c := 0) rfl)) (pd_op (Dl.OpR.or (Dl.OpR.or op_add0 (op_ownB (E := E0) M.o_Ratio_add (ok_Ratio_add M) hq (hr.mono (by decide)) M.b_Ratio_add rfl)) (op_radd (E := E0) M.r_Ratio_radd (ok_Ratio_radd M) hq (hr.mono (by decide)) M.b_Ratio_radd rfl)) (Dl.OpV.or (Dl.OpV.or opv_add0 (opv_own2 (c := 0) rfl)) (opv_ownR (c := 0) rfl)) pd_str (pd_bty (Dl.CallR.orr call_str_int (call_strOwn (E := E0) M.s_Ratio_str M.sf_Ratio_str (ok_Ratio_str M) hq (hr.mono (by decide)) M.b_Ratio_str rfl)) (Dl.CallV.or callv_strI (callv_txt (c := 0) rfl)) M.n_str (by decide +kernel) (pds_cons (pd_prop (c := 0) (pd_v 0) rfl M.hc_Ratio M.pr_Ratio_top (ok_Ratio_top M) hq (hr.mono (by decide)) M.b_Ratio_top) pds_nil))) pd_str) (pd_bty (Dl.CallR.orr call_str_int (call_strOwn (E := E0) M.s_Ratio_str M.sf_Ratio_str (ok_Ratio_str M) hq (hr.mono (by decide)) M.b_Ratio_str rfl)) (Dl.CallV.or callv_strI (callv_txt (c := 0) rfl)) M.n_str (by decide +kernel) (pds_cons (pd_prop (c := 0) (pd_v 0) rfl M.hc_Ratio M.pr_Ratio_bottom (ok_Ratio_bottom M) hq (hr.mono (by decide)) M.b_Ratio_bottom) pds_nil))) pd_str) rfl)))) (sts_one (st_ret pd_bl)) sts_nil)
    (sts_cons (st_set 4 sc_law_is.nd (pd_op (Dl.OpR.or (Dl.OpR.or op_sub (op_ownB (E := E0) M.o_Ratio_sub (ok_Ratio_sub M) hq (hr.mono (by decide)) M.b_Ratio_sub rfl)) (op_rsub (E := E0) M.r_Ratio_rsub (ok_Ratio_rsub M) hq (hr.mono (by decide)) M.b_Ratio_rsub rfl)) (Dl.OpV.or (Dl.OpV.or opv_sub (opv_own2 (c := 0) rfl)) (opv_ownR (c := 0) rfl)) (pd_bty call_int1 callv_int M.n_int (by decide +kernel) (pds_cons (pd_cmp op_gt opv_gt (pd_prop (c := 0) (pd_v 0) rfl M.hc_Ratio M.pr_Ratio_top (ok_Ratio_top M) hq (hr.mono (by decide)) M.b_Ratio_top) pd_int rfl) pds_nil)) (pd_bty call_int1 callv_int M.n_int (by decide +kernel) (pds_cons (pd_cmp op_lt opv_lt (pd_prop (c := 0) (pd_v 0) rfl M.hc_Ratio M.pr_Ratio_top (ok_Ratio_top M) hq (hr.mono (by decide)) M.b_Ratio_top) pd_int rfl) pds_nil))))
    (sts_one (st_ret (pd_and (pd_cmp (Dl.OpR.or op_eq (op_ownE (T := TT K M.C_Ratio) (E := E0) M.e_Ratio_eq M.ef_Ratio_eq (ok_Ratio_eq M) hq (hr.mono (by decide)) M.b_Ratio_eq rfl)) (Dl.OpV.or opv_eqF (opv_ownE (c := 0) rfl M.tp_Ratio)) (pd_blt (Dl.CallR.orr (call_reprD hq (hr.mono (by decide))) (call_reprOwn (E := E0) M.s_Ratio_repr M.sf_Ratio_repr (ok_Ratio_repr M) hq (hr.mono (by decide)) M.b_Ratio_repr rfl)) (Dl.CallV.or callv_reprD (callv_txt (c := 0) rfl)) M.n_repr (by decide +kernel) (pds_cons (pd_fr (pf_lst (pds_cons (pd_prop (c := 0) (pd_v 0) rfl M.hc_Ratio M.pr_Ratio_sign (ok_Ratio_sign M) hq (hr.mono (by decide)) M.b_Ratio_sign) (pds_cons (pd_prop (c := 0) (pd_v 0) rfl M.hc_Ratio M.pr_Ratio_is_whole (ok_Ratio_is_whole M) hq (hr.mono (by decide)) M.b_Ratio_is_whole) pds_nil)))) pds_nil)) (pd_blt (Dl.CallR.orr (call_reprD hq (hr.mono (by decide))) (call_reprOwn (E := E0) M.s_Ratio_repr M.sf_Ratio_repr (ok_Ratio_repr M) hq (hr.mono (by decide)) M.b_Ratio_repr rfl)) (Dl.CallV.or callv_reprD (callv_txt (c := 0) rfl)) M.n_repr (by decide +kernel) (pds_cons (pd_fr (pf_lst (pds_cons (pd_v 4) (pds_cons (pd_cmp (Dl.OpR.or op_eq (op_ownE (T := TT K M.C_Ratio) (E := E0) M.e_Ratio_eq M.ef_Ratio_eq (ok_Ratio_eq M) hq (hr.mono (by decide)) M.b_Ratio_eq rfl)) (Dl.OpV.or opv_eqF (opv_ownE (c := 0) rfl M.tp_Ratio)) (pd_prop (c := 0) (pd_v 0) rfl M.hc_Ratio M.pr_Ratio_bottom (ok_Ratio_bottom M) hq (hr.mono (by decide)) M.b_Ratio_bottom) pd_int rfl) pds_nil)))) pds_nil)) rfl) (pd_one (pd_cmp (Dl.OpR.or op_eq (op_ownE (T := TT K M.C_Ratio) (E := E0) M.e_Ratio_eq M.ef_Ratio_eq (ok_Ratio_eq M) hq (hr.mono (by decide)) M.b_Ratio_eq rfl)) (Dl.OpV.or opv_eqF (opv_ownE (c := 0) rfl M.tp_Ratio)) (pd_meth0 (c := 0) (pd_v 0) rfl M.hc_Ratio M.t_Ratio_size (ok_Ratio_size M) hq (hr.mono (by decide)) (bnd_of 1 M.b_Ratio_size .nil lits_nil rfl) pks_nil) (pd_make (c := 0) rfl M.mk_Ratio (ok_Ratio_init M) hq (hr.mono (by decide)) M.m_Ratio M.bi_Ratio_init_2 (pds_cons (pd_blt call_abs callv_abs M.n_abs (by decide +kernel) (pds_cons (pd_prop (c := 0) (pd_v 0) rfl M.hc_Ratio M.pr_Ratio_top (ok_Ratio_top M) hq (hr.mono (by decide)) M.b_Ratio_top) pds_nil)) (pds_cons (pd_prop (c := 0) (pd_v 0) rfl M.hc_Ratio M.pr_Ratio_bottom (ok_Ratio_bottom M) hq (hr.mono (by decide)) M.b_Ratio_bottom) pds_nil)) pks_nil) rfl))))))))))

theorem sc_law_two_right : FnScope ["_law_one", "_law_other", "_law_near", "_law_far", "_law_a", "_law_b", "_law_c", "_law_d", "_law_below", "_law_told"] ["_law_one", "_law_other"] (defScope s_law_two_right) := ⟨rfl, rfl, rfl, by decide +kernel, rfl, by decide +kernel, by decide +kernel⟩
def g_law_two_right : FS := (sSeq (sPar 2 3 (fCons (fMake 0 G_Ratio_init (gPos []) (fCons (fIxN 0 (fC (.int 0))) (fCons (fIxN 0 (fC (.int 1))) fNil)) fNil) (fCons (fMake 0 G_Ratio_init (gPos []) fNil (fCons (fIxN 1 (fC (.int 0))) (fCons (fIxN 1 (fC (.int 1))) fNil))) fNil)))
    (sSeq (sAsg (fTup (fCons (fV 0) (fCons (fV 1) fNil))) (gT 2 (gsCons (gT 2 (gsCons (gN 4) (gsCons (gN 5) gsNil))) (gsCons (gT 2 (gsCons (gN 6) (gsCons (gN 7) gsNil))) gsNil))))
    (sSeq (sIf (fOr (fNot (fB (fCall G_law_is (gPos []) (fCons (fV 2) (fCons (fV 4) (fCons (fV 5) fNil))) fNil))) (fOr (fNot (fB (fCall G_law_is (gPos []) (fCons (fBin (gOr (gOr gAdd0 (gOwn2 0 G_Ratio_add)) (gOwnR 0 G_Ratio_radd)) (fV 2) (fV 3)) (fCons (fBin (gOr (gOr gAdd0 (gOwn2 0 G_Ratio_add)) (gOwnR 0 G_Ratio_radd)) (fBin (gOr (gOr (gI okMul fun i j => .int (i * j)) (gOwn2 0 G_Ratio_mul)) (gOwnR 0 G_Ratio_rmul)) (fV 4) (fV 7)) (fBin (gOr (gOr (gI okMul fun i j => .int (i * j)) (gOwn2 0 G_Ratio_mul)) (gOwnR 0 G_Ratio_rmul)) (fV 6) (fV 5))) (fCons (fBin (gOr (gOr (gI okMul fun i j => .int (i * j)) (gOwn2 0 G_Ratio_mul)) (gOwnR 0 G_Ratio_rmul)) (fV 5) (fV 7)) fNil))) fNil))) (fNot (fB (fCall G_law_is (gPos []) (fCons (fBin (gOr (gOr (gI0 fun i j => .int (i - j)) (gOwn2 0 G_Ratio_sub)) (gOwnR 0 G_Ratio_rsub)) (fV 2) (fV 3)) (fCons (fBin (gOr (gOr (gI0 fun i j => .int (i - j)) (gOwn2 0 G_Ratio_sub)) (gOwnR 0 G_Ratio_rsub)) (fBin (gOr (gOr (gI okMul fun i j => .int (i * j)) (gOwn2 0 G_Ratio_mul)) (gOwnR 0 G_Ratio_rmul)) (fV 4) (fV 7)) (fBin (gOr (gOr (gI okMul fun i j => .int (i * j)) (gOwn2 0 G_Ratio_mul)) (gOwnR 0 G_Ratio_rmul)) (fV 6) (fV 5))) (fCons (fBin (gOr (gOr (gI okMul fun i j => .int (i * j)) (gOwn2 0 G_Ratio_mul)) (gOwnR 0 G_Ratio_rmul)) (fV 5) (fV 7)) fNil))) fNil))))) (sRet (fC (.bl false))) sNil)
    (sSeq (sIf (fOr (fNot (fB (fCall G_law_is (gPos []) (fCons (fBin (gOr (gOr (gI okMul fun i j => .int (i * j)) (gOwn2 0 G_Ratio_mul)) (gOwnR 0 G_Ratio_rmul)) (fV 2) (fV 3)) (fCons (fBin (gOr (gOr (gI okMul fun i j => .int (i * j)) (gOwn2 0 G_Ratio_mul)) (gOwnR 0 G_Ratio_rmul)) (fV 4) (fV 6)) (fCons (fBin (gOr (gOr (gI okMul fun i j => .int (i * j)) (gOwn2 0 G_Ratio_mul)) (gOwnR 0 G_Ratio_rmul)) (fV 5) (fV 7)) fNil))) fNil))) (fNot (fB (fCall G_law_is (gPos []) (fCons (fUn (uOr gNeg (gOwn1 0 G_Ratio_neg)) (fV 2)) (fCons (fBin (gOr (gOr (gI0 fun i j => .int (i - j)) (gOwn2 0 G_Ratio_sub)) (gOwnR 0 G_Ratio_rsub)) (fC (.int 0)) (fV 4)) (fCons (fV 5) fNil))) fNil)))) (sRet (fC (.bl false))) sNil)
    (sSeq (sIf (fAnd (fB (fBin (gOr gNeF (gOwnNe 0 G_Ratio_eq)) (fV 6) (fC (.int 0)))) (fNot (fB (fCall G_law_is (gPos []) (fCons (fMeth 0 G_Ratio_over (gPos []) (fV 2) fNil (fCons (fV 3) fNil)) (fCons (fBin (gOr (gOr (gI okMul fun i j => .int (i * j)) (gOwn2 0 G_Ratio_mul)) (gOwnR 0 G_Ratio_rmul)) (fV 4) (fV 7)) (fCons (fBin (gOr (gOr (gI okMul fun i j => .int (i * j)) (gOwn2 0 G_Ratio_mul)) (gOwnR 0 G_Ratio_rmul)) (fV 5) (fV 6)) fNil))) fNil)))) (sRet (fC (.bl false))) sNil)
    (sSeq (sSet 8 (fBin (gOr (gOr (gI okMul fun i j => .int (i * j)) (gOwn2 0 G_Ratio_mul)) (gOwnR 0 G_Ratio_rmul)) (fBin (gOr (gOr (gI okMul fun i j => .int (i * j)) (gOwn2 0 G_Ratio_mul)) (gOwnR 0 G_Ratio_rmul)) (fBin (gOr (gOr (gI0 fun i j => .int (i - j)) (gOwn2 0 G_Ratio_sub)) (gOwnR 0 G_Ratio_rsub)) (fBin (gOr (gOr (gI okMul fun i j => .int (i * j)) (gOwn2 0 G_Ratio_mul)) (gOwnR 0 G_Ratio_rmul)) (fV 4) (fV 7)) (fBin (gOr (gOr (gI okMul fun i j => .int (i * j)) (gOwn2 0 G_Ratio_mul)) (gOwnR 0 G_Ratio_rmul)) (fV 6) (fV 5))) (fV 5)) (fV 7)))
    (sSeq (sSet 9 (fFr (fLst (fCons (fMeth 0 G_Ratio_is_below (gPos []) (fV 2) (fCons (fV 3) fNil) fNil) (fCons (fMeth 0 G_Ratio_is_at_most (gPos []) (fV 2) (fCons (fV 3) fNil) fNil) (fCons (fMeth 0 G_Ratio_is_below (gPos []) (fV 3) fNil (fCons (fV 2) fNil)) (fCons (fBin (gOr gEqF (gOwnE 0 G_Ratio_eq)) (fV 2) (fV 3)) (fCons (fBin (gOr gNeF (gOwnNe 0 G_Ratio_eq)) (fV 2) (fV 3)) fNil))))))))
    (sRet (fBin (gOr gEqF (gOwnE 0 G_Ratio_eq)) (fFun (funOr funReprD (funTxt 0 G_Ratio_repr)) (fCons (fV 9) fNil)) (fFun (funOr funReprD (funTxt 0 G_Ratio_repr)) (fCons (fFr (fLst (fCons (fBin (gI0 fun i j => .bl (decide (i < j))) (fV 8) (fC (.int 0))) (fCons (fBin (gI0 fun i j => .bl (decide (i ≤ j))) (fV 8) (fC (.int 0))) (fCons (fBin (gI0 fun i j => .bl (decide (j < i))) (fV 8) (fC (.int 0))) (fCons (fBin (gOr gEqF (gOwnE 0 G_Ratio_eq)) (fV 8) (fC (.int 0))) (fCons (fBin (gOr gNeF (gOwnNe 0 G_Ratio_eq)) (fV 8) (fC (.int 0))) fNil))))))) fNil)))))))))))
def G_law_two_right : List D → Option D := outD 10 g_law_two_right
theorem ok_law_two_right (M : Facts K mg) : FnG P w K mg base 8 M.a_law_two_right M.d_law_two_right ["_law_one", "_law_other"] (sp0 (TT K M.C_Ratio) 2 G_law_two_right) :=
  ok0' (g := g_law_two_right) M.F_law_two_right sc_law_two_right rfl rfl (fun cdv A outer s H E hq hr =>
    (sts_cons (st_par 2 3 rfl sc_law_two_right.nd (pds_cons (pd_make (c := 0) rfl M.mk_Ratio (ok_Ratio_init M) hq (hr.mono (by decide)) M.m_Ratio M.bi_Ratio_init_2 (pds_cons (pd_ixN (i := 0) pd_int) (pds_cons (pd_ixN (i := 0) pd_int) pds_nil)) pks_nil) (pds_cons (pd_make0 (c := 0) rfl M.mk_Ratio (ok_Ratio_init M) hq (hr.mono (by decide)) M.m_Ratio M.bi_Ratio_init_0_top_bottom (pks_cons (pd_ixN (i := 1) pd_int) (pks_cons (pd_ixN (i := 1) pd_int) pks_nil))) pds_nil)))
    (sts_cons (st_asg (ws := [4, 5, 6, 7]) (pd_tup (pds_cons (pd_v 0) (pds_cons (pd_v 1) pds_nil))) (tg_t rfl (tgs_cons (tg_t rfl (tgs_cons (tg_n 4 sc_law_two_right.nd) (tgs_cons (tg_n 5 sc_law_two_right.nd) tgs_nil))) (tgs_cons (tg_t rfl (tgs_cons (tg_n 6 sc_law_two_right.nd) (tgs_cons (tg_n 7 sc_law_two_right.nd) tgs_nil))) tgs_nil))))
    (sts_cons (st_if (PW.pt (w_or (pt_n (pt_d (pd_call (ok_law_is M) hq (hr.mono (by decide)) M.m_law_is M.F_law_is.kp (bnd_of 3 M.b_law_is .nil lits_nil rfl) (pds_cons (pd_v 2) (pds_cons (pd_v 4) (pds_cons (pd_v 5) pds_nil))) pks_nil))) (w_or (pt_n (pt_d (pd_call (ok_law_is M) hq (hr.mono (by decide)) M.m_law_is M.F_law_is.kp (bnd_of 3 M.b_law_is .nil lits_nil rfl) (pds_cons (pd_op (Dl.OpR.or (Dl.OpR.or op_add0 (op_ownB (E := E0) M.o_Ratio_add (ok_Ratio_add M) hq (hr.mono (by decide)) M.b_Ratio_add rfl)) (op_radd (E := E0) M.r_Ratio_radd (ok_Ratio_radd M) hq (hr.mono (by decide)) M.b_Ratio_radd rfl)) (Dl.OpV.or (Dl.OpV.or opv_add0 (opv_own2 (c := 0) rfl)) (opv_ownR (c := 0) rfl)) (pd_v 2) (pd_v 3)) (pds_cons (pd_op (Dl.OpR.or (Dl.OpR.or op_add0 (op_ownB (E := E0) M.o_Ratio_add (ok_Ratio_add M) hq (hr.mono (by decide)) M.b_Ratio_add rfl)) (op_radd (E := E0) M.r_Ratio_radd (ok_Ratio_radd M) hq (hr.mono (by decide)) M.b_Ratio_radd rfl)) (Dl.OpV.or (Dl.OpV.or opv_add0 (opv_own2 (c := 0) rfl)) (opv_ownR (c := 0) rfl)) (pd_op (Dl.OpR.or (Dl.OpR.or op_mulW (op_ownB (E := E0) M.o_Ratio_mul (ok_Ratio_mul M) hq (hr.mono (by decide)) M.b_Ratio_mul rfl)) (op_rmul (E := E0) M.r_Ratio_rmul (ok_Ratio_rmul M) hq (hr.mono (by decide)) M.b_Ratio_rmul rfl)) (Dl.OpV.or (Dl.OpV.or opv_mulW (opv_own2 (c := 0) rfl)) (opv_ownR (c := 0) rfl)) (pd_v 4) (pd_v 7)) (pd_op (Dl.OpR.or (Dl.OpR.or op_mulW (op_ownB (E := E0) M.o_Ratio_mul (ok_Ratio_mul M) hq (hr.mono (by decide)) M.b_Ratio_mul rfl)) (op_rmul (E := E0) M.r_Ratio_rmul (ok_Ratio_rmul M) hq (hr.mono (by decide)) M.b_Ratio_rmul rfl)) (Dl.OpV.or (Dl.OpV.or opv_mulW (opv_own2 (c := 0) rfl)) (opv_ownR (c := 0) rfl)) (pd_v 6) (pd_v 5))) (pds_cons (pd_op (Dl.OpR.or (Dl.OpR.or op_mulW (op_ownB (E := E0) M.o_Ratio_mul (ok_Ratio_mul M) hq (hr.mono (by decide)) M.b_Ratio_mul rfl)) (op_rmul (E := E0) M.r_Ratio_rmul (ok_Ratio_rmul M) hq (hr.mono (by decide)) M.b_Ratio_rmul rfl)) (Dl.OpV.or (Dl.OpV.or opv_mulW (opv_own2 (c := 0) rfl)) (opv_ownR (c := 0) rfl)) (pd_v 5) (pd_v 7)) pds_nil))) pks_nil))) (w_or1 (pt_n (pt_d (pd_call (ok_law_is M) hq (hr.mono (by decide)) M.m_law_is M.F_law_is.kp (bnd_of 3 M.b_law_is .nil lits_nil rfl) (pds_cons (pd_op (Dl.OpR.or (Dl.OpR.or op_sub (op_ownB (E := E0) M.o_Ratio_sub (ok_Ratio_sub M) hq (hr.mono (by decide)) M.b_Ratio_sub rfl)) (op_rsub (E := E0) M.r_Ratio_rsub (ok_Ratio_rsub M) hq (hr.mono (by decide)) M.b_Ratio_rsub rfl)) (Dl.OpV.or (Dl.OpV.or opv_sub (opv_own2 (c := 0) rfl)) (opv_ownR (c := 0) rfl)) (pd_v 2) (pd_v 3)) (pds_cons (pd_op (Dl.OpR.or (Dl.OpR.or op_sub (op_ownB (E := E0) M.o_Ratio_sub (ok_Ratio_sub M) hq (hr.mono (by decide)) M.b_Ratio_sub rfl)) (op_rsub (E := E0) M.r_Ratio_rsub (ok_Ratio_rsub M) hq (hr.mono (by decide)) M.b_Ratio_rsub rfl)) (Dl.OpV.or (Dl.OpV.or opv_sub (opv_own2 (c := 0) rfl)) (opv_ownR (c := 0) rfl)) (pd_op (Dl.OpR.or (Dl.OpR.or op_mulW (op_ownB (E := E0) M.o_Ratio_mul (ok_Ratio_mul M) hq (hr.mono (by decide)) M.b_Ratio_mul rfl)) (op_rmul (E := E0) M.r_Ratio_rmul (ok_Ratio_rmul M) hq (hr.mono (by decide)) M.b_Ratio_rmul rfl)) (Dl.OpV.or (Dl.OpV.or opv_mulW (opv_own2 (c := 0) rfl)) (opv_ownR (c := 0) rfl)) (pd_v 4) (pd_v 7)) (pd_op (Dl.OpR.or (Dl.OpR.or op_mulW (op_ownB (E := E0) M.o_Ratio_mul (ok_Ratio_mul M) hq (hr.mono (by decide)) M.b_Ratio_mul rfl)) (op_rmul (E := E0) M.r_Ratio_rmul (ok_Ratio_rmul M) hq (hr.mono (by decide)) M.b_Ratio_rmul rfl)) (Dl.OpV.or (Dl.OpV.or opv_mulW (opv_own2 (c := 0) rfl)) (opv_ownR (c := 0) rfl)) (pd_v 6) (pd_v 5))) (pds_cons (pd_op (Dl.OpR.or (Dl.OpR.or op_mulW (op_ownB (E := E0) M.o_Ratio_mul (ok_Ratio_mul M) hq (hr.mono (by decide)) M.b_Ratio_mul rfl)) (op_rmul (E := E0) M.r_Ratio_rmul (ok_Ratio_rmul M) hq (hr.mono (by decide)) M.b_Ratio_rmul rfl)) (Dl.OpV.or (Dl.OpV.or opv_mulW (opv_own2 (c := 0) rfl)) (opv_ownR (c := 0) rfl)) (pd_v 5) (pd_v 7)) pds_nil))) pks_nil))))))) (sts_one (st_ret pd_bl)) sts_nil)
    (sts_cons (st_if (PW.pt (w_or (pt_n (pt_d (pd_call (ok_law_is M) hq (hr.mono (by decide)) M.m_law_is M.F_law_is.kp (bnd_of 3 M.b_law_is .nil lits_nil rfl) (pds_cons (pd_op (Dl.OpR.or (Dl.OpR.or op_mulW (op_ownB (E := E0) M.o_Ratio_mul (ok_Ratio_mul M) hq (hr.mono (by decide)) M.b_Ratio_mul rfl)) (op_rmul (E := E0) M.r_Ratio_rmul (ok_Ratio_rmul M) hq (hr.mono (by decide)) M.b_Ratio_rmul rfl)) (Dl.OpV.or (Dl.OpV.or opv_mulW (opv_own2 (c := 0) rfl)) (opv_ownR (c := 0) rfl)) (pd_v 2) (pd_v 3)) (pds_cons (pd_op (Dl.OpR.or (Dl.OpR.or op_mulW (op_ownB (E := E0) M.o_Ratio_mul (ok_Ratio_mul M) hq (hr.mono (by decide)) M.b_Ratio_mul rfl)) (op_rmul (E := E0) M.r_Ratio_rmul (ok_Ratio_rmul M) hq (hr.mono (by decide)) M.b_Ratio_rmul rfl)) (Dl.OpV.or (Dl.OpV.or opv_mulW (opv_own2 (c := 0) rfl)) (opv_ownR (c := 0) rfl)) (pd_v 4) (pd_v 6)) (pds_cons (pd_op (Dl.OpR.or (Dl.OpR.or op_mulW (op_ownB (E := E0) M.o_Ratio_mul (ok_Ratio_mul M) hq (hr.mono (by decide)) M.b_Ratio_mul rfl)) (op_rmul (E := E0) M.r_Ratio_rmul (ok_Ratio_rmul M) hq (hr.mono (by decide)) M.b_Ratio_rmul rfl)) (Dl.OpV.or (Dl.OpV.or opv_mulW (opv_own2 (c := 0) rfl)) (opv_ownR (c := 0) rfl)) (pd_v 5) (pd_v 7)) pds_nil))) pks_nil))) (w_or1 (pt_n (pt_d (pd_call (ok_law_is M) hq (hr.mono (by decide)) M.m_law_is M.F_law_is.kp (bnd_of 3 M.b_law_is .nil lits_nil rfl) (pds_cons (pd_un (Dl.UnR.orr un_neg (un_ownN (E := E0) M.u_Ratio_neg M.uf_Ratio_neg (ok_Ratio_neg M) hq (hr.mono (by decide)) M.b_Ratio_neg rfl)) (Dl.UnV.or unv_neg (unv_own (c := 0) rfl)) (pd_v 2)) (pds_cons (pd_op (Dl.OpR.or (Dl.OpR.or op_sub (op_ownB (E := E0) M.o_Ratio_sub (ok_Ratio_sub M) hq (hr.mono (by decide)) M.b_Ratio_sub rfl)) (op_rsub (E := E0) M.r_Ratio_rsub (ok_Ratio_rsub M) hq (hr.mono (by decide)) M.b_Ratio_rsub rfl)) (Dl.OpV.or (Dl.OpV.or opv_sub (opv_own2 (c := 0) rfl)) (opv_ownR (c := 0) rfl)) pd_int (pd_v 4)) (pds_cons (pd_v 5) pds_nil))) pks_nil)))))) (sts_one (st_ret pd_bl)) sts_nil)
    (sts_cons (st_if (PW.pt (w_and (pt_cmp' (Dl.OpR.or op_ne (op_ownNe (T := TT K M.C_Ratio) (E := E0) M.e_Ratio_eq M.ef_Ratio_eq M.ne_Ratio_eq M.ob_Ratio (ok_Ratio_eq M) hq (hr.mono (by decide)) M.b_Ratio_eq rfl)) (Dl.OpV.or opv_neF (opv_ownNe (c := 0) rfl M.tp_Ratio)) (pd_v 6) pd_int rfl) (w_and1 (pt_n (pt_d (pd_call (ok_law_is M) hq (hr.mono (by decide)) M.m_law_is M.F_law_is.kp (bnd_of 3 M.b_law_is .nil lits_nil rfl) (pds_cons (pd_meth0 (c := 0) (pd_v 2) rfl M.hc_Ratio M.t_Ratio_over (ok_Ratio_over M) hq (hr.mono (by decide)) (bnd_kw 1 ["other"] M.F_Ratio_over (fun _ _ _ _ _ _ us ws h1 h2 => match us, ws, h1, h2 with | [_], [_], _, _ => rfl)) (pks_cons (pd_v 3) pks_nil)) (pds_cons (pd_op (Dl.OpR.or (Dl.OpR.or op_mulW (op_ownB (E := E0) M.o_Ratio_mul (ok_Ratio_mul M) hq (hr.mono (by decide)) M.b_Ratio_mul rfl)) (op_rmul (E := E0) M.r_Ratio_rmul (ok_Ratio_rmul M) hq (hr.mono (by decide)) M.b_Ratio_rmul rfl)) (Dl.OpV.or (Dl.OpV.or opv_mulW (opv_own2 (c := 0) rfl)) (opv_ownR (c := 0) rfl)) (pd_v 4) (pd_v 7)) (pds_cons (pd_op (Dl.OpR.or (Dl.OpR.or op_mulW (op_ownB (E := E0) M.o_Ratio_mul (ok_Ratio_mul M) hq (hr.mono (by decide)) M.b_Ratio_mul rfl)) (op_rmul (E := E0) M.r_Ratio_rmul (ok_Ratio_rmul M) hq (hr.mono (by decide)) M.b_Ratio_rmul rfl)) (Dl.OpV.or (Dl.OpV.or opv_mulW (opv_own2 (c := 0) rfl)) (opv_ownR (c := 0) rfl)) (pd_v 5) (pd_v 6)) pds_nil))) pks_nil)))))) (sts_one (st_ret pd_bl)) sts_nil)
    (sts_cons (st_set 8 sc_law_two_right.nd (pd_op (Dl.OpR.or (Dl.OpR.or op_mulW (op_ownB (E := E0) M.o_Ratio_mul (ok_Ratio_mul M) hq (hr.mono (by decide)) M.b_Ratio_mul rfl)) (op_rmul (E := E0) M.r_Ratio_rmul (ok_Ratio_rmul M) hq (hr.mono (by decide)) M.b_Ratio_rmul rfl)) (Dl.OpV.or (Dl.OpV.or opv_mulW (opv_own2 (c := 0) rfl)) (opv_ownR (c := 0) rfl)) (pd_op (Dl.OpR.or (Dl.OpR.or op_mulW (op_ownB (E := E0) M.o_Ratio_mul (ok_Ratio_mul M) hq (hr.mono (by decide)) M.b_Ratio_mul rfl)) (op_rmul (E := E0) M.r_Ratio_rmul (ok_Ratio_rmul M) hq (hr.mono (by decide)) M.b_Ratio_rmul rfl)) (Dl.OpV.or (Dl.OpV.or opv_mulW (opv_own2 (c := 0) rfl)) (opv_ownR (c := 0) rfl)) (pd_op (Dl.OpR.or (Dl.OpR.or op_sub (op_ownB (E := E0) M.o_Ratio_sub (ok_Ratio_sub M) hq (hr.mono (by decide)) M.b_Ratio_sub rfl)) (op_rsub (E := E0) M.r_Ratio_rsub (ok_Ratio_rsub M) hq (hr.mono (by decide)) M.b_Ratio_rsub rfl)) (Dl.OpV.or (Dl.OpV.or opv_sub (opv_own2 (c := 0) rfl)) (opv_ownR (c := 0) rfl)) (pd_op (Dl.OpR.or (Dl.OpR.or op_mulW (op_ownB (E := E0) M.o_Ratio_mul (ok_Ratio_mul M) hq (hr.mono (by decide)) M.b_Ratio_mul rfl)) (op_rmul (E := E0) M.r_Ratio_rmul (ok_Ratio_rmul M) hq (hr.mono (by decide)) M.b_Ratio_rmul rfl)) (Dl.OpV.or (Dl.OpV.or opv_mulW (opv_own2 (c := 0) rfl)) (opv_ownR (c := 0) rfl)) (pd_v 4) (pd_v 7)) (pd_op (Dl.OpR.or (Dl.OpR.or op_mulW (op_ownB (E := E0) M.o_Ratio_mul (ok_Ratio_mul M) hq (hr.mono (by decide)) M.b_Ratio_mul rfl)) (op_rmul (E := E0) M.r_Ratio_rmul (ok_Ratio_rmul M) hq (hr.mono (by decide)) M.b_Ratio_rmul rfl)) (Dl.OpV.or (Dl.OpV.or opv_mulW (opv_own2 (c := 0) rfl)) (opv_ownR (c := 0) rfl)) (pd_v 6) (pd_v 5))) (pd_v 5)) (pd_v 7)))
    (sts_cons (st_set 9 sc_law_two_right.nd (pd_fr (pf_lst (pds_cons (pd_meth (c := 0) (pd_v 2) rfl M.hc_Ratio M.t_Ratio_is_below (ok_Ratio_is_below M) hq (hr.mono (by decide)) (bnd_of 2 M.b_Ratio_is_below .nil lits_nil rfl) (pds_cons (pd_v 3) pds_nil) pks_nil) (pds_cons (pd_meth (c := 0) (pd_v 2) rfl M.hc_Ratio M.t_Ratio_is_at_most (ok_Ratio_is_at_most M) hq (hr.mono (by decide)) (bnd_of 2 M.b_Ratio_is_at_most .nil lits_nil rfl) (pds_cons (pd_v 3) pds_nil) pks_nil) (pds_cons (pd_meth0 (c := 0) (pd_v 3) rfl M.hc_Ratio M.t_Ratio_is_below (ok_Ratio_is_below M) hq (hr.mono (by decide)) (bnd_kw 1 ["other"] M.F_Ratio_is_below (fun _ _ _ _ _ _ us ws h1 h2 => match us, ws, h1, h2 with | [_], [_], _, _ => rfl)) (pks_cons (pd_v 2) pks_nil)) (pds_cons (pd_cmp (Dl.OpR.or op_eq (op_ownE (T := TT K M.C_Ratio) (E := E0) M.e_Ratio_eq M.ef_Ratio_eq (ok_Ratio_eq M) hq (hr.mono (by decide)) M.b_Ratio_eq rfl)) (Dl.OpV.or opv_eqF (opv_ownE (c := 0) rfl M.tp_Ratio)) (pd_v 2) (pd_v 3) rfl) (pds_cons (pd_cmp (Dl.OpR.or op_ne (op_ownNe (T := TT K M.C_Ratio) (E := E0) M.e_Ratio_eq M.ef_Ratio_eq M.ne_Ratio_eq M.ob_Ratio (ok_Ratio_eq M) hq (hr.mono (by decide)) M.b_Ratio_eq rfl)) (Dl.OpV.or opv_neF (opv_ownNe (c := 0) rfl M.tp_Ratio)) (pd_v 2) (pd_v 3) rfl) pds_nil))))))))
    (sts_one (st_ret (pd_cmp (Dl.OpR.or op_eq (op_ownE (T := TT K M.C_Ratio) (E := E0) M.e_Ratio_eq M.ef_Ratio_eq (ok_Ratio_eq M) hq (hr.mono (by decide)) M.b_Ratio_eq rfl)) (Dl.OpV.or opv_eqF (opv_ownE (c := 0) rfl M.tp_Ratio)) (pd_blt (Dl.CallR.orr (call_reprD hq (hr.mono (by decide))) (call_reprOwn (E := E0) M.s_Ratio_repr M.sf_Ratio_repr (ok_Ratio_repr M) hq (hr.mono (by decide)) M.b_Ratio_repr rfl)) (Dl.CallV.or callv_reprD (callv_txt (c := 0) rfl)) M.n_repr (by decide +kernel) (pds_cons (pd_v 9) pds_nil)) (pd_blt (Dl.CallR.orr (call_reprD hq (hr.mono (by decide))) (call_reprOwn (E := E0) M.s_Ratio_repr M.sf_Ratio_repr (ok_Ratio_repr M) hq (hr.mono (by decide)) M.b_Ratio_repr rfl)) (Dl.CallV.or callv_reprD (callv_txt (c := 0) rfl)) M.n_repr (by decide +kernel) (pds_cons (pd_fr (pf_lst (pds_cons (pd_cmp op_lt opv_lt (pd_v 8) pd_int rfl) (pds_cons (pd_cmp op_le opv_le (pd_v 8) pd_int rfl) (pds_cons (pd_cmp op_gt opv_gt (pd_v 8) pd_int rfl) (pds_cons (pd_cmp (Dl.OpR.or op_eq (op_ownE (T := TT K M.C_Ratio) (E := E0) M.e_Ratio_eq M.ef_Ratio_eq (ok_Ratio_eq M) hq (hr.mono (by decide)) M.b_Ratio_eq rfl)) (Dl.OpV.or opv_eqF (opv_ownE (c := 0) rfl M.tp_Ratio)) (pd_v 8) pd_int rfl) (pds_cons (pd_cmp (Dl.OpR.or op_ne (op_ownNe (T := TT K M.C_Ratio) (E := E0) M.e_Ratio_eq M.ef_Ratio_eq M.ne_Ratio_eq M.ob_Ratio (ok_Ratio_eq M) hq (hr.mono (by decide)) M.b_Ratio_eq rfl)) (Dl.OpV.or opv_neF (opv_ownNe (c := 0) rfl M.tp_Ratio)) (pd_v 8) pd_int rfl) pds_nil))))))) pds_nil)) rfl)))))))))))

theorem sc_law_whole_right : FnScope ["_law_one", "_law_whole_here", "_law_near", "_law_a", "_law_b", "_law_below"] ["_law_one", "_law_whole_here"] (defScope s_law_whole_right) := ⟨rfl, rfl, rfl, by decide +kernel, rfl, by decide +kernel, by decide +kernel⟩
def g_law_whole_right : FS := (sSeq (sAsg (fTup (fCons (fMake 0 G_Ratio_init (gPos []) (fCons (fIxN 0 (fC (.int 0))) (fCons (fIxN 0 (fC (.int 1))) fNil)) fNil) (fCons (fV 0) fNil))) (gT 2 (gsCons (gN 2) (gsCons (gT 2 (gsCons (gN 3) (gsCons (gN 4) gsNil))) gsNil))))
    (sSeq (sIf (fOr (fNot (fB (fCall G_law_is (gPos []) (fCons (fBin (gOr (gOr gAdd0 (gOwn2 0 G_Ratio_add)) (gOwnR 0 G_Ratio_radd)) (fV 2) (fV 1)) (fCons (fBin (gOr (gOr gAdd0 (gOwn2 0 G_Ratio_add)) (gOwnR 0 G_Ratio_radd)) (fV 3) (fBin (gOr (gOr (gI okMul fun i j => .int (i * j)) (gOwn2 0 G_Ratio_mul)) (gOwnR 0 G_Ratio_rmul)) (fV 1) (fV 4))) (fCons (fV 4) fNil))) fNil))) (fOr (fNot (fB (fCall G_law_is (gPos []) (fCons (fBin (gOr (gOr gAdd0 (gOwn2 0 G_Ratio_add)) (gOwnR 0 G_Ratio_radd)) (fV 1) (fV 2)) (fCons (fBin (gOr (gOr gAdd0 (gOwn2 0 G_Ratio_add)) (gOwnR 0 G_Ratio_radd)) (fV 3) (fBin (gOr (gOr (gI okMul fun i j => .int (i * j)) (gOwn2 0 G_Ratio_mul)) (gOwnR 0 G_Ratio_rmul)) (fV 1) (fV 4))) (fCons (fV 4) fNil))) fNil))) (fNot (fB (fCall G_law_is (gPos []) (fCons (fBin (gOr (gOr (gI0 fun i j => .int (i - j)) (gOwn2 0 G_Ratio_sub)) (gOwnR 0 G_Ratio_rsub)) (fV 1) (fV 2)) (fCons (fBin (gOr (gOr (gI0 fun i j => .int (i - j)) (gOwn2 0 G_Ratio_sub)) (gOwnR 0 G_Ratio_rsub)) (fBin (gOr (gOr (gI okMul fun i j => .int (i * j)) (gOwn2 0 G_Ratio_mul)) (gOwnR 0 G_Ratio_rmul)) (fV 1) (fV 4)) (fV 3)) (fCons (fV 4) fNil))) fNil))))) (sRet (fC (.bl false))) sNil)
    (sSeq (sIf (fOr (fNot (fB (fCall G_law_is (gPos []) (fCons (fBin (gOr (gOr (gI0 fun i j => .int (i - j)) (gOwn2 0 G_Ratio_sub)) (gOwnR 0 G_Ratio_rsub)) (fV 2) (fV 1)) (fCons (fBin (gOr (gOr (gI0 fun i j => .int (i - j)) (gOwn2 0 G_Ratio_sub)) (gOwnR 0 G_Ratio_rsub)) (fV 3) (fBin (gOr (gOr (gI okMul fun i j => .int (i * j)) (gOwn2 0 G_Ratio_mul)) (gOwnR 0 G_Ratio_rmul)) (fV 1) (fV 4))) (fCons (fV 4) fNil))) fNil))) (fOr (fNot (fB (fCall G_law_is (gPos []) (fCons (fBin (gOr (gOr (gI okMul fun i j => .int (i * j)) (gOwn2 0 G_Ratio_mul)) (gOwnR 0 G_Ratio_rmul)) (fV 1) (fV 2)) (fCons (fBin (gOr (gOr (gI okMul fun i j => .int (i * j)) (gOwn2 0 G_Ratio_mul)) (gOwnR 0 G_Ratio_rmul)) (fV 1) (fV 3)) (fCons (fV 4) fNil))) fNil))) (fNot (fB (fCall G_law_is (gPos []) (fCons (fBin (gOr (gOr (gI okMul fun i j => .int (i * j)) (gOwn2 0 G_Ratio_mul)) (gOwnR 0 G_Ratio_rmul)) (fV 2) (fV 1)) (fCons (fBin (gOr (gOr (gI okMul fun i j => .int (i * j)) (gOwn2 0 G_Ratio_mul)) (gOwnR 0 G_Ratio_rmul)) (fV 1) (fV 3)) (fCons (fV 4) fNil))) fNil))))) (sRet (fC (.bl false))) sNil)
    (sSeq (sIf (fAnd (fB (fBin (gOr gNeF (gOwnNe 0 G_Ratio_eq)) (fV 1) (fC (.int 0)))) (fNot (fB (fCall G_law_is (gPos []) (fCons (fMeth 0 G_Ratio_over (gPos []) (fV 2) (fCons (fV 1) fNil) fNil) (fCons (fV 3) (fCons (fBin (gOr (gOr (gI okMul fun i j => .int (i * j)) (gOwn2 0 G_Ratio_mul)) (gOwnR 0 G_Ratio_rmul)) (fV 4) (fV 1)) fNil))) fNil)))) (sRet (fC (.bl false))) sNil)
    (sSeq (sIf (fOr (fNot (fB (fCall G_law_is (gPos []) (fCons (fMake 0 G_Ratio_init (gPos [.int 1]) (fCons (fV 1) fNil) fNil) (fCons (fV 1) (fCons (fC (.int 1)) fNil))) fNil))) (fB (fBin gIsNotB (fBin (gOr gEqF (gOwnE 0 G_Ratio_eq)) (fV 2) (fV 1)) (fC (.bl false))))) (sRet (fC (.bl false))) sNil)
    (sSeq (sSet 5 (fBin (gOr (gOr (gI okMul fun i j => .int (i * j)) (gOwn2 0 G_Ratio_mul)) (gOwnR 0 G_Ratio_rmul)) (fBin (gOr (gOr (gI0 fun i j => .int (i - j)) (gOwn2 0 G_Ratio_sub)) (gOwnR 0 G_Ratio_rsub)) (fV 3) (fBin (gOr (gOr (gI okMul fun i j => .int (i * j)) (gOwn2 0 G_Ratio_mul)) (gOwnR 0 G_Ratio_rmul)) (fV 1) (fV 4))) (fV 4)))
    (sRet (fBin (gOr gEqF (gOwnE 0 G_Ratio_eq)) (fFun (funOr funReprD (funTxt 0 G_Ratio_repr)) (fCons (fFr (fLst (fCons (fMeth 0 G_Ratio_is_below (gPos []) (fV 2) (fCons (fV 1) fNil) fNil) (fCons (fMeth 0 G_Ratio_is_at_most (gPos []) (fV 2) (fCons (fV 1) fNil) fNil) fNil)))) fNil)) (fFun (funOr funReprD (funTxt 0 G_Ratio_repr)) (fCons (fFr (fLst (fCons (fBin (gI0 fun i j => .bl (decide (i < j))) (fV 5) (fC (.int 0))) (fCons (fBin (gI0 fun i j => .bl (decide (i ≤ j))) (fV 5) (fC (.int 0))) fNil)))) fNil))))))))))
def G_law_whole_right : List D → Option D := outD 6 g_law_whole_right
theorem ok_law_whole_right (M : Facts K mg) : FnG P w K mg base 8 M.a_law_whole_right M.d_law_whole_right ["_law_one", "_law_whole_here"] (sp0 (TT K M.C_Ratio) 2 G_law_whole_right) :=
  ok0' (g := g_law_whole_right) M.F_law_whole_right sc_law_whole_right rfl rfl (fun cdv A outer s H E hq hr =>
    (sts_cons (st_asg (ws := [2, 3, 4]) (pd_tup (pds_cons (pd_make (c := 0) rfl M.mk_Ratio (ok_Ratio_init M) hq (hr.mono (by decide)) M.m_Ratio M.bi_Ratio_init_2 (pds_cons (pd_ixN (i := 0) pd_int) (pds_cons (pd_ixN (i := 0) pd_int) pds_nil)) pks_nil) (pds_cons (pd_v 0) pds_nil))) (tg_t rfl (tgs_cons (tg_n 2 sc_law_whole_right.nd) (tgs_cons (tg_t rfl (tgs_cons (tg_n 3 sc_law_whole_right.nd) (tgs_cons (tg_n 4 sc_law_whole_right.nd) tgs_nil))) tgs_nil))))
    (sts_cons (st_if (PW.pt (w_or (pt_n (pt_d (pd_call (ok_law_is M) hq (hr.mono (by decide)) M.m_law_is M.F_law_is.kp (bnd_of 3 M.b_law_is .nil lits_nil rfl) (pds_cons (pd_op (Dl.OpR.or (Dl.OpR.or op_add0 (op_ownB (E := E0) M.o_Ratio_add (ok_Ratio_add M) hq (hr.mono (by decide)) M.b_Ratio_add rfl)) (op_radd (E := E0) M.r_Ratio_radd (ok_Ratio_radd M) hq (hr.mono (by decide)) M.b_Ratio_radd rfl)) (Dl.OpV.or (Dl.OpV.or opv_add0 (opv_own2 (c := 0) rfl)) (opv_ownR (c := 0) rfl)) (pd_v 2) (pd_v 1)) (pds_cons (pd_op (Dl.OpR.or (Dl.OpR.or op_add0 (op_ownB (E := E0) M.o_Ratio_add (ok_Ratio_add M) hq (hr.mono (by decide)) M.b_Ratio_add rfl)) (op_radd (E := E0) M.r_Ratio_radd (ok_Ratio_radd M) hq (hr.mono (by decide)) M.b_Ratio_radd rfl)) (Dl.OpV.or (Dl.OpV.or opv_add0 (opv_own2 (c := 0) rfl)) (opv_ownR (c := 0) rfl)) (pd_v 3) (pd_op (Dl.OpR.or (Dl.OpR.or op_mulW (op_ownB (E := E0) M.o_Ratio_mul (ok_Ratio_mul M) hq (hr.mono (by decide)) M.b_Ratio_mul rfl)) (op_rmul (E := E0) M.r_Ratio_rmul (ok_Ratio_rmul M) hq (hr.mono (by decide)) M.b_Ratio_rmul rfl)) (Dl.OpV.or (Dl.OpV.or opv_mulW (opv_own2 (c := 0) rfl)) (opv_ownR (c := 0) rfl)) (pd_v 1) (pd_v 4))) (pds_cons (pd_v 4) pds_nil))) pks_nil))) (w_or (pt_n (pt_d (pd_call (ok_law_is M) hq (hr.mono (by decide)) M.m_law_is M.F_law_is.kp (bnd_of 3 M.b_law_is .nil lits_nil rfl) (pds_cons (pd_op (Dl.OpR.or (Dl.OpR.or op_add0 (op_ownB (E := E0) M.o_Ratio_add (ok_Ratio_add M) hq (hr.mono (by decide)) M.b_Ratio_add rfl)) (op_radd (E := E0) M.r_Ratio_radd (ok_Ratio_radd M) hq (hr.mono (by decide)) M.b_Ratio_radd rfl)) (Dl.OpV.or (Dl.OpV.or opv_add0 (opv_own2 (c := 0) rfl)) (opv_ownR (c := 0) rfl)) (pd_v 1) (pd_v 2)) (pds_cons (pd_op (Dl.OpR.or (Dl.OpR.or op_add0 (op_ownB (E := E0) M.o_Ratio_add (ok_Ratio_add M) hq (hr.mono (by decide)) M.b_Ratio_add rfl)) (op_radd (E := E0) M.r_Ratio_radd (ok_Ratio_radd M) hq (hr.mono (by decide)) M.b_Ratio_radd rfl)) (Dl.OpV.or (Dl.OpV.or opv_add0 (opv_own2 (c := 0) rfl)) (opv_ownR (c := 0) rfl)) (pd_v 3) (pd_op (Dl.OpR.or (Dl.OpR.or op_mulW (op_ownB (E := E0) M.o_Ratio_mul (ok_Ratio_mul M) hq (hr.mono (by decide)) M.b_Ratio_mul rfl)) (op_rmul (E := E0) M.r_Ratio_rmul (ok_Ratio_rmul M) hq (hr.mono (by decide)) M.b_Ratio_rmul rfl)) (Dl.OpV.or (Dl.OpV.or opv_mulW (opv_own2 (c := 0) rfl)) (opv_ownR (c := 0) rfl)) (pd_v 1) (pd_v 4))) (pds_cons (pd_v 4) pds_nil))) pks_nil))) (w_or1 (pt_n (pt_d (pd_call (ok_law_is M) hq (hr.mono (by decide)) M.m_law_is M.F_law_is.kp (bnd_of 3 M.b_law_is .nil lits_nil rfl) (pds_cons (pd_op (Dl.OpR.or (Dl.OpR.or op_sub (op_ownB (E := E0) M.o_Ratio_sub (ok_Ratio_sub M) hq (hr.mono (by decide)) M.b_Ratio_sub rfl)) (op_rsub (E := E0) M.r_Ratio_rsub (ok_Ratio_rsub M) hq (hr.mono (by decide)) M.b_Ratio_rsub rfl)) (Dl.OpV.or (Dl.OpV.or opv_sub (opv_own2 (c := 0) rfl)) (opv_ownR (c := 0) rfl)) (pd_v 1) (pd_v 2)) (pds_cons (pd_op (Dl.OpR.or (Dl.OpR.or op_sub (op_ownB (E := E0) M.o_Ratio_sub (ok_Ratio_sub M) hq (hr.mono (by decide)) M.b_Ratio_sub rfl)) (op_rsub (E := E0) M.r_Ratio_rsub (ok_Ratio_rsub M) hq (hr.mono (by decide)) M.b_Ratio_rsub rfl)) (Dl.OpV.or (Dl.OpV.or opv_sub (opv_own2 (c := 0) rfl)) (opv_ownR (c := 0) rfl)) (pd_op (Dl.OpR.or (Dl.OpR.or op_mulW (op_ownB (E := E0) M.o_Ratio_mul (ok_Ratio_mul M) hq (hr.mono (by decide)) M.b_Ratio_mul rfl)) (op_rmul (E := E0) M.r_Ratio_rmul (ok_Ratio_rmul M) hq (hr.mono (by decide)) M.b_Ratio_rmul rfl)) (Dl.OpV.or (Dl.OpV.or opv_mulW (opv_own2 (c := 0) rfl)) (opv_ownR (c := 0) rfl)) (pd_v 1) (pd_v 4)) (pd_v 3)) (pds_cons (pd_v 4) pds_nil))) pks_nil))))))) (sts_one (st_ret pd_bl)) sts_nil)
    (sts_cons (st_if (PW.pt (w_or (pt_n (pt_d (pd_call (ok_law_is M) hq (hr.mono (by decide)) M.m_law_is M.F_law_is.kp (bnd_of 3 M.b_law_is .nil lits_nil rfl) (pds_cons (pd_op (Dl.OpR.or (Dl.OpR.or op_sub (op_ownB (E := E0) M.o_Ratio_sub (ok_Ratio_sub M) hq (hr.mono (by decide)) M.b_Ratio_sub rfl)) (op_rsub (E := E0) M.r_Ratio_rsub (ok_Ratio_rsub M) hq (hr.mono (by decide)) M.b_Ratio_rsub rfl)) (Dl.OpV.or (Dl.OpV.or opv_sub (opv_own2 (c := 0) rfl)) (opv_ownR (c := 0) rfl)) (pd_v 2) (pd_v 1)) (pds_cons (pd_op (Dl.OpR.or (Dl.OpR.or op_sub (op_ownB (E := E0) M.o_Ratio_sub (ok_Ratio_sub M) hq (hr.mono (by decide)) M.b_Ratio_sub rfl)) (op_rsub (E := E0) M.r_Ratio_rsub (ok_Ratio_rsub M) hq (hr.mono (by decide)) M.b_Ratio_rsub rfl)) (Dl.OpV.or (Dl.OpV.or opv_sub (opv_own2 (c := 0) rfl)) (opv_ownR (c := 0) rfl)) (pd_v 3) (pd_op (Dl.OpR.or (Dl.OpR.or op_mulW (op_ownB (E := E0) M.o_Ratio_mul (ok_Ratio_mul M) hq (hr.mono (by decide)) M.b_Ratio_mul rfl)) (op_rmul (E := E0) M.r_Ratio_rmul (ok_Ratio_rmul M) hq (hr.mono (by decide)) M.b_Ratio_rmul rfl)) (Dl.OpV.or (Dl.OpV.or opv_mulW (opv_own2 (c := 0) rfl)) (opv_ownR (c := 0) rfl)) (pd_v 1) (pd_v 4))) (pds_cons (pd_v 4) pds_nil))) pks_nil))) (w_or (pt_n (pt_d (pd_call (ok_law_is M) hq (hr.mono (by decide)) M.m_law_is M.F_law_is.kp (bnd_of 3 M.b_law_is .nil lits_nil rfl) (pds_cons (pd_op (Dl.OpR.or (Dl.OpR.or op_mulW (op_ownB (E := E0) M.o_Ratio_mul (ok_Ratio_mul M) hq (hr.mono (by decide)) M.b_Ratio_mul rfl)) (op_rmul (E := E0) M.r_Ratio_rmul (ok_Ratio_rmul M) hq (hr.mono (by decide)) M.b_Ratio_rmul rfl)) (Dl.OpV.or (Dl.OpV.or opv_mulW (opv_own2 (c := 0) rfl)) (opv_ownR (c := 0) rfl)) (pd_v 1) (pd_v 2)) (pds_cons (pd_op (Dl.OpR.or (Dl.OpR.or op_mulW (op_ownB (E := E0) M.o_Ratio_mul (ok_Ratio_mul M) hq (hr.mono (by decide)) M.b_Ratio_mul rfl)) (op_rmul (E := E0) M.r_Ratio_rmul (ok_Ratio_rmul M) hq (hr.mono (by decide)) M.b_Ratio_rmul rfl)) (Dl.OpV.or (Dl.OpV.or opv_mulW (opv_own2 (c := 0) rfl)) (opv_ownR (c := 0) rfl)) (pd_v 1) (pd_v 3)) (pds_cons (pd_v 4) pds_nil))) pks_nil))) (w_or1 (pt_n (pt_d (pd_call (ok_law_is M) hq (hr.mono (by decide)) M.m_law_is M.F_law_is.kp (bnd_of 3 M.b_law_is .nil lits_nil rfl) (pds_cons (pd_op (Dl.OpR.or (Dl.OpR.or op_mulW (op_ownB (E := E0) M.o_Ratio_mul (ok_Ratio_mul M) hq (hr.mono (by decide)) M.b_Ratio_mul rfl)) (op_rmul (E := E0) M.r_Ratio_rmul (ok_Ratio_rmul M) hq (hr.mono (by decide)) M.b_Ratio_rmul rfl)) (Dl.OpV.or (Dl.OpV.or opv_mulW (opv_own2 (c := 0) rfl)) (opv_ownR (c := 0) rfl)) (pd_v 2) (pd_v 1)) (pds_cons (pd_op (Dl.OpR.or (Dl.OpR.or op_mulW (op_ownB (E := E0) M.o_Ratio_mul (ok_Ratio_mul M) hq (hr.mono (by decide)) M.b_Ratio_mul rfl)) (op_rmul (E := E0) M.r_Ratio_rmul (ok_Ratio_rmul M) hq (hr.mono (by decide)) M.b_Ratio_rmul rfl)) (Dl.OpV.or (Dl.OpV.or opv_mulW (opv_own2 (c := 0) rfl)) (opv_ownR (c := 0) rfl)) (pd_v 1) (pd_v 3)) (pds_cons (pd_v 4) pds_nil))) pks_nil))))))) (sts_one (st_ret pd_bl)) sts_nil)
    (sts_cons (st_if (PW.pt (w_and (pt_cmp' (Dl.OpR.or op_ne (op_ownNe (T := TT K M.C_Ratio) (E := E0) M.e_Ratio_eq M.ef_Ratio_eq M.ne_Ratio_eq M.ob_Ratio (ok_Ratio_eq M) hq (hr.mono (by decide)) M.b_Ratio_eq rfl)) (Dl.OpV.or opv_neF (opv_ownNe (c := 0) rfl M.tp_Ratio)) (pd_v 1) pd_int rfl) (w_and1 (pt_n (pt_d (pd_call (ok_law_is M) hq (hr.mono (by decide)) M.m_law_is M.F_law_is.kp (bnd_of 3 M.b_law_is .nil lits_nil rfl) (pds_cons (pd_meth (c := 0) (pd_v 2) rfl M.hc_Ratio M.t_Ratio_over (ok_Ratio_over M) hq (hr.mono (by decide)) (bnd_of 2 M.b_Ratio_over .nil lits_nil rfl) (pds_cons (pd_v 1) pds_nil) pks_nil) (pds_cons (pd_v 3) (pds_cons (pd_op (Dl.OpR.or (Dl.OpR.or op_mulW (op_ownB (E := E0) M.o_Ratio_mul (ok_Ratio_mul M) hq (hr.mono (by decide)) M.b_Ratio_mul rfl)) (op_rmul (E := E0) M.r_Ratio_rmul (ok_Ratio_rmul M) hq (hr.mono (by decide)) M.b_Ratio_rmul rfl)) (Dl.OpV.or (Dl.OpV.or opv_mulW (opv_own2 (c := 0) rfl)) (opv_ownR (c := 0) rfl)) (pd_v 4) (pd_v 1)) pds_nil))) pks_nil)))))) (sts_one (st_ret pd_bl)) sts_nil)
    (sts_cons (st_if (PW.pt (w_or (pt_n (pt_d (pd_call (ok_law_is M) hq (hr.mono (by decide)) M.m_law_is M.F_law_is.kp (bnd_of 3 M.b_law_is .nil lits_nil rfl) (pds_cons (pd_make (c := 0) rfl M.mk_Ratio (ok_Ratio_init M) hq (hr.mono (by decide)) M.m_Ratio M.bi_Ratio_init_1 (pds_cons (pd_v 1) pds_nil) pks_nil) (pds_cons (pd_v 1) (pds_cons pd_int pds_nil))) pks_nil))) (w_or1 (pt_cmp' op_notBl opv_isNotB (pd_cmp (Dl.OpR.or op_eq (op_ownE (T := TT K M.C_Ratio) (E := E0) M.e_Ratio_eq M.ef_Ratio_eq (ok_Ratio_eq M) hq (hr.mono (by decide)) M.b_Ratio_eq rfl)) (Dl.OpV.or opv_eqF (opv_ownE (c := 0) rfl M.tp_Ratio)) (pd_v 2) (pd_v 1) rfl) pd_bl rfl)))) (sts_one (st_ret pd_bl)) sts_nil)
    (sts_cons (st_set 5 sc_law_whole_right.nd (pd_op (Dl.OpR.or (Dl.OpR.or op_mulW (op_ownB (E := E0) M.o_Ratio_mul (ok_Ratio_mul M) hq (hr.mono (by decide)) M.b_Ratio_mul rfl)) (op_rmul (E := E0) M.r_Ratio_rmul (ok_Ratio_rmul M) hq (hr.mono (by decide)) M.b_Ratio_rmul rfl)) (Dl.OpV.or (Dl.OpV.or opv_mulW (opv_own2 (c := 0) rfl)) (opv_ownR (c := 0) rfl)) (pd_op (Dl.OpR.or (Dl.OpR.or op_sub (op_ownB (E := E0) M.o_Ratio_sub (ok_Ratio_sub M) hq (hr.mono (by decide)) M.b_Ratio_sub rfl)) (op_rsub (E := E0) M.r_Ratio_rsub (ok_Ratio_rsub M) hq (hr.mono (by decide)) M.b_Ratio_rsub rfl)) (Dl.OpV.or (Dl.OpV.or opv_sub (opv_own2 (c := 0) rfl)) (opv_ownR (c := 0) rfl)) (pd_v 3) (pd_op (Dl.OpR.or (Dl.OpR.or op_mulW (op_ownB (E := E0) M.o_Ratio_mul (ok_Ratio_mul M) hq (hr.mono (by decide)) M.b_Ratio_mul rfl)) (op_rmul (E := E0) M.r_Ratio_rmul (ok_Ratio_rmul M) hq (hr.mono (by decide)) M.b_Ratio_rmul rfl)) (Dl.OpV.or (Dl.OpV.or opv_mulW (opv_own2 (c := 0) rfl)) (opv_ownR (c := 0) rfl)) (pd_v 1) (pd_v 4))) (pd_v 4)))
    (sts_one (st_ret (pd_cmp (Dl.OpR.or op_eq (op_ownE (T := TT K M.C_Ratio) (E := E0) M.e_Ratio_eq M.ef_Ratio_eq (ok_Ratio_eq M) hq (hr.mono (by decide)) M.b_Ratio_eq rfl)) (Dl.OpV.or opv_eqF (opv_ownE (c := 0) rfl M.tp_Ratio)) (pd_blt (Dl.CallR.orr (call_reprD hq (hr.mono (by decide))) (call_reprOwn (E := E0) M.s_Ratio_repr M.sf_Ratio_repr (ok_Ratio_repr M) hq (hr.mono (by decide)) M.b_Ratio_repr rfl)) (Dl.CallV.or callv_reprD (callv_txt (c := 0) rfl)) M.n_repr (by decide +kernel) (pds_cons (pd_fr (pf_lst (pds_cons (pd_meth (c := 0) (pd_v 2) rfl M.hc_Ratio M.t_Ratio_is_below (ok_Ratio_is_below M) hq (hr.mono (by decide)) (bnd_of 2 M.b_Ratio_is_below .nil lits_nil rfl) (pds_cons (pd_v 1) pds_nil) pks_nil) (pds_cons (pd_meth (c := 0) (pd_v 2) rfl M.hc_Ratio M.t_Ratio_is_at_most (ok_Ratio_is_at_most M) hq (hr.mono (by decide)) (bnd_of 2 M.b_Ratio_is_at_most .nil lits_nil rfl) (pds_cons (pd_v 1) pds_nil) pks_nil) pds_nil)))) pds_nil)) (pd_blt (Dl.CallR.orr (call_reprD hq (hr.mono (by decide))) (call_reprOwn (E := E0) M.s_Ratio_repr M.sf_Ratio_repr (ok_Ratio_repr M) hq (hr.mono (by decide)) M.b_Ratio_repr rfl)) (Dl.CallV.or callv_reprD (callv_txt (c := 0) rfl)) M.n_repr (by decide +kernel) (pds_cons (pd_fr (pf_lst (pds_cons (pd_cmp op_lt opv_lt (pd_v 5) pd_int rfl) (pds_cons (pd_cmp op_le opv_le (pd_v 5) pd_int rfl) pds_nil)))) pds_nil)) rfl))))))))))

theorem sc_law_total_right : FnScope ["_law_pot_here", "_law_pairs", "_law_top_here", "_law_bottom", "_law_told", "_law_turn", "_law_whole_here", "_law_one"] ["_law_pot_here", "_law_pairs"] (defScope s_law_total_right) := ⟨rfl, rfl, rfl, by decide +kernel, rfl, by decide +kernel, by decide +kernel⟩
def g_law_total_right : FS := (sSeq (sPar3F 2 3 4 (fC (.int 0)) (fC (.int 1)) (fLst fNil))
    (sSeq (sFor (fRg1 (fCons (fCallP 0 G_law_draw (fCons (fC (.int 5)) fNil)) fNil)) (gN 5) (sIf (fB (fBin (gOr gEqF (gOwnE 0 G_Ratio_eq)) (fCallP 0 G_law_draw (fCons (fC (.int 3)) fNil)) (fC (.int 0)))) (sSeq (sSet 6 (fCallP 0 G_law_whole fNil))
    (sSeq (sApp 4 (fV 6))
    (sSet 2 (fBin (gOr (gOr gAdd0 (gOwn2 0 G_Ratio_add)) (gOwnR 0 G_Ratio_radd)) (fV 2) (fBin (gOr (gOr (gI okMul fun i j => .int (i * j)) (gOwn2 0 G_Ratio_mul)) (gOwnR 0 G_Ratio_rmul)) (fV 6) (fV 3)))))) (sSeq (sSet 7 (fCallP 0 G_law_pick (fCons (fV 1) fNil)))
    (sSeq (sApp 4 (fMake 0 G_Ratio_init (gPos []) (fCons (fIxN 7 (fC (.int 0))) (fCons (fIxN 7 (fC (.int 1))) fNil)) fNil))
    (sPar 2 3 (fCons (fBin (gOr (gOr gAdd0 (gOwn2 0 G_Ratio_add)) (gOwnR 0 G_Ratio_radd)) (fBin (gOr (gOr (gI okMul fun i j => .int (i * j)) (gOwn2 0 G_Ratio_mul)) (gOwnR 0 G_Ratio_rmul)) (fV 2) (fIxN 7 (fC (.int 1)))) (fBin (gOr (gOr (gI okMul fun i j => .int (i * j)) (gOwn2 0 G_Ratio_mul)) (gOwnR 0 G_Ratio_rmul)) (fIxN 7 (fC (.int 0))) (fV 3))) (fCons (fBin (gOr (gOr (gI okMul fun i j => .int (i * j)) (gOwn2 0 G_Ratio_mul)) (gOwnR 0 G_Ratio_rmul)) (fV 3) (fIxN 7 (fC (.int 1)))) fNil)))))))
    (sRet (fAndV (fCall G_law_is (gPos []) (fCons (fCM 0 G_Ratio_total (gPos []) (fCons (fV 4) fNil) fNil) (fCons (fV 2) (fCons (fV 3) fNil))) fNil) (fCall G_law_is (gPos []) (fCons (fCM 0 G_Ratio_total (gPos []) fNil (fCons (fFun funTup (fCons (fV 4) fNil)) fNil)) (fCons (fV 2) (fCons (fV 3) fNil))) fNil)))))
def G_law_total_right : List D → List D → Option (D × List D) := outP 8 g_law_total_right
theorem ok_law_total_right (M : Facts K mg) : FnG P w K mg base 8 M.a_law_total_right M.d_law_total_right ["_law_pot_here", "_law_pairs"] (sp1 (TT K M.C_Ratio) 1 G_law_total_right) :=
  ok1' (g := g_law_total_right) M.F_law_total_right sc_law_total_right rfl rfl (fun cdv A outer s H E hq hr =>
    (sts_cons (st_par3F 2 3 4 rfl sc_law_total_right.nd pd_int pd_int (pf_lst pds_nil))
    (sts_cons (st_for (ws := [5]) PassesOwn.never rfl (pid_rg1 M.n_range (pds_cons (pd_callP (i := 0) (ok_law_draw M) hq (hr.mono (by decide)) M.m_law_draw M.F_law_draw.kp M.b_law_draw rfl (pds_cons pd_int pds_nil)) pds_nil)) (tg_n 5 sc_law_total_right.nd) (sts_one (st_if (pt_cmp' (Dl.OpR.or op_eq (op_ownE (T := TT K M.C_Ratio) (E := E0) M.e_Ratio_eq M.ef_Ratio_eq (ok_Ratio_eq M) hq (hr.mono (by decide)) M.b_Ratio_eq rfl)) (Dl.OpV.or opv_eqF (opv_ownE (c := 0) rfl M.tp_Ratio)) (pd_callP (i := 0) (ok_law_draw M) hq (hr.mono (by decide)) M.m_law_draw M.F_law_draw.kp M.b_law_draw rfl (pds_cons pd_int pds_nil)) pd_int rfl) (sts_cons (st_set 6 sc_law_total_right.nd (pd_callP (i := 0) (ok_law_whole M) hq (hr.mono (by decide)) M.m_law_whole M.F_law_whole.kp M.b_law_whole rfl pds_nil))
    (sts_cons (st_app (i := 4) (pd_v 6) (h := fun ho => pe_bm PySem.F.plainAttrs_list PySem.F.slot_list_append PySem.F.type_list_append mt_append ho (pa_cons (pd_v 6) pa_nil)))
    (sts_one (st_set 2 sc_law_total_right.nd (pd_op (Dl.OpR.or (Dl.OpR.or op_add0 (op_ownB (E := E0) M.o_Ratio_add (ok_Ratio_add M) hq (hr.mono (by decide)) M.b_Ratio_add rfl)) (op_radd (E := E0) M.r_Ratio_radd (ok_Ratio_radd M) hq (hr.mono (by decide)) M.b_Ratio_radd rfl)) (Dl.OpV.or (Dl.OpV.or opv_add0 (opv_own2 (c := 0) rfl)) (opv_ownR (c := 0) rfl)) (pd_v 2) (pd_op (Dl.OpR.or (Dl.OpR.or op_mulW (op_ownB (E := E0) M.o_Ratio_mul (ok_Ratio_mul M) hq (hr.mono (by decide)) M.b_Ratio_mul rfl)) (op_rmul (E := E0) M.r_Ratio_rmul (ok_Ratio_rmul M) hq (hr.mono (by decide)) M.b_Ratio_rmul rfl)) (Dl.OpV.or (Dl.OpV.or opv_mulW (opv_own2 (c := 0) rfl)) (opv_ownR (c := 0) rfl)) (pd_v 6) (pd_v 3))))))) (sts_cons (st_set 7 sc_law_total_right.nd (pd_callP (i := 0) (ok_law_pick M) hq (hr.mono (by decide)) M.m_law_pick M.F_law_pick.kp M.b_law_pick rfl (pds_cons (pd_v 1) pds_nil)))
    (sts_cons (st_app (i := 4) (pd_make (c := 0) rfl M.mk_Ratio (ok_Ratio_init M) hq (hr.mono (by decide)) M.m_Ratio M.bi_Ratio_init_2 (pds_cons (pd_ixN (i := 7) pd_int) (pds_cons (pd_ixN (i := 7) pd_int) pds_nil)) pks_nil) (h := fun ho => pe_bm PySem.F.plainAttrs_list PySem.F.slot_list_append PySem.F.type_list_append mt_append ho (pa_cons (pd_make (c := 0) rfl M.mk_Ratio (ok_Ratio_init M) hq (hr.mono (by decide)) M.m_Ratio M.bi_Ratio_init_2 (pds_cons (pd_ixN (i := 7) pd_int) (pds_cons (pd_ixN (i := 7) pd_int) pds_nil)) pks_nil) pa_nil)))
    (sts_one (st_par 2 3 rfl sc_law_total_right.nd (pds_cons (pd_op (Dl.OpR.or (Dl.OpR.or op_add0 (op_ownB (E := E0) M.o_Ratio_add (ok_Ratio_add M) hq (hr.mono (by decide)) M.b_Ratio_add rfl)) (op_radd (E := E0) M.r_Ratio_radd (ok_Ratio_radd M) hq (hr.mono (by decide)) M.b_Ratio_radd rfl)) (Dl.OpV.or (Dl.OpV.or opv_add0 (opv_own2 (c := 0) rfl)) (opv_ownR (c := 0) rfl)) (pd_op (Dl.OpR.or (Dl.OpR.or op_mulW (op_ownB (E := E0) M.o_Ratio_mul (ok_Ratio_mul M) hq (hr.mono (by decide)) M.b_Ratio_mul rfl)) (op_rmul (E := E0) M.r_Ratio_rmul (ok_Ratio_rmul M) hq (hr.mono (by decide)) M.b_Ratio_rmul rfl)) (Dl.OpV.or (Dl.OpV.or opv_mulW (opv_own2 (c := 0) rfl)) (opv_ownR (c := 0) rfl)) (pd_v 2) (pd_ixN (i := 7) pd_int)) (pd_op (Dl.OpR.or (Dl.OpR.or op_mulW (op_ownB (E := E0) M.o_Ratio_mul (ok_Ratio_mul M) hq (hr.mono (by decide)) M.b_Ratio_mul rfl)) (op_rmul (E := E0) M.r_Ratio_rmul (ok_Ratio_rmul M) hq (hr.mono (by decide)) M.b_Ratio_rmul rfl)) (Dl.OpV.or (Dl.OpV.or opv_mulW (opv_own2 (c := 0) rfl)) (opv_ownR (c := 0) rfl)) (pd_ixN (i := 7) pd_int) (pd_v 3))) (pds_cons (pd_op (Dl.OpR.or (Dl.OpR.or op_mulW (op_ownB (E := E0) M.o_Ratio_mul (ok_Ratio_mul M) hq (hr.mono (by decide)) M.b_Ratio_mul rfl)) (op_rmul (E := E0) M.r_Ratio_rmul (ok_Ratio_rmul M) hq (hr.mono (by decide)) M.b_Ratio_rmul rfl)) (Dl.OpV.or (Dl.OpV.or opv_mulW (opv_own2 (c := 0) rfl)) (opv_ownR (c := 0) rfl)) (pd_v 3) (pd_ixN (i := 7) pd_int)) pds_nil)))))))))
    (sts_one (st_ret (pd_and (pd_call (ok_law_is M) hq (hr.mono (by decide)) M.m_law_is M.F_law_is.kp (bnd_of 3 M.b_law_is .nil lits_nil rfl) (pds_cons (pd_cm (c := 0) rfl M.m_Ratio M.cr_Ratio M.cm_Ratio_total (ok_Ratio_total M) hq (hr.mono (by decide)) (bnd_of 2 M.b_Ratio_total .nil lits_nil rfl) (pds_cons (pd_v 4) pds_nil) pks_nil) (pds_cons (pd_v 2) (pds_cons (pd_v 3) pds_nil))) pks_nil) (pd_one (pd_call (ok_law_is M) hq (hr.mono (by decide)) M.m_law_is M.F_law_is.kp (bnd_of 3 M.b_law_is .nil lits_nil rfl) (pds_cons (pd_cm0 (c := 0) rfl M.m_Ratio M.cr_Ratio M.cm_Ratio_total (ok_Ratio_total M) hq (hr.mono (by decide)) (bnd_kw 1 ["numbers"] M.F_Ratio_total (fun _ _ _ _ _ _ us ws h1 h2 => match us, ws, h1, h2 with | [_], [_], _, _ => rfl)) (pks_cons (pd_bty call_tuple_of callv_tup M.n_tuple (by decide +kernel) (pds_cons (pd_v 4) pds_nil)) pks_nil)) (pds_cons (pd_v 2) (pds_cons (pd_v 3) pds_nil))) pks_nil))))))))

theorem sc_law : FnScope ["_law_script", "_law_pot_here", "_law_pairs", "_law_whole_here", "_law_one", "_law_other"] ["_law_script"] (defScope s_law) := ⟨rfl, rfl, rfl, by decide +kernel, rfl, by decide +kernel, by decide +kernel⟩
def g_law : FS := (sSeq (sOwn 1 (fCallF G_law_pot (fCons (fV 0) (fCons (fC (.int 0)) fNil))))
    (sSeq (sOwn 2 (fLst (fCons (fCallP 1 G_law_pair fNil) (fCons (fCallP 1 G_law_pair fNil) (fCons (fTup (fCons (fC (.int 0)) (fCons (fC (.int 3)) fNil))) fNil)))))
    (sSeq (sApp 2 (fTup (fCons (fBin (gOr (gOr (gI okMul fun i j => .int (i * j)) (gOwn2 0 G_Ratio_mul)) (gOwnR 0 G_Ratio_rmul)) (fBin gIx (fIxN 2 (fC (.int 0))) (fC (.int 0))) (fC (.int 6))) (fCons (fBin (gOr (gOr (gI okMul fun i j => .int (i * j)) (gOwn2 0 G_Ratio_mul)) (gOwnR 0 G_Ratio_rmul)) (fBin gIx (fIxN 2 (fC (.int 0))) (fC (.int 1))) (fC (.int 6))) fNil))))
    (sSeq (sApp 2 (fTup (fCons (fBin (gOr (gOr (gI0 fun i j => .int (i - j)) (gOwn2 0 G_Ratio_sub)) (gOwnR 0 G_Ratio_rsub)) (fC (.int 0)) (fBin gIx (fIxN 2 (fC (.int 1))) (fC (.int 0)))) (fCons (fBin (gOr (gOr (gI0 fun i j => .int (i - j)) (gOwn2 0 G_Ratio_sub)) (gOwnR 0 G_Ratio_rsub)) (fC (.int 0)) (fBin gIx (fIxN 2 (fC (.int 1))) (fC (.int 1)))) fNil))))
    (sSeq (sSet 3 (fCallP 1 G_law_whole fNil))
    (sSeq (sFor (fSq (fFr (fSlice (fV 2) fNoPart (fPart (fC (.int 2)))))) (gN 4) (sIf (fOr (fNot (fB (fFun funAll (fCons (fFr (fLc (fSq (fV 2)) (gN 5) fYes (fCall G_law_two_right (gPos []) (fCons (fV 4) (fCons (fV 5) fNil)) fNil) [5])) fNil)))) (fNot (fB (fCall G_law_whole_right (gPos []) (fCons (fV 4) (fCons (fV 3) fNil)) fNil)))) (sRet (fC (.bl false))) sNil))
    (sRet (fAndV (fCall G_law_whole_right (gPos []) (fCons (fIxN 2 (fC (.int 2))) (fCons (fV 3) fNil)) fNil) (fAndV (fCall G_law_whole_right (gPos []) (fCons (fIxN 2 (fC (.int 0))) (fCons (fC (.int 0)) fNil)) fNil) (fCallP 1 G_law_total_right (fCons (fV 2) fNil)))))))))))
def G_law : List D → Option D := outD 6 g_law
theorem ok_law (M : Facts K mg) : FnG P w K mg base 9 M.a_law M.d_law ["_law_script"] (sp0 (TT K M.C_Ratio) 1 G_law) :=
  ok0' (g := g_law) M.F_law sc_law rfl rfl (fun cdv A outer s H E hq hr =>
    (sts_cons (st_own 1 sc_law.nd (pf_call (ok_law_pot M) hq (hr.mono (by decide)) M.m_law_pot M.F_law_pot.kp M.b_law_pot rfl (pds_cons (pd_v 0) (pds_cons pd_int pds_nil))))
    (sts_cons (st_own 2 sc_law.nd (pf_lst (pds_cons (pd_callP (i := 1) (ok_law_pair M) hq (hr.mono (by decide)) M.m_law_pair M.F_law_pair.kp M.b_law_pair rfl pds_nil) (pds_cons (pd_callP (i := 1) (ok_law_pair M) hq (hr.mono (by decide)) M.m_law_pair M.F_law_pair.kp M.b_law_pair rfl pds_nil) (pds_cons (pd_tup (pds_cons pd_int (pds_cons pd_int pds_nil))) pds_nil)))))
    (sts_cons (st_app (i := 2) (pd_tup (pds_cons (pd_op (Dl.OpR.or (Dl.OpR.or op_mulW (op_ownB (E := E0) M.o_Ratio_mul (ok_Ratio_mul M) hq (hr.mono (by decide)) M.b_Ratio_mul rfl)) (op_rmul (E := E0) M.r_Ratio_rmul (ok_Ratio_rmul M) hq (hr.mono (by decide)) M.b_Ratio_rmul rfl)) (Dl.OpV.or (Dl.OpV.or opv_mulW (opv_own2 (c := 0) rfl)) (opv_ownR (c := 0) rfl)) (pd_ix (pd_ixN (i := 2) pd_int) pd_int) pd_int) (pds_cons (pd_op (Dl.OpR.or (Dl.OpR.or op_mulW (op_ownB (E := E0) M.o_Ratio_mul (ok_Ratio_mul M) hq (hr.mono (by decide)) M.b_Ratio_mul rfl)) (op_rmul (E := E0) M.r_Ratio_rmul (ok_Ratio_rmul M) hq (hr.mono (by decide)) M.b_Ratio_rmul rfl)) (Dl.OpV.or (Dl.OpV.or opv_mulW (opv_own2 (c := 0) rfl)) (opv_ownR (c := 0) rfl)) (pd_ix (pd_ixN (i := 2) pd_int) pd_int) pd_int) pds_nil))) (h := fun ho => pe_bm PySem.F.plainAttrs_list PySem.F.slot_list_append PySem.F.type_list_append mt_append ho (pa_cons (pd_tup (pds_cons (pd_op (Dl.OpR.or (Dl.OpR.or op_mulW (op_ownB (E := E0) M.o_Ratio_mul (ok_Ratio_mul M) hq (hr.mono (by decide)) M.b_Ratio_mul rfl)) (op_rmul (E := E0) M.r_Ratio_rmul (ok_Ratio_rmul M) hq (hr.mono (by decide)) M.b_Ratio_rmul rfl)) (Dl.OpV.or (Dl.OpV.or opv_mulW (opv_own2 (c := 0) rfl)) (opv_ownR (c := 0) rfl)) (pd_ix (pd_ixN (i := 2) pd_int) pd_int) pd_int) (pds_cons (pd_op (Dl.OpR.or (Dl.OpR.or op_mulW (op_ownB (E := E0) M.o_Ratio_mul (ok_Ratio_mul M) hq (hr.mono (by decide)) M.b_Ratio_mul rfl)) (op_rmul (E := E0) M.r_Ratio_rmul (ok_Ratio_rmul M) hq (hr.mono (by decide)) M.b_Ratio_rmul rfl)) (Dl.OpV.or (Dl.OpV.or opv_mulW (opv_own2 (c := 0) rfl)) (opv_ownR (c := 0) rfl)) (pd_ix (pd_ixN (i := 2) pd_int) pd_int) pd_int) pds_nil))) pa_nil)))
    (sts_cons (st_app (i := 2) (pd_tup (pds_cons (pd_op (Dl.OpR.or (Dl.OpR.or op_sub (op_ownB (E := E0) M.o_Ratio_sub (ok_Ratio_sub M) hq (hr.mono (by decide)) M.b_Ratio_sub rfl)) (op_rsub (E := E0) M.r_Ratio_rsub (ok_Ratio_rsub M) hq (hr.mono (by decide)) M.b_Ratio_rsub rfl)) (Dl.OpV.or (Dl.OpV.or opv_sub (opv_own2 (c := 0) rfl)) (opv_ownR (c := 0) rfl)) pd_int (pd_ix (pd_ixN (i := 2) pd_int) pd_int)) (pds_cons (pd_op (Dl.OpR.or (Dl.OpR.or op_sub (op_ownB (E := E0) M.o_Ratio_sub (ok_Ratio_sub M) hq (hr.mono (by decide)) M.b_Ratio_sub rfl)) (op_rsub (E := E0) M.r_Ratio_rsub (ok_Ratio_rsub M) hq (hr.mono (by decide)) M.b_Ratio_rsub rfl)) (Dl.OpV.or (Dl.OpV.or opv_sub (opv_own2 (c := 0) rfl)) (opv_ownR (c := 0) rfl)) pd_int (pd_ix (pd_ixN (i := 2) pd_int) pd_int)) pds_nil))) (h := fun ho => pe_bm PySem.F.plainAttrs_list PySem.F.slot_list_append PySem.F.type_list_append mt_append ho (pa_cons (pd_tup (pds_cons (pd_op (Dl.OpR.or (Dl.OpR.or op_sub (op_ownB (E := E0) M.o_Ratio_sub (ok_Ratio_sub M) hq (hr.mono (by decide)) M.b_Ratio_sub rfl)) (op_rsub (E := E0) M.r_Ratio_rsub (ok_Ratio_rsub M) hq (hr.mono (by decide)) M.b_Ratio_rsub rfl)) (Dl.OpV.or (Dl.OpV.or opv_sub (opv_own2 (c := 0) rfl)) (opv_ownR (c := 0) rfl)) pd_int (pd_ix (pd_ixN (i := 2) pd_int) pd_int)) (pds_cons (pd_op (Dl.OpR.or (Dl.OpR.or op_sub (op_ownB (E := E0) M.o_Ratio_sub (ok_Ratio_sub M) hq (hr.mono (by decide)) M.b_Ratio_sub rfl)) (op_rsub (E := E0) M.r_Ratio_rsub (ok_Ratio_rsub M) hq (hr.mono (by decide)) M.b_Ratio_rsub rfl)) (Dl.OpV.or (Dl.OpV.or opv_sub (opv_own2 (c := 0) rfl)) (opv_ownR (c := 0) rfl)) pd_int (pd_ix (pd_ixN (i := 2) pd_int) pd_int)) pds_nil))) pa_nil)))
    (sts_cons (st_set 3 sc_law.nd (pd_callP (i := 1) (ok_law_whole M) hq (hr.mono (by decide)) M.m_law_whole M.F_law_whole.kp M.b_law_whole rfl pds_nil))
    (sts_cons (st_for (ws := [4]) PassesOwn.never rfl (pid_sq (pd_fr (pf_slice (pd_v 2) pdo_none (pdo_some pd_int)))) (tg_n 4 sc_law.nd) (sts_one (st_if (PW.pt (w_or (pt_n (pt_d (pd_blt (cr_all rfl) callv_all M.n_all (by decide +kernel) (pds_cons (pd_fr (pf_lc rfl sc_law.nd (blkOk_by (own := [("_law_other", 5)]) (by show blkC ["_law_script", "_law_pot_here", "_law_pairs", "_law_whole_here", "_law_one", "_law_other"] (defScope s_law) _ _ = true; decide +kernel)) (pid_sq (pd_v 2)) (fun _ _ _ _ _ => (tg_n 5 sc_law.nd)) (fun _ _ _ _ _ => pts_yes) (fun _ _ _ _ _ => (pd_call (ok_law_two_right M) hq (hr.mono (by decide)) M.m_law_two_right M.F_law_two_right.kp (bnd_of 2 M.b_law_two_right .nil lits_nil rfl) (pds_cons (pd_v 4) (pds_cons (pd_v 5) pds_nil)) pks_nil)))) pds_nil)))) (w_or1 (pt_n (pt_d (pd_call (ok_law_whole_right M) hq (hr.mono (by decide)) M.m_law_whole_right M.F_law_whole_right.kp (bnd_of 2 M.b_law_whole_right .nil lits_nil rfl) (pds_cons (pd_v 4) (pds_cons (pd_v 3) pds_nil)) pks_nil)))))) (sts_one (st_ret pd_bl)) sts_nil)))
    (sts_one (st_ret (pd_and (pd_call (ok_law_whole_right M) hq (hr.mono (by decide)) M.m_law_whole_right M.F_law_whole_right.kp (bnd_of 2 M.b_law_whole_right .nil lits_nil rfl) (pds_cons (pd_ixN (i := 2) pd_int) (pds_cons (pd_v 3) pds_nil)) pks_nil) (pd_and (pd_call (ok_law_whole_right M) hq (hr.mono (by decide)) M.m_law_whole_right M.F_law_whole_right.kp (bnd_of 2 M.b_law_whole_right .nil lits_nil rfl) (pds_cons (pd_ixN (i := 2) pd_int) (pds_cons pd_int pds_nil)) pks_nil) (pd_one (pd_callP (i := 1) (ok_law_total_right M) hq (hr.mono (by decide)) M.m_law_total_right M.F_law_total_right.kp M.b_law_total_right rfl (pds_cons (pd_v 2) pds_nil))))))))))))))
end
end My
namespace My
open PySem PySem.Spec PyProof.Rows L2 ClX Dl
abbrev R (p q : Int) : D := .obj 0 [.int p, .int q]
abbrev mkR (t b : Int) : D := R (nrm t b).1 (nrm t b).2
/-- within n bits -/
def Bd (x : Int) (n : Nat) : Prop := x.natAbs < 2 ^ n
theorem Bd.mono {x : Int} {n m : Nat} (h : Bd x n) (k : n ≤ m) : Bd x m := Nat.lt_of_lt_of_le h (Nat.pow_le_pow_right (by decide) k)
theorem Bd.mul {x y : Int} {n m : Nat} (h : Bd x n) (k : Bd y m) : Bd (x * y) (n + m) := by
  unfold Bd at *
  rw [Int.natAbs_mul, Nat.pow_add]
  exact Nat.mul_lt_mul'' h k
theorem Bd.add {x y : Int} {n : Nat} (h : Bd x n) (k : Bd y n) : Bd (x + y) (n + 1) := by
  unfold Bd at *
  rw [Nat.pow_succ]
  omega
theorem Bd.sub {x y : Int} {n : Nat} (h : Bd x n) (k : Bd y n) : Bd (x - y) (n + 1) := by
  unfold Bd at *
  rw [Nat.pow_succ]
  omega
theorem Bd.neg {x : Int} {n : Nat} (h : Bd x n) : Bd (-x) n := by unfold Bd at *; omega
theorem Bd.le {x y : Int} {n : Nat} (h : Bd x n) (k : y.natAbs ≤ x.natAbs) : Bd y n := Nat.lt_of_le_of_lt k h
theorem mul_ok {x y : Int} (h : Bd x 4000) (k : Bd y 4000) : okMul x y = true := by
  unfold okMul
  simp only [Bool.and_eq_true, decide_eq_true_eq]
  exact ⟨h, k⟩
theorem num_ok {x : Int} (h : Bd x 1900) : okNum x = true := by
  unfold okNum
  rw [decide_eq_true_eq]
  exact Nat.lt_of_lt_of_le (PySem.Flt.log2_lt_of (by decide) h) (by decide)
theorem bdOne {n : Nat} (h : n ≠ 0) : Bd 1 n := Nat.one_lt_two_pow h
theorem bd1 : Bd 1 4000 := by
  unfold Bd
  exact Nat.one_lt_two_pow (by decide)
theorem p_is_integer (i : Int) : G_is_integer [.int i] = some (.bl true) := rfl
theorem p_is_list (ds : List D) : G_is_list [.lst ds] = some (.bl true) := rfl
theorem p_is_listT (ds : List D) : G_is_list [.tup ds] = some (.bl true) := rfl
theorem p_init {t b : Int} (h : b ≠ 0) (k : Bd b 4000) : G_Ratio_init [.int t, .int b] = some [.int (nrm t b).1, .int (nrm t b).2] := if_pos ⟨h, k⟩
theorem p_top (p q : Int) : G_Ratio_top [R p q] = some (.int p) := rfl
theorem p_bottom (p q : Int) : G_Ratio_bottom [R p q] = some (.int q) := rfl
theorem p_as_ratio (p q : Int) : G_as_ratio [R p q] = some (R p q) := rfl
theorem p_as_ratioI (i : Int) : G_as_ratio [.int i] = some (R i 1) := by
  have h := @p_init i 1 (by decide) bd1
  rw [nrm_one] at h
  simp [G_as_ratio, outD, g_as_ratio, sSeq, sIf, fNot, fAnd, fOr, fB, fCall, fCons, fNil, fV, ini, gPos, sNo, sNil, fBin, Dl.gOr, gEqF, gNeF, litV, scal, sSet, fFun, gI0, gI, fC, endD, endP, fFld, fProp, sRet, fIf, fUn, gNeg, uOr, fAndV, fOrV, fNotV, fIsi, isC, pObj, gAdd0, gCatS, gCatL, fTup, fLst, fFr, Option.bind_some, Option.map_some, Option.bind_none, fMake, h]
theorem p_sign (p q : Int) : G_Ratio_sign [R p q] = some (.int (if p < 0 then -1 else if 0 < p then 1 else 0)) := by
  by_cases h : p < 0
  · simp [G_Ratio_sign, outD, g_Ratio_sign, sSeq, sIf, fNot, fAnd, fOr, fB, fCall, fCons, fNil, fV, ini, gPos, sNo, sNil, fBin, Dl.gOr, gEqF, gNeF, litV, scal, sSet, fFun, gI0, gI, fC, endD, endP, fFld, fProp, sRet, fIf, fUn, gNeg, uOr, fAndV, fOrV, fNotV, fIsi, isC, pObj, gAdd0, gCatS, gCatL, fTup, fLst, fFr, Option.bind_some, Option.map_some, Option.bind_none, h]
  · by_cases h2 : 0 < p
    · simp [G_Ratio_sign, outD, g_Ratio_sign, sSeq, sIf, fNot, fAnd, fOr, fB, fCall, fCons, fNil, fV, ini, gPos, sNo, sNil, fBin, Dl.gOr, gEqF, gNeF, litV, scal, sSet, fFun, gI0, gI, fC, endD, endP, fFld, fProp, sRet, fIf, fUn, gNeg, uOr, fAndV, fOrV, fNotV, fIsi, isC, pObj, gAdd0, gCatS, gCatL, fTup, fLst, fFr, Option.bind_some, Option.map_some, Option.bind_none, h, h2]
    · simp [G_Ratio_sign, outD, g_Ratio_sign, sSeq, sIf, fNot, fAnd, fOr, fB, fCall, fCons, fNil, fV, ini, gPos, sNo, sNil, fBin, Dl.gOr, gEqF, gNeF, litV, scal, sSet, fFun, gI0, gI, fC, endD, endP, fFld, fProp, sRet, fIf, fUn, gNeg, uOr, fAndV, fOrV, fNotV, fIsi, isC, pObj, gAdd0, gCatS, gCatL, fTup, fLst, fFr, Option.bind_some, Option.map_some, Option.bind_none, h, h2]
theorem p_is_whole (p q : Int) : G_Ratio_is_whole [R p q] = some (.bl (decide (q = 1))) := by
  simp [G_Ratio_is_whole, outD, g_Ratio_is_whole, sSeq, sIf, fNot, fAnd, fOr, fB, fCall, fCons, fNil, fV, ini, gPos, sNo, sNil, fBin, Dl.gOr, gEqF, gNeF, litV, scal, sSet, fFun, gI0, gI, fC, endD, endP, fFld, fProp, sRet, fIf, fUn, gNeg, uOr, fAndV, fOrV, fNotV, fIsi, isC, pObj, gAdd0, gCatS, gCatL, fTup, fLst, fFr, Option.bind_some, Option.map_some, Option.bind_none]
theorem p_eq (p q r s : Int) : G_Ratio_eq [R p q, R r s] = some (.bl (decide (p = r) && decide (q = s))) := by
  by_cases h : p = r <;> simp [G_Ratio_eq, outD, g_Ratio_eq, sSeq, sIf, fNot, fAnd, fOr, fB, fCall, fCons, fNil, fV, ini, gPos, sNo, sNil, fBin, Dl.gOr, gEqF, gNeF, litV, scal, sSet, fFun, gI0, gI, fC, endD, endP, fFld, fProp, sRet, fIf, fUn, gNeg, uOr, fAndV, fOrV, fNotV, fIsi, isC, pObj, gAdd0, gCatS, gCatL, fTup, fLst, fFr, Option.bind_some, Option.map_some, Option.bind_none, h]
theorem p_eqI (p q i : Int) : G_Ratio_eq [R p q, .int i] = some (.bl false) := by
  simp [G_Ratio_eq, outD, g_Ratio_eq, sSeq, sIf, fNot, fAnd, fOr, fB, fCall, fCons, fNil, fV, ini, gPos, sNo, sNil, fBin, Dl.gOr, gEqF, gNeF, litV, scal, sSet, fFun, gI0, gI, fC, endD, endP, fFld, fProp, sRet, fIf, fUn, gNeg, uOr, fAndV, fOrV, fNotV, fIsi, isC, pObj, gAdd0, gCatS, gCatL, fTup, fLst, fFr, Option.bind_some, Option.map_some, Option.bind_none]
theorem p_neg {p q : Int} (hq : q ≠ 0) (k : Bd q 4000) : G_Ratio_neg [R p q] = some (mkR (-p) q) := by
  have h := @p_init (-p) q hq k
  simp [G_Ratio_neg, outD, g_Ratio_neg, sSeq, sIf, fNot, fAnd, fOr, fB, fCall, fCons, fNil, fV, ini, gPos, sNo, sNil, fBin, Dl.gOr, gEqF, gNeF, litV, scal, sSet, fFun, gI0, gI, fC, endD, endP, fFld, fProp, sRet, fIf, fUn, gNeg, uOr, fAndV, fOrV, fNotV, fIsi, isC, pObj, gAdd0, gCatS, gCatL, fTup, fLst, fFr, Option.bind_some, Option.map_some, Option.bind_none, fMake, h]
theorem p_size {p q : Int} (hq : q ≠ 0) (k : Bd q 4000) : G_Ratio_size [R p q] = some (mkR (if p < 0 then -p else p) q) := by
  have h := @p_init (if p < 0 then -p else p) q hq k
  simp [G_Ratio_size, outD, g_Ratio_size, sSeq, sIf, fNot, fAnd, fOr, fB, fCall, fCons, fNil, fV, ini, gPos, sNo, sNil, fBin, Dl.gOr, gEqF, gNeF, litV, scal, sSet, fFun, gI0, gI, fC, endD, endP, fFld, fProp, sRet, fIf, fUn, gNeg, uOr, fAndV, fOrV, fNotV, fIsi, isC, pObj, gAdd0, gCatS, gCatL, fTup, fLst, fFr, Option.bind_some, Option.map_some, Option.bind_none, fMake, h, fun1I]
section
variable {p q r s : Int} (hq : q ≠ 0) (hs : s ≠ 0) (bp : Bd p 1900) (bq : Bd q 1900) (br : Bd r 1900) (bs : Bd s 1900)
include hq hs bp bq br bs
theorem p_add : G_Ratio_add [R p q, R r s] = some (mkR (p * s + r * q) (q * s)) := by
  have m1 := mul_ok (bp.mono (by decide)) (bs.mono (by decide : 1900 ≤ 4000))
  have m2 := mul_ok (br.mono (by decide)) (bq.mono (by decide : 1900 ≤ 4000))
  have m3 := mul_ok (bq.mono (by decide)) (bs.mono (by decide : 1900 ≤ 4000))
  have h := @p_init (p * s + r * q) (q * s) (Int.mul_ne_zero hq hs) ((bq.mul bs).mono (by decide))
  simp [G_Ratio_add, outD, g_Ratio_add, sSeq, sIf, fNot, fAnd, fOr, fB, fCall, fCons, fNil, fV, ini, gPos, sNo, sNil, fBin, Dl.gOr, gEqF, gNeF, litV, scal, sSet, fFun, gI0, gI, fC, endD, endP, fFld, fProp, sRet, fIf, fUn, gNeg, uOr, fAndV, fOrV, fNotV, fIsi, isC, pObj, gAdd0, gCatS, gCatL, fTup, fLst, fFr, Option.bind_some, Option.map_some, Option.bind_none, fMake, h, m1, m2, m3, p_as_ratio]
theorem p_sub : G_Ratio_sub [R p q, R r s] = some (mkR (p * s - r * q) (q * s)) := by
  have m1 := mul_ok (bp.mono (by decide)) (bs.mono (by decide : 1900 ≤ 4000))
  have m2 := mul_ok (br.mono (by decide)) (bq.mono (by decide : 1900 ≤ 4000))
  have m3 := mul_ok (bq.mono (by decide)) (bs.mono (by decide : 1900 ≤ 4000))
  have h := @p_init (p * s - r * q) (q * s) (Int.mul_ne_zero hq hs) ((bq.mul bs).mono (by decide))
  simp [G_Ratio_sub, outD, g_Ratio_sub, sSeq, sIf, fNot, fAnd, fOr, fB, fCall, fCons, fNil, fV, ini, gPos, sNo, sNil, fBin, Dl.gOr, gEqF, gNeF, litV, scal, sSet, fFun, gI0, gI, fC, endD, endP, fFld, fProp, sRet, fIf, fUn, gNeg, uOr, fAndV, fOrV, fNotV, fIsi, isC, pObj, gAdd0, gCatS, gCatL, fTup, fLst, fFr, Option.bind_some, Option.map_some, Option.bind_none, fMake, h, m1, m2, m3, p_as_ratio]
theorem p_mul : G_Ratio_mul [R p q, R r s] = some (mkR (p * r) (q * s)) := by
  have m1 := mul_ok (bp.mono (by decide)) (br.mono (by decide : 1900 ≤ 4000))
  have m3 := mul_ok (bq.mono (by decide)) (bs.mono (by decide : 1900 ≤ 4000))
  have h := @p_init (p * r) (q * s) (Int.mul_ne_zero hq hs) ((bq.mul bs).mono (by decide))
  simp [G_Ratio_mul, outD, g_Ratio_mul, sSeq, sIf, fNot, fAnd, fOr, fB, fCall, fCons, fNil, fV, ini, gPos, sNo, sNil, fBin, Dl.gOr, gEqF, gNeF, litV, scal, sSet, fFun, gI0, gI, fC, endD, endP, fFld, fProp, sRet, fIf, fUn, gNeg, uOr, fAndV, fOrV, fNotV, fIsi, isC, pObj, gAdd0, gCatS, gCatL, fTup, fLst, fFr, Option.bind_some, Option.map_some, Option.bind_none, fMake, h, m1, m3, p_as_ratio]
end
end My
namespace My
open PySem PySem.Spec PyProof.Rows L2 ClX Dl
section
variable {p q r s i : Int} (hq : q ≠ 0) (bp : Bd p 1900) (bq : Bd q 1900) (bi : Bd i 1900)
include hq bp bq bi
theorem p_addI : G_Ratio_add [R p q, .int i] = some (mkR (p + i * q) q) := by
  have m1 := mul_ok (bp.mono (by decide)) bd1
  have m2 := mul_ok (bi.mono (by decide)) (bq.mono (by decide : 1900 ≤ 4000))
  have m3 := mul_ok (bq.mono (by decide)) bd1
  have h := @p_init (p + i * q) q hq (bq.mono (by decide))
  simp [G_Ratio_add, outD, g_Ratio_add, sSeq, sIf, fNot, fAnd, fOr, fB, fCall, fCons, fNil, fV, ini, gPos, sNo, sNil, fBin, Dl.gOr, gEqF, gNeF, litV, scal, sSet, fFun, gI0, gI, fC, endD, endP, fFld, fProp, sRet, fIf, fUn, gNeg, uOr, fAndV, fOrV, fNotV, fIsi, isC, pObj, gAdd0, gCatS, gCatL, fTup, fLst, fFr, Option.bind_some, Option.map_some, Option.bind_none, fMake, h, m1, m2, m3, p_as_ratioI]
theorem p_subI : G_Ratio_sub [R p q, .int i] = some (mkR (p - i * q) q) := by
  have m1 := mul_ok (bp.mono (by decide)) bd1
  have m2 := mul_ok (bi.mono (by decide)) (bq.mono (by decide : 1900 ≤ 4000))
  have m3 := mul_ok (bq.mono (by decide)) bd1
  have h := @p_init (p - i * q) q hq (bq.mono (by decide))
  simp [G_Ratio_sub, outD, g_Ratio_sub, sSeq, sIf, fNot, fAnd, fOr, fB, fCall, fCons, fNil, fV, ini, gPos, sNo, sNil, fBin, Dl.gOr, gEqF, gNeF, litV, scal, sSet, fFun, gI0, gI, fC, endD, endP, fFld, fProp, sRet, fIf, fUn, gNeg, uOr, fAndV, fOrV, fNotV, fIsi, isC, pObj, gAdd0, gCatS, gCatL, fTup, fLst, fFr, Option.bind_some, Option.map_some, Option.bind_none, fMake, h, m1, m2, m3, p_as_ratioI]
theorem p_mulI : G_Ratio_mul [R p q, .int i] = some (mkR (p * i) q) := by
  have m1 := mul_ok (bp.mono (by decide)) (bi.mono (by decide : 1900 ≤ 4000))
  have m3 := mul_ok (bq.mono (by decide)) bd1
  have h := @p_init (p * i) q hq (bq.mono (by decide))
  simp [G_Ratio_mul, outD, g_Ratio_mul, sSeq, sIf, fNot, fAnd, fOr, fB, fCall, fCons, fNil, fV, ini, gPos, sNo, sNil, fBin, Dl.gOr, gEqF, gNeF, litV, scal, sSet, fFun, gI0, gI, fC, endD, endP, fFld, fProp, sRet, fIf, fUn, gNeg, uOr, fAndV, fOrV, fNotV, fIsi, isC, pObj, gAdd0, gCatS, gCatL, fTup, fLst, fFr, Option.bind_some, Option.map_some, Option.bind_none, fMake, h, m1, m3, p_as_ratioI]
theorem p_radd : G_Ratio_radd [R p q, .int i] = some (mkR (i * q + p) q) := by
  have h := p_add (p := i) (q := 1) (r := p) (s := q) (by decide) hq bi (bdOne (by decide)) bp bq
  simp [G_Ratio_radd, outD, g_Ratio_radd, sSeq, sIf, fNot, fAnd, fOr, fB, fCall, fCons, fNil, fV, ini, gPos, sNo, sNil, fBin, Dl.gOr, gEqF, gNeF, litV, scal, sSet, fFun, gI0, gI, fC, endD, endP, fFld, fProp, sRet, fIf, fUn, gNeg, uOr, fAndV, fOrV, fNotV, fIsi, isC, pObj, gAdd0, gCatS, gCatL, fTup, fLst, fFr, Option.bind_some, Option.map_some, Option.bind_none, p_as_ratioI, gOwn2, h]
theorem p_rsub : G_Ratio_rsub [R p q, .int i] = some (mkR (i * q - p) q) := by
  have h := p_sub (p := i) (q := 1) (r := p) (s := q) (by decide) hq bi (bdOne (by decide)) bp bq
  simp [G_Ratio_rsub, outD, g_Ratio_rsub, sSeq, sIf, fNot, fAnd, fOr, fB, fCall, fCons, fNil, fV, ini, gPos, sNo, sNil, fBin, Dl.gOr, gEqF, gNeF, litV, scal, sSet, fFun, gI0, gI, fC, endD, endP, fFld, fProp, sRet, fIf, fUn, gNeg, uOr, fAndV, fOrV, fNotV, fIsi, isC, pObj, gAdd0, gCatS, gCatL, fTup, fLst, fFr, Option.bind_some, Option.map_some, Option.bind_none, p_as_ratioI, gOwn2, h]
theorem p_rmul : G_Ratio_rmul [R p q, .int i] = some (mkR (i * p) q) := by
  have h := p_mul (p := i) (q := 1) (r := p) (s := q) (by decide) hq bi (bdOne (by decide)) bp bq
  simp [G_Ratio_rmul, outD, g_Ratio_rmul, sSeq, sIf, fNot, fAnd, fOr, fB, fCall, fCons, fNil, fV, ini, gPos, sNo, sNil, fBin, Dl.gOr, gEqF, gNeF, litV, scal, sSet, fFun, gI0, gI, fC, endD, endP, fFld, fProp, sRet, fIf, fUn, gNeg, uOr, fAndV, fOrV, fNotV, fIsi, isC, pObj, gAdd0, gCatS, gCatL, fTup, fLst, fFr, Option.bind_some, Option.map_some, Option.bind_none, p_as_ratioI, gOwn2, h]
end
end My
namespace My
open PySem PySem.Spec PyProof.Rows L2 ClX Dl
/-! texts, order, quotients -/
theorem lenT {x : Int} (h : Bd x 1900) : (Str.ofString x.repr).length ≤ 1921 := by
  rw [PySem.ofString_length]
  exact int_text_length_le (by decide) (of_decide_eq_true (num_ok h))
def txtR (p q : Int) : Str := if q = 1 then Str.ofString (toString p) else Str.ofString (toString p) ++ Str.ofString "/" ++ Str.ofString (toString q)
theorem p_str {p q : Int} (bp : Bd p 1900) (bq : Bd q 1900) : G_Ratio_str [R p q] = some (.str (txtR p q)) := by
  have n1 := num_ok bp
  have n2 := num_ok bq
  have l1 := lenT bp
  have l2 := lenT bq
  have l3 : (Str.ofString "/").length = 1 := rfl
  by_cases h : q = 1
  · simp [G_Ratio_str, outD, g_Ratio_str, sSeq, sIf, fNot, fAnd, fOr, fB, fCall, fCons, fNil, fV, ini, gPos, sNo, sNil, fBin, Dl.gOr, gEqF, gNeF, litV, scal, sSet, fFun, gI0, gI, fC, endD, endP, fFld, fProp, sRet, fIf, fUn, gNeg, uOr, fAndV, fOrV, fNotV, fIsi, isC, pObj, gAdd0, gCatS, gCatL, fTup, fLst, fFr, Option.bind_some, Option.map_some, Option.bind_none, txtR, funStrI, funOr, h, n1]
  · have b1 : (Str.ofString p.repr).length ≤ big := by unfold big; omega
    have b2 : (Str.ofString p.repr).length + 1 ≤ big := by unfold big; omega
    have b3 : (Str.ofString p.repr).length + 1 + (Str.ofString q.repr).length ≤ big := by unfold big; omega
    simp [G_Ratio_str, outD, g_Ratio_str, sSeq, sIf, fNot, fAnd, fOr, fB, fCall, fCons, fNil, fV, ini, gPos, sNo, sNil, fBin, Dl.gOr, gEqF, gNeF, litV, scal, sSet, fFun, gI0, gI, fC, endD, endP, fFld, fProp, sRet, fIf, fUn, gNeg, uOr, fAndV, fOrV, fNotV, fIsi, isC, pObj, gAdd0, gCatS, gCatL, fTup, fLst, fFr, Option.bind_some, Option.map_some, Option.bind_none, txtR, funStrI, funOr, h, n1, n2, fJoin, fFmt, Str.empty_append, Str.length_append, l3, b1, b2, b3]
def txtP (p q : Int) : Str := Str.ofString "Ratio(" ++ Str.ofString (toString p) ++ Str.ofString ", " ++ Str.ofString (toString q) ++ Str.ofString ")"
theorem p_repr {p q : Int} (bp : Bd p 1900) (bq : Bd q 1900) : G_Ratio_repr [R p q] = some (.str (txtP p q)) := by
  have n1 := num_ok bp
  have n2 := num_ok bq
  have l1 := lenT bp
  have l2 := lenT bq
  have l3 : (Str.ofString "Ratio(").length = 6 := rfl
  have l4 : (Str.ofString ", ").length = 2 := rfl
  have l5 : (Str.ofString ")").length = 1 := rfl
  have b0 : 6 ≤ big := by decide
  have b1 : 6 + (Str.ofString p.repr).length ≤ big := by unfold big; omega
  have b2 : 6 + (Str.ofString p.repr).length + 2 ≤ big := by unfold big; omega
  have b3 : 6 + (Str.ofString p.repr).length + 2 + (Str.ofString q.repr).length ≤ big := by unfold big; omega
  have b4 : 6 + (Str.ofString p.repr).length + 2 + (Str.ofString q.repr).length + 1 ≤ big := by unfold big; omega
  simp [G_Ratio_repr, outD, g_Ratio_repr, sSeq, sIf, fNot, fAnd, fOr, fB, fCall, fCons, fNil, fV, ini, gPos, sNo, sNil, fBin, Dl.gOr, gEqF, gNeF, litV, scal, sSet, fFun, gI0, gI, fC, endD, endP, fFld, fProp, sRet, fIf, fUn, gNeg, uOr, fAndV, fOrV, fNotV, fIsi, isC, pObj, gAdd0, gCatS, gCatL, fTup, fLst, fFr, Option.bind_some, Option.map_some, Option.bind_none, txtP, funStrI, funOr, n1, n2, fJoin, fFmt, Str.empty_append, Str.length_append, l3, l4, l5, b0, b1, b2, b3, b4]
theorem nrm_neg {t b : Int} (h : b ≠ 0) : (nrm t b).1 < 0 ↔ t * b < 0 := by
  have k := nrm_is (t := t) h
  have e := k.eq
  have hb : 0 < b * b := by
    rcases Int.lt_or_gt_of_ne h with h | h
    · exact Int.mul_pos_of_neg_of_neg h h
    · exact Int.mul_pos h h
  have e2 : (nrm t b).1 * (b * b) = t * b * (nrm t b).2 := by rw [← Int.mul_assoc, e, Int.mul_assoc, Int.mul_comm (nrm t b).2, ← Int.mul_assoc]
  constructor
  · intro hp
    have : (nrm t b).1 * (b * b) < 0 := Int.mul_neg_of_neg_of_pos hp hb
    rw [e2] at this
    rcases Int.lt_trichotomy (t * b) 0 with z | z | z
    · exact z
    · rw [z] at this; simp at this
    · have := Int.mul_pos z k.pos; omega
  · intro hp
    have : t * b * (nrm t b).2 < 0 := Int.mul_neg_of_neg_of_pos hp k.pos
    rw [← e2] at this
    rcases Int.lt_trichotomy (nrm t b).1 0 with z | z | z
    · exact z
    · rw [z] at this; simp at this
    · have := Int.mul_pos z hb; omega
theorem nrm_zero {t b : Int} (h : b ≠ 0) : (nrm t b).1 = 0 ↔ t = 0 := by
  have k := nrm_is (t := t) h
  have e := k.eq
  constructor
  · intro z
    rw [z, Int.zero_mul] at e
    rcases Int.mul_eq_zero.mp e.symm with z | z
    · exact z
    · have := k.pos; omega
  · intro z
    have e' : (nrm t b).1 * b = 0 := by rw [e, z, Int.zero_mul]
    rcases Int.mul_eq_zero.mp e' with z | z
    · exact z
    · exact absurd z h
section
variable {p q r s i : Int} (hq : q ≠ 0) (bp : Bd p 1900) (bq : Bd q 1900)
include hq bp bq
theorem p_below (hs : s ≠ 0) (br : Bd r 1900) (bs : Bd s 1900) : G_Ratio_is_below [R p q, R r s] = some (.bl (decide ((nrm (p * s - r * q) (q * s)).1 < 0))) := by
  have h := p_sub hq hs bp bq br bs
  have k := p_sign (nrm (p * s - r * q) (q * s)).1 (nrm (p * s - r * q) (q * s)).2
  by_cases z : (nrm (p * s - r * q) (q * s)).1 < 0
  · simp [G_Ratio_is_below, outD, g_Ratio_is_below, sSeq, sIf, fNot, fAnd, fOr, fB, fCall, fCons, fNil, fV, ini, gPos, sNo, sNil, fBin, Dl.gOr, gEqF, gNeF, litV, scal, sSet, fFun, gI0, gI, fC, endD, endP, fFld, fProp, sRet, fIf, fUn, gNeg, uOr, fAndV, fOrV, fNotV, fIsi, isC, pObj, gAdd0, gCatS, gCatL, fTup, fLst, fFr, Option.bind_some, Option.map_some, Option.bind_none, gOwn2, h, k, z]
  · by_cases z2 : 0 < (nrm (p * s - r * q) (q * s)).1
    · simp [G_Ratio_is_below, outD, g_Ratio_is_below, sSeq, sIf, fNot, fAnd, fOr, fB, fCall, fCons, fNil, fV, ini, gPos, sNo, sNil, fBin, Dl.gOr, gEqF, gNeF, litV, scal, sSet, fFun, gI0, gI, fC, endD, endP, fFld, fProp, sRet, fIf, fUn, gNeg, uOr, fAndV, fOrV, fNotV, fIsi, isC, pObj, gAdd0, gCatS, gCatL, fTup, fLst, fFr, Option.bind_some, Option.map_some, Option.bind_none, gOwn2, h, k, z, z2]
    · simp [G_Ratio_is_below, outD, g_Ratio_is_below, sSeq, sIf, fNot, fAnd, fOr, fB, fCall, fCons, fNil, fV, ini, gPos, sNo, sNil, fBin, Dl.gOr, gEqF, gNeF, litV, scal, sSet, fFun, gI0, gI, fC, endD, endP, fFld, fProp, sRet, fIf, fUn, gNeg, uOr, fAndV, fOrV, fNotV, fIsi, isC, pObj, gAdd0, gCatS, gCatL, fTup, fLst, fFr, Option.bind_some, Option.map_some, Option.bind_none, gOwn2, h, k, z, z2]
theorem p_atmost (hs : s ≠ 0) (br : Bd r 1900) (bs : Bd s 1900) : G_Ratio_is_at_most [R p q, R r s] = some (.bl (decide ((nrm (p * s - r * q) (q * s)).1 ≤ 0))) := by
  have h := p_sub hq hs bp bq br bs
  have k := p_sign (nrm (p * s - r * q) (q * s)).1 (nrm (p * s - r * q) (q * s)).2
  by_cases z : (nrm (p * s - r * q) (q * s)).1 < 0
  · have z3 := Int.le_of_lt z
    simp [G_Ratio_is_at_most, outD, g_Ratio_is_at_most, sSeq, sIf, fNot, fAnd, fOr, fB, fCall, fCons, fNil, fV, ini, gPos, sNo, sNil, fBin, Dl.gOr, gEqF, gNeF, litV, scal, sSet, fFun, gI0, gI, fC, endD, endP, fFld, fProp, sRet, fIf, fUn, gNeg, uOr, fAndV, fOrV, fNotV, fIsi, isC, pObj, gAdd0, gCatS, gCatL, fTup, fLst, fFr, Option.bind_some, Option.map_some, Option.bind_none, gOwn2, h, k, z, z3]
  · by_cases z2 : 0 < (nrm (p * s - r * q) (q * s)).1
    · have z3 : ¬ (nrm (p * s - r * q) (q * s)).1 ≤ 0 := by omega
      simp [G_Ratio_is_at_most, outD, g_Ratio_is_at_most, sSeq, sIf, fNot, fAnd, fOr, fB, fCall, fCons, fNil, fV, ini, gPos, sNo, sNil, fBin, Dl.gOr, gEqF, gNeF, litV, scal, sSet, fFun, gI0, gI, fC, endD, endP, fFld, fProp, sRet, fIf, fUn, gNeg, uOr, fAndV, fOrV, fNotV, fIsi, isC, pObj, gAdd0, gCatS, gCatL, fTup, fLst, fFr, Option.bind_some, Option.map_some, Option.bind_none, gOwn2, h, k, z, z2]
    · have z3 : (nrm (p * s - r * q) (q * s)).1 ≤ 0 := by omega
      simp [G_Ratio_is_at_most, outD, g_Ratio_is_at_most, sSeq, sIf, fNot, fAnd, fOr, fB, fCall, fCons, fNil, fV, ini, gPos, sNo, sNil, fBin, Dl.gOr, gEqF, gNeF, litV, scal, sSet, fFun, gI0, gI, fC, endD, endP, fFld, fProp, sRet, fIf, fUn, gNeg, uOr, fAndV, fOrV, fNotV, fIsi, isC, pObj, gAdd0, gCatS, gCatL, fTup, fLst, fFr, Option.bind_some, Option.map_some, Option.bind_none, gOwn2, h, k, z, z2, z3]
theorem p_belowI (bi : Bd i 1900) : G_Ratio_is_below [R p q, .int i] = some (.bl (decide ((nrm (p - i * q) q).1 < 0))) := by
  have h := p_subI hq bp bq bi
  have k := p_sign (nrm (p - i * q) q).1 (nrm (p - i * q) q).2
  by_cases z : (nrm (p - i * q) q).1 < 0
  · simp [G_Ratio_is_below, outD, g_Ratio_is_below, sSeq, sIf, fNot, fAnd, fOr, fB, fCall, fCons, fNil, fV, ini, gPos, sNo, sNil, fBin, Dl.gOr, gEqF, gNeF, litV, scal, sSet, fFun, gI0, gI, fC, endD, endP, fFld, fProp, sRet, fIf, fUn, gNeg, uOr, fAndV, fOrV, fNotV, fIsi, isC, pObj, gAdd0, gCatS, gCatL, fTup, fLst, fFr, Option.bind_some, Option.map_some, Option.bind_none, gOwn2, h, k, z]
  · by_cases z2 : 0 < (nrm (p - i * q) q).1
    · simp [G_Ratio_is_below, outD, g_Ratio_is_below, sSeq, sIf, fNot, fAnd, fOr, fB, fCall, fCons, fNil, fV, ini, gPos, sNo, sNil, fBin, Dl.gOr, gEqF, gNeF, litV, scal, sSet, fFun, gI0, gI, fC, endD, endP, fFld, fProp, sRet, fIf, fUn, gNeg, uOr, fAndV, fOrV, fNotV, fIsi, isC, pObj, gAdd0, gCatS, gCatL, fTup, fLst, fFr, Option.bind_some, Option.map_some, Option.bind_none, gOwn2, h, k, z, z2]
    · simp [G_Ratio_is_below, outD, g_Ratio_is_below, sSeq, sIf, fNot, fAnd, fOr, fB, fCall, fCons, fNil, fV, ini, gPos, sNo, sNil, fBin, Dl.gOr, gEqF, gNeF, litV, scal, sSet, fFun, gI0, gI, fC, endD, endP, fFld, fProp, sRet, fIf, fUn, gNeg, uOr, fAndV, fOrV, fNotV, fIsi, isC, pObj, gAdd0, gCatS, gCatL, fTup, fLst, fFr, Option.bind_some, Option.map_some, Option.bind_none, gOwn2, h, k, z, z2]
theorem p_atmostI (bi : Bd i 1900) : G_Ratio_is_at_most [R p q, .int i] = some (.bl (decide ((nrm (p - i * q) q).1 ≤ 0))) := by
  have h := p_subI hq bp bq bi
  have k := p_sign (nrm (p - i * q) q).1 (nrm (p - i * q) q).2
  by_cases z : (nrm (p - i * q) q).1 < 0
  · have z3 := Int.le_of_lt z
    simp [G_Ratio_is_at_most, outD, g_Ratio_is_at_most, sSeq, sIf, fNot, fAnd, fOr, fB, fCall, fCons, fNil, fV, ini, gPos, sNo, sNil, fBin, Dl.gOr, gEqF, gNeF, litV, scal, sSet, fFun, gI0, gI, fC, endD, endP, fFld, fProp, sRet, fIf, fUn, gNeg, uOr, fAndV, fOrV, fNotV, fIsi, isC, pObj, gAdd0, gCatS, gCatL, fTup, fLst, fFr, Option.bind_some, Option.map_some, Option.bind_none, gOwn2, h, k, z, z3]
  · by_cases z2 : 0 < (nrm (p - i * q) q).1
    · have z3 : ¬ (nrm (p - i * q) q).1 ≤ 0 := by omega
      simp [G_Ratio_is_at_most, outD, g_Ratio_is_at_most, sSeq, sIf, fNot, fAnd, fOr, fB, fCall, fCons, fNil, fV, ini, gPos, sNo, sNil, fBin, Dl.gOr, gEqF, gNeF, litV, scal, sSet, fFun, gI0, gI, fC, endD, endP, fFld, fProp, sRet, fIf, fUn, gNeg, uOr, fAndV, fOrV, fNotV, fIsi, isC, pObj, gAdd0, gCatS, gCatL, fTup, fLst, fFr, Option.bind_some, Option.map_some, Option.bind_none, gOwn2, h, k, z, z2]
    · have z3 : (nrm (p - i * q) q).1 ≤ 0 := by omega
      simp [G_Ratio_is_at_most, outD, g_Ratio_is_at_most, sSeq, sIf, fNot, fAnd, fOr, fB, fCall, fCons, fNil, fV, ini, gPos, sNo, sNil, fBin, Dl.gOr, gEqF, gNeF, litV, scal, sSet, fFun, gI0, gI, fC, endD, endP, fFld, fProp, sRet, fIf, fUn, gNeg, uOr, fAndV, fOrV, fNotV, fIsi, isC, pObj, gAdd0, gCatS, gCatL, fTup, fLst, fFr, Option.bind_some, Option.map_some, Option.bind_none, gOwn2, h, k, z, z2, z3]
theorem p_over (hr : r ≠ 0) (hs : s ≠ 0) (br : Bd r 1900) (bs : Bd s 1900) : G_Ratio_over [R p q, R r s] = some (mkR (p * s) (q * r)) := by
  have m1 := mul_ok (bp.mono (by decide)) (bs.mono (by decide : 1900 ≤ 4000))
  have m3 := mul_ok (bq.mono (by decide)) (br.mono (by decide : 1900 ≤ 4000))
  have h := @p_init (p * s) (q * r) (Int.mul_ne_zero hq hr) ((bq.mul br).mono (by decide))
  have k := p_sign r s
  have t := p_top r s
  have b := p_bottom r s
  by_cases z : r < 0
  · simp [G_Ratio_over, outD, g_Ratio_over, sSeq, sIf, fNot, fAnd, fOr, fB, fCall, fCons, fNil, fV, ini, gPos, sNo, sNil, fBin, Dl.gOr, gEqF, gNeF, litV, scal, sSet, fFun, gI0, gI, fC, endD, endP, fFld, fProp, sRet, fIf, fUn, gNeg, uOr, fAndV, fOrV, fNotV, fIsi, isC, pObj, gAdd0, gCatS, gCatL, fTup, fLst, fFr, Option.bind_some, Option.map_some, Option.bind_none, fMake, h, m1, m3, p_as_ratio, k, t, b, z]
  · have z2 : 0 < r := by omega
    simp [G_Ratio_over, outD, g_Ratio_over, sSeq, sIf, fNot, fAnd, fOr, fB, fCall, fCons, fNil, fV, ini, gPos, sNo, sNil, fBin, Dl.gOr, gEqF, gNeF, litV, scal, sSet, fFun, gI0, gI, fC, endD, endP, fFld, fProp, sRet, fIf, fUn, gNeg, uOr, fAndV, fOrV, fNotV, fIsi, isC, pObj, gAdd0, gCatS, gCatL, fTup, fLst, fFr, Option.bind_some, Option.map_some, Option.bind_none, fMake, h, m1, m3, p_as_ratio, k, t, b, z, z2]
theorem p_overI (hi : i ≠ 0) (bi : Bd i 1900) : G_Ratio_over [R p q, .int i] = some (mkR p (q * i)) := by
  have m1 := mul_ok (bp.mono (by decide)) bd1
  have m3 := mul_ok (bq.mono (by decide)) (bi.mono (by decide : 1900 ≤ 4000))
  have h := @p_init p (q * i) (Int.mul_ne_zero hq hi) ((bq.mul bi).mono (by decide))
  have k := p_sign i 1
  have t := p_top i 1
  have b := p_bottom i 1
  by_cases z : i < 0
  · simp [G_Ratio_over, outD, g_Ratio_over, sSeq, sIf, fNot, fAnd, fOr, fB, fCall, fCons, fNil, fV, ini, gPos, sNo, sNil, fBin, Dl.gOr, gEqF, gNeF, litV, scal, sSet, fFun, gI0, gI, fC, endD, endP, fFld, fProp, sRet, fIf, fUn, gNeg, uOr, fAndV, fOrV, fNotV, fIsi, isC, pObj, gAdd0, gCatS, gCatL, fTup, fLst, fFr, Option.bind_some, Option.map_some, Option.bind_none, fMake, h, m1, m3, p_as_ratioI, k, t, b, z]
  · have z2 : 0 < i := by omega
    simp [G_Ratio_over, outD, g_Ratio_over, sSeq, sIf, fNot, fAnd, fOr, fB, fCall, fCons, fNil, fV, ini, gPos, sNo, sNil, fBin, Dl.gOr, gEqF, gNeF, litV, scal, sSet, fFun, gI0, gI, fC, endD, endP, fFld, fProp, sRet, fIf, fUn, gNeg, uOr, fAndV, fOrV, fNotV, fIsi, isC, pObj, gAdd0, gCatS, gCatL, fTup, fLst, fFr, Option.bind_some, Option.map_some, Option.bind_none, fMake, h, m1, m3, p_as_ratioI, k, t, b, z, z2]
end
end My
namespace My
open PySem PySem.Spec PyProof.Rows L2 ClX Dl
/-! the greatest common divisor by hand -/
def cC : FT := (fB (fBin (gI0 fun i j => .bl (decide (j < i))) (fV 3) (fC (.int 0))))
def cB : FS := (sPar 2 3 (fCons (fV 3) (fCons (fBin (gI okPos fun i j => .int (i % j)) (fV 2) (fV 3)) fNil)))
theorem gcd_step {x y : Int} (hx : 0 ≤ x) (hy : 0 < y) : Int.gcd y (x % y) = Int.gcd x y := by
  obtain ⟨m, rfl⟩ := Int.eq_ofNat_of_zero_le hx
  obtain ⟨n, rfl⟩ := Int.eq_ofNat_of_zero_le (Int.le_of_lt hy)
  show Nat.gcd n (m % n) = Nat.gcd m n
  rw [Nat.gcd_comm n, Nat.gcd_comm m, Nat.gcd_rec n m]
theorem common_loop (a b : D) : ∀ (n : Nat) (x y : Int), 0 ≤ x → 0 ≤ y → y.natAbs < n → whileF cC cB n [.val a, .val b, .val (.int x), .val (.int y)] = some (.nx [.val a, .val b, .val (.int (Int.gcd x y)), .val (.int 0)])
  | 0, _, _, _, _, h => absurd h (by omega)
  | n + 1, x, y, hx, hy, h => by
    by_cases z : 0 < y
    · have r1 : 0 ≤ x % y := Int.emod_nonneg x (by omega)
      have r2 : x % y < y := Int.emod_lt_of_pos x z
      have ih := common_loop a b n y (x % y) hy r1 (by omega)
      rw [gcd_step hx z] at ih
      have c1 : okPos x y = true := decide_eq_true z
      show (cC _).bind _ = _
      simp [cC, cB, sPar, sSeq, sIf, fNot, fAnd, fOr, fB, fCall, fCons, fNil, fV, ini, gPos, sNo, sNil, fBin, Dl.gOr, gEqF, gNeF, litV, scal, sSet, fFun, gI0, gI, fC, endD, endP, fFld, fProp, sRet, fIf, fUn, gNeg, uOr, fAndV, fOrV, fNotV, fIsi, isC, pObj, gAdd0, gCatS, gCatL, fTup, fLst, fFr, Option.bind_some, Option.map_some, Option.bind_none, z, c1] at ih ⊢
      exact ih
    · have e : y = 0 := by omega
      subst e
      have e2 : Int.natAbs x = x := by omega
      show (cC _).bind _ = _
      simp [cC, sSeq, sIf, fNot, fAnd, fOr, fB, fCall, fCons, fNil, fV, ini, gPos, sNo, sNil, fBin, Dl.gOr, gEqF, gNeF, litV, scal, sSet, fFun, gI0, gI, fC, endD, endP, fFld, fProp, sRet, fIf, fUn, gNeg, uOr, fAndV, fOrV, fNotV, fIsi, isC, pObj, gAdd0, gCatS, gCatL, fTup, fLst, fFr, Option.bind_some, Option.map_some, Option.bind_none, e2]
theorem p_common (p q : Int) : G_law_common [.int p, .int q] = some (.int (Int.gcd p q)) := by
  have l := common_loop (.int p) (.int q) ((if q < 0 then -q else q).natAbs + 1) (if p < 0 then -p else p) (if q < 0 then -q else q) (by split <;> omega) (by split <;> omega) (by omega)
  have e : Int.gcd (if p < 0 then -p else p) (if q < 0 then -q else q) = Int.gcd p q := by
    split <;> split <;> simp [Int.gcd_neg, Int.neg_gcd]
  rw [e] at l
  unfold cC cB at l
  simp [G_law_common, outD, g_law_common, sSeq, sIf, fNot, fAnd, fOr, fB, fCall, fCons, fNil, fV, ini, gPos, sNo, sNil, fBin, Dl.gOr, gEqF, gNeF, litV, scal, sSet, fFun, gI0, gI, fC, endD, endP, fFld, fProp, sRet, fIf, fUn, gNeg, uOr, fAndV, fOrV, fNotV, fIsi, isC, pObj, gAdd0, gCatS, gCatL, fTup, fLst, fFr, Option.bind_some, Option.map_some, Option.bind_none, sPar, fun1I, sWhile, fu_law_common] at l ⊢
  rw [l]
  simp [endD]
/-! what is held against a fraction -/
theorem p_lit (s : Str) : litV (.str s) = some (.str s) := rfl
theorem repr2 (s : Int) (w : Bool) (h : s = -1 ∨ s = 0 ∨ s = 1) : funReprD [.lst [.int s, .bl w]] = some (.str (PyData.list [.int s, .bool w]).shown) := by
  have k : okRepr (PyData.list [.int s, .bool w]) = true := by
    rcases h with rfl | rfl | rfl <;> cases w <;> decide +kernel
  unfold funReprD
  simp only [toPy, toPys, Option.bind_some, Option.map_some]
  rw [if_pos k]
theorem p_is' {a b p q : Int} (N : IsN a b p q) (ba : Bd a 1800) (bb : Bd b 1800) (bp' : Bd p 1800) (bq' : Bd q 1800) : G_law_is [R p q, .int a, .int b] = some (.bl true) := by
  have bp : Bd p 1900 := bp'.mono (by decide)
  have bq : Bd q 1900 := bq'.mono (by decide)
  have q0 : ¬ q < 1 := by have := N.pos; omega
  have m1 := mul_ok (bp.mono (by decide)) (bb.mono (by decide : 1800 ≤ 4000))
  have m2 := mul_ok (ba.mono (by decide)) (bq.mono (by decide : 1900 ≤ 4000))
  have c := p_common p q
  rw [N.one] at c
  have t := p_top p q
  have d := p_bottom p q
  have n1 := num_ok bp
  have n2 := num_ok bq
  have s1 := p_str bp bq
  have s2 := p_repr bp bq
  have s3 := p_sign p q
  have s4 := p_is_whole p q
  have s5 := @p_size p q (by omega) (bq.mono (by decide))
  have s6 := @p_init (if p < 0 then -p else p) q (by omega) (bq.mono (by decide))
  have l1 := lenT bp
  have l2 := lenT bq
  have e := N.eq
  have b1 : (Str.ofString p.repr).length + 1 ≤ big := by unfold big; omega
  have b2 : (Str.ofString p.repr).length + 1 + (Str.ofString q.repr).length ≤ big := by unfold big; omega
  have b0 : 1 + (Str.ofString q.repr).length ≤ big := by unfold big; omega
  have b3 : (Str.ofString p.repr).length + (1 + (Str.ofString q.repr).length) ≤ big := by unfold big; omega
  have b4 : (Str.ofString p.repr).length ≤ big := by unfold big; omega
  have b5 : 6 + (Str.ofString p.repr).length ≤ big := by unfold big; omega
  have b6 : 6 + (Str.ofString p.repr).length + 2 ≤ big := by unfold big; omega
  have b7 : 6 + (Str.ofString p.repr).length + 2 + (Str.ofString q.repr).length ≤ big := by unfold big; omega
  have b8 : 6 + (Str.ofString p.repr).length + 2 + (Str.ofString q.repr).length + 1 ≤ big := by unfold big; omega
  have l3 : (Str.ofString "Ratio(").length = 6 := rfl
  have l4 : (Str.ofString ", ").length = 2 := rfl
  have l5 : (Str.ofString ")").length = 1 := rfl
  have l6 : (Str.ofString "/").length = 1 := rfl
  have l7 : (Str.ofString "").length = 0 := rfl
  have a1 : 6 + ((Str.ofString p.repr).length + 2) ≤ big := by unfold big; omega
  have a2 : 6 + ((Str.ofString p.repr).length + (2 + (Str.ofString q.repr).length)) ≤ big := by unfold big; omega
  have a3 : 6 + ((Str.ofString p.repr).length + (2 + ((Str.ofString q.repr).length + 1))) ≤ big := by unfold big; omega
  have r0 : funReprD [R p q] = none := rfl
  have e0 : ∀ y : Str, y ++ Str.ofString "" = y := fun y => Str.append_empty y
  have g2 : 2 ≤ big := by decide
  have s7 := @p_init (-p) q (by omega) (bq.mono (by decide))
  have s8 := @p_init p q (by omega) (bq.mono (by decide))
  by_cases w : q = 1
  · subst w
    have w : (1 : Int) = 1 := rfl
    rcases Int.lt_trichotomy p 0 with z | z | z
    · have o := repr2 (-1) true (by decide)
      have z2 : ¬ 0 < p := by omega
      simp [G_law_is, outD, g_law_is, sSeq, sIf, fNot, fAnd, fOr, fB, fCall, fCons, fNil, fV, ini, gPos, sNo, sNil, fBin, Dl.gOr, gEqF, gNeF, litV, scal, sSet, fFun, gI0, gI, fC, endD, endP, fFld, fProp, sRet, fIf, fUn, gNeg, uOr, fAndV, fOrV, fNotV, fIsi, isC, pObj, gAdd0, gCatS, gCatL, fTup, fLst, fFr, Option.bind_some, Option.map_some, Option.bind_none, m1, m2, c, t, d, n1, n2, s1, s2, s3, s4, s5, s7, s8, e, z, z2, g2, w, funStrI, funOr, funTxt, txtR, txtP, Str.length_append, b0, b1, b2, b3, b4, b5, b6, b7, b8, l3, l4, l5, l6, l7, funInt, fMeth, fMake, fun1I, o, r0, e0, q0, Str.append_assoc, Nat.add_assoc, a1, a2, a3, gOwnE, gOwnNe, p_eq]
    · have o := repr2 0 true (by decide)
      subst z
      have z : ¬ (0 : Int) < 0 := by decide
      have z2 := z
      simp [G_law_is, outD, g_law_is, sSeq, sIf, fNot, fAnd, fOr, fB, fCall, fCons, fNil, fV, ini, gPos, sNo, sNil, fBin, Dl.gOr, gEqF, gNeF, litV, scal, sSet, fFun, gI0, gI, fC, endD, endP, fFld, fProp, sRet, fIf, fUn, gNeg, uOr, fAndV, fOrV, fNotV, fIsi, isC, pObj, gAdd0, gCatS, gCatL, fTup, fLst, fFr, Option.bind_some, Option.map_some, Option.bind_none, m1, m2, c, t, d, n1, n2, s1, s2, s3, s4, s5, s7, s8, e, z, z2, g2, w, funStrI, funOr, funTxt, txtR, txtP, Str.length_append, b0, b1, b2, b3, b4, b5, b6, b7, b8, l3, l4, l5, l6, l7, funInt, fMeth, fMake, fun1I, o, r0, e0, q0, Str.append_assoc, Nat.add_assoc, a1, a2, a3, gOwnE, gOwnNe, p_eq]
    · have o := repr2 1 true (by decide)
      have z2 : ¬ p < 0 := by omega
      simp [G_law_is, outD, g_law_is, sSeq, sIf, fNot, fAnd, fOr, fB, fCall, fCons, fNil, fV, ini, gPos, sNo, sNil, fBin, Dl.gOr, gEqF, gNeF, litV, scal, sSet, fFun, gI0, gI, fC, endD, endP, fFld, fProp, sRet, fIf, fUn, gNeg, uOr, fAndV, fOrV, fNotV, fIsi, isC, pObj, gAdd0, gCatS, gCatL, fTup, fLst, fFr, Option.bind_some, Option.map_some, Option.bind_none, m1, m2, c, t, d, n1, n2, s1, s2, s3, s4, s5, s7, s8, e, z, z2, g2, w, funStrI, funOr, funTxt, txtR, txtP, Str.length_append, b0, b1, b2, b3, b4, b5, b6, b7, b8, l3, l4, l5, l6, l7, funInt, fMeth, fMake, fun1I, o, r0, e0, q0, Str.append_assoc, Nat.add_assoc, a1, a2, a3, gOwnE, gOwnNe, p_eq]
  · have w0 := w
    rcases Int.lt_trichotomy p 0 with z | z | z
    · have o := repr2 (-1) false (by decide)
      have z2 : ¬ 0 < p := by omega
      simp [G_law_is, outD, g_law_is, sSeq, sIf, fNot, fAnd, fOr, fB, fCall, fCons, fNil, fV, ini, gPos, sNo, sNil, fBin, Dl.gOr, gEqF, gNeF, litV, scal, sSet, fFun, gI0, gI, fC, endD, endP, fFld, fProp, sRet, fIf, fUn, gNeg, uOr, fAndV, fOrV, fNotV, fIsi, isC, pObj, gAdd0, gCatS, gCatL, fTup, fLst, fFr, Option.bind_some, Option.map_some, Option.bind_none, m1, m2, c, t, d, n1, n2, s1, s2, s3, s4, s5, s7, s8, e, z, z2, g2, w, funStrI, funOr, funTxt, txtR, txtP, Str.length_append, b0, b1, b2, b3, b4, b5, b6, b7, b8, l3, l4, l5, l6, l7, funInt, fMeth, fMake, fun1I, o, r0, e0, q0, Str.append_assoc, Nat.add_assoc, a1, a2, a3, gOwnE, gOwnNe, p_eq]
    · have o := repr2 0 false (by decide)
      subst z
      have z : ¬ (0 : Int) < 0 := by decide
      have z2 := z
      simp [G_law_is, outD, g_law_is, sSeq, sIf, fNot, fAnd, fOr, fB, fCall, fCons, fNil, fV, ini, gPos, sNo, sNil, fBin, Dl.gOr, gEqF, gNeF, litV, scal, sSet, fFun, gI0, gI, fC, endD, endP, fFld, fProp, sRet, fIf, fUn, gNeg, uOr, fAndV, fOrV, fNotV, fIsi, isC, pObj, gAdd0, gCatS, gCatL, fTup, fLst, fFr, Option.bind_some, Option.map_some, Option.bind_none, m1, m2, c, t, d, n1, n2, s1, s2, s3, s4, s5, s7, s8, e, z, z2, g2, w, funStrI, funOr, funTxt, txtR, txtP, Str.length_append, b0, b1, b2, b3, b4, b5, b6, b7, b8, l3, l4, l5, l6, l7, funInt, fMeth, fMake, fun1I, o, r0, e0, q0, Str.append_assoc, Nat.add_assoc, a1, a2, a3, gOwnE, gOwnNe, p_eq]
    · have o := repr2 1 false (by decide)
      have z2 : ¬ p < 0 := by omega
      simp [G_law_is, outD, g_law_is, sSeq, sIf, fNot, fAnd, fOr, fB, fCall, fCons, fNil, fV, ini, gPos, sNo, sNil, fBin, Dl.gOr, gEqF, gNeF, litV, scal, sSet, fFun, gI0, gI, fC, endD, endP, fFld, fProp, sRet, fIf, fUn, gNeg, uOr, fAndV, fOrV, fNotV, fIsi, isC, pObj, gAdd0, gCatS, gCatL, fTup, fLst, fFr, Option.bind_some, Option.map_some, Option.bind_none, m1, m2, c, t, d, n1, n2, s1, s2, s3, s4, s5, s7, s8, e, z, z2, g2, w, funStrI, funOr, funTxt, txtR, txtP, Str.length_append, b0, b1, b2, b3, b4, b5, b6, b7, b8, l3, l4, l5, l6, l7, funInt, fMeth, fMake, fun1I, o, r0, e0, q0, Str.append_assoc, Nat.add_assoc, a1, a2, a3, gOwnE, gOwnNe, p_eq]
theorem p_is {a b : Int} (hb : b ≠ 0) (ba : Bd a 1800) (bb : Bd b 1800) : G_law_is [mkR a b, .int a, .int b] = some (.bl true) :=
  p_is' (nrm_is hb) ba bb (ba.le (nrm_le a b).1) (bb.le (nrm_le a b).2)
end My

namespace My
open PySem PySem.Spec PyProof.Rows L2 ClX Dl
/-! the draws -/
def Pot (l : List D) : Prop := ∃ x y : Int, l = [.int x, .int y] ∧ 0 ≤ y ∧ Bd y 40
theorem okPos_of {i j : Int} (h : 0 < j) : okPos i j = true := decide_eq_true h
theorem bd_of {x : Int} {n : Nat} (m : Nat) (h0 : 0 ≤ x) (h : x < (m : Int)) (k : m ≤ 2 ^ n) : Bd x n := by unfold Bd; omega
theorem p_draw {l : List D} {n : Int} (P : Pot l) (h : 0 < n) (bn : Bd n 64) : ∃ (d : Int) (l' : List D), G_law_draw l [.int n] = some (.int d, l') ∧ 0 ≤ d ∧ d < n ∧ Pot l' := by
  obtain ⟨x, y, rfl, hy, by'⟩ := P
  have k0 : okPos x n = true := okPos_of h
  by_cases z : 0 < x
  · have dm : okDiv x n = true := by
      unfold okDiv
      simp only [Bool.and_eq_true, decide_eq_true_eq]
      exact ⟨h, Bd.mono bn (by decide)⟩
    refine ⟨x % n, [.int (x / n), .int y], ?_, Int.emod_nonneg x (by omega), Int.emod_lt_of_pos x h, ⟨_, _, rfl, hy, by'⟩⟩
    simp [G_law_draw, outP, g_law_draw, sSeq, sIf, fNot, fAnd, fOr, fB, fCall, fCons, fNil, fV, ini, gPos, sNo, sNil, fBin, Dl.gOr, gEqF, gNeF, litV, scal, sSet, fFun, gI0, gI, fC, endD, endP, fFld, fProp, sRet, fIf, fUn, gNeg, uOr, fAndV, fOrV, fNotV, fIsi, isC, pObj, gAdd0, gCatS, gCatL, fTup, fLst, fFr, Option.bind_some, Option.map_some, Option.bind_none, sPar, sPar3, fIxN, fIxO, isOwn, isL, isOwnL, atI, ixN, sAsg, gT, gsCons, gsNil, gN, gI1, funDivmod, fLenN, fLenO, fCallP, gIx, z, dm]
  · have m1 := mul_ok (by'.mono (by decide)) ((bd_of (x := 48271) 65536 (by decide) (by decide) (by decide : 65536 ≤ 2 ^ 16)).mono (by decide))
    have y0 : 0 ≤ (y * 48271 + 18521) % 2147483587 := Int.emod_nonneg _ (by decide)
    have y1 : (y * 48271 + 18521) % 2147483587 < 2147483587 := Int.emod_lt_of_pos _ (by decide)
    generalize hY : (y * 48271 + 18521) % 2147483587 = Y at *
    have bY : Bd Y 40 := bd_of 2147483587 y0 y1 (by decide)
    have m2 := mul_ok (bY.mono (by decide)) (bY.mono (by decide : 40 ≤ 4000))
    have k1 : okPos (y * 48271 + 18521) 2147483587 = true := okPos_of (by decide)
    have k2 : okPos (Y * Y) 2147483549 = true := okPos_of (by decide)
    have k3 : okDivN (Y * Y % 2147483549) 13 = true := by
      unfold okDivN
      simp only [Bool.and_eq_true, decide_eq_true_eq]
      exact ⟨by decide, Nat.lt_of_lt_of_le (by decide : (13 : Int).natAbs < 2 ^ 10) (Nat.pow_le_pow_right (by decide) (by decide))⟩
    have k4 : okPos ((Y * Y % 2147483549).fdiv 13) n = true := okPos_of h
    refine ⟨(Y * Y % 2147483549).fdiv 13 % n, [.int x, .int Y], ?_, Int.emod_nonneg _ (by omega), Int.emod_lt_of_pos _ h, ⟨_, _, rfl, y0, bY⟩⟩
    simp [G_law_draw, outP, g_law_draw, sSeq, sIf, fNot, fAnd, fOr, fB, fCall, fCons, fNil, fV, ini, gPos, sNo, sNil, fBin, Dl.gOr, gEqF, gNeF, litV, scal, sSet, fFun, gI0, gI, fC, endD, endP, fFld, fProp, sRet, fIf, fUn, gNeg, uOr, fAndV, fOrV, fNotV, fIsi, isC, pObj, gAdd0, gCatS, gCatL, fTup, fLst, fFr, Option.bind_some, Option.map_some, Option.bind_none, sPar, sPar3, fIxN, fIxO, isOwn, isL, isOwnL, atI, ixN, sAsg, gT, gsCons, gsNil, gN, gI1, funDivmod, fLenN, fLenO, fCallP, gIx, z, m1, m2, k1, k2, k3, k4, funInt, hY]
end My
namespace My
open PySem PySem.Spec PyProof.Rows L2 ClX Dl
def topB : FS := (sSet 2 (fBin gAdd0 (fBin (gI okMul fun i j => .int (i * j)) (fV 2) (fBin (gI okPow fun i j => .int (i ^ j.toNat)) (fC (.int 10)) (fC (.int 9)))) (fCallP 0 G_law_draw (fCons (fBin (gI okPow fun i j => .int (i ^ j.toNat)) (fC (.int 10)) (fC (.int 9))) fNil))))
theorem pow9 : okPow 10 9 = true := by decide +kernel
theorem top_loop : ∀ (ds : List D) (k : Nat) (l : List D) (f : Int) (w s : Sl), Pot l → 0 ≤ f → Bd f (30 * k) → k + ds.length ≤ 10 → ∃ (f' : Int) (l' : List D) (s' : Sl), loopF (gN 3) topB ds [.own .pot l, w, .val (.int f), s] = some (.nx [.own .pot l', w, .val (.int f'), s']) ∧ Pot l' ∧ 0 ≤ f' ∧ Bd f' (30 * (k + ds.length))
  | [], k, l, f, w, s, P, h0, hb, hk => ⟨f, l, s, rfl, P, h0, by simpa using hb⟩
  | d :: ds, k, l, f, w, s, P, h0, hb, hk => by
    obtain ⟨r, l1, e1, r0, r1, P1⟩ := p_draw (n := 1000000000) P (by decide) (bd_of 1073741824 (by decide) (by decide) (by decide))
    have m1 : okMul f 1000000000 = true := mul_ok (hb.mono (by simp at hk; omega)) ((bd_of (x := 1000000000) 1073741824 (by decide) (by decide) (by decide : 1073741824 ≤ 2 ^ 30)).mono (by decide))
    have hb2 : Bd (f * 1000000000 + r) (30 * (k + 1)) := by
      unfold Bd at *
      rw [show 30 * (k + 1) = 30 * k + 30 by omega, Nat.pow_add]
      have : (2 : Nat) ^ 30 = 1073741824 := rfl
      rw [this]
      generalize 2 ^ (30 * k) = M at *
      omega
    obtain ⟨f', l', s', e2, P2, f0, fb⟩ := top_loop ds (k + 1) l1 (f * 1000000000 + r) w (.val d) P1 (by omega) hb2 (by simp at hk; omega)
    refine ⟨f', l', s', ?_, P2, f0, by rw [List.length_cons, show k + (ds.length + 1) = k + 1 + ds.length by omega]; exact fb⟩
    have st : topB [.own .pot l, w, .val (.int f), .val d] = some (.nx [.own .pot l1, w, .val (.int (f * 1000000000 + r)), .val d]) := by
      simp [topB, sSeq, sIf, fNot, fAnd, fOr, fB, fCall, fCons, fNil, fV, ini, gPos, sNo, sNil, fBin, Dl.gOr, gEqF, gNeF, litV, scal, sSet, fFun, gI0, gI, fC, endD, endP, fFld, fProp, sRet, fIf, fUn, gNeg, uOr, fAndV, fOrV, fNotV, fIsi, isC, pObj, gAdd0, gCatS, gCatL, fTup, fLst, fFr, Option.bind_some, Option.map_some, Option.bind_none, sPar, sPar3, fIxN, fIxO, isOwn, isL, isOwnL, atI, ixN, sAsg, gT, gsCons, gsNil, gN, gI1, funDivmod, fLenN, fLenO, fCallP, gIx, pow9, m1, e1]
    show ((gN 3 d _).bind fun δ1 => (topB δ1).bind _) = _
    simp only [gN, List.set, Option.bind_some, st]
    exact e2
theorem p_lawtop {l : List D} (P : Pot l) : ∃ (v : Int) (l' : List D), G_law_top l [] = some (.int v, l') ∧ Bd v 160 ∧ Pot l' := by
  obtain ⟨r, l1, e1, r0, r1, P1⟩ := p_draw (n := 5) P (by decide) (bd_of 8 (by decide) (by decide) (by decide))
  by_cases z : r < 3
  · obtain ⟨v, l2, e2, v0, v1, P2⟩ := p_draw (n := 25) P1 (by decide) (bd_of 32 (by decide) (by decide) (by decide))
    refine ⟨v - 12, l2, ?_, by unfold Bd; omega, P2⟩
    simp [G_law_top, outP, g_law_top, sSeq, sIf, fNot, fAnd, fOr, fB, fCall, fCons, fNil, fV, ini, gPos, sNo, sNil, fBin, Dl.gOr, gEqF, gNeF, litV, scal, sSet, fFun, gI0, gI, fC, endD, endP, fFld, fProp, sRet, fIf, fUn, gNeg, uOr, fAndV, fOrV, fNotV, fIsi, isC, pObj, gAdd0, gCatS, gCatL, fTup, fLst, fFr, Option.bind_some, Option.map_some, Option.bind_none, sPar, sPar3, fIxN, fIxO, isOwn, isL, isOwnL, atI, ixN, sAsg, gT, gsCons, gsNil, gN, gI1, funDivmod, fLenN, fLenO, fCallP, gIx, e1, z, e2]
  · have big3 : ∃ (f : Int) (l2 : List D) (s : Sl), loopF (gN 3) topB (intsD 0 (if r = 3 then 3 else 5)) [.own .pot l1, .val (.int r), .val (.int 0), .un] = some (.nx [.own .pot l2, .val (.int r), .val (.int f), s]) ∧ Pot l2 ∧ 0 ≤ f ∧ Bd f 160 := by
      obtain ⟨f, l2, s, e, P2, f0, fb⟩ := top_loop (intsD 0 (if r = 3 then 3 else 5)) 0 l1 0 (.val (.int r)) .un P1 (by decide) (by unfold Bd; simp) (by simp [intsD]; split <;> omega)
      exact ⟨f, l2, s, e, P2, f0, fb.mono (by simp [intsD]; split <;> omega)⟩
    obtain ⟨f, l2, s, e2, P2, f0, fb⟩ := big3
    obtain ⟨v, l3, e3, v0, v1, P3⟩ := p_draw (n := 2) P2 (by decide) (bd_of 8 (by decide) (by decide) (by decide))
    unfold topB at e2
    by_cases y : r = 3
    · subst y
      by_cases x : v = 0
      · subst x
        refine ⟨f, l3, ?_, fb, P3⟩
        simp [G_law_top, outP, g_law_top, sSeq, sIf, fNot, fAnd, fOr, fB, fCall, fCons, fNil, fV, ini, gPos, sNo, sNil, fBin, Dl.gOr, gEqF, gNeF, litV, scal, sSet, fFun, gI0, gI, fC, endD, endP, fFld, fProp, sRet, fIf, fUn, gNeg, uOr, fAndV, fOrV, fNotV, fIsi, isC, pObj, gAdd0, gCatS, gCatL, fTup, fLst, fFr, Option.bind_some, Option.map_some, Option.bind_none, sPar, sPar3, fIxN, fIxO, isOwn, isL, isOwnL, atI, ixN, sAsg, gT, gsCons, gsNil, gN, gI1, funDivmod, fLenN, fLenO, fCallP, gIx, e1, sFor, fRg1] at e2 ⊢
        simp [e2, e3, endP]
      · refine ⟨0 - f, l3, ?_, by unfold Bd at *; omega, P3⟩
        simp [G_law_top, outP, g_law_top, sSeq, sIf, fNot, fAnd, fOr, fB, fCall, fCons, fNil, fV, ini, gPos, sNo, sNil, fBin, Dl.gOr, gEqF, gNeF, litV, scal, sSet, fFun, gI0, gI, fC, endD, endP, fFld, fProp, sRet, fIf, fUn, gNeg, uOr, fAndV, fOrV, fNotV, fIsi, isC, pObj, gAdd0, gCatS, gCatL, fTup, fLst, fFr, Option.bind_some, Option.map_some, Option.bind_none, sPar, sPar3, fIxN, fIxO, isOwn, isL, isOwnL, atI, ixN, sAsg, gT, gsCons, gsNil, gN, gI1, funDivmod, fLenN, fLenO, fCallP, gIx, e1, sFor, fRg1] at e2 ⊢
        simp [e2, e3, endP, x]
    · by_cases x : v = 0
      · subst x
        refine ⟨f, l3, ?_, fb, P3⟩
        simp [G_law_top, outP, g_law_top, sSeq, sIf, fNot, fAnd, fOr, fB, fCall, fCons, fNil, fV, ini, gPos, sNo, sNil, fBin, Dl.gOr, gEqF, gNeF, litV, scal, sSet, fFun, gI0, gI, fC, endD, endP, fFld, fProp, sRet, fIf, fUn, gNeg, uOr, fAndV, fOrV, fNotV, fIsi, isC, pObj, gAdd0, gCatS, gCatL, fTup, fLst, fFr, Option.bind_some, Option.map_some, Option.bind_none, sPar, sPar3, fIxN, fIxO, isOwn, isL, isOwnL, atI, ixN, sAsg, gT, gsCons, gsNil, gN, gI1, funDivmod, fLenN, fLenO, fCallP, gIx, e1, sFor, fRg1, z, y] at e2 ⊢
        simp [e2, e3, endP]
      · refine ⟨0 - f, l3, ?_, by unfold Bd at *; omega, P3⟩
        simp [G_law_top, outP, g_law_top, sSeq, sIf, fNot, fAnd, fOr, fB, fCall, fCons, fNil, fV, ini, gPos, sNo, sNil, fBin, Dl.gOr, gEqF, gNeF, litV, scal, sSet, fFun, gI0, gI, fC, endD, endP, fFld, fProp, sRet, fIf, fUn, gNeg, uOr, fAndV, fOrV, fNotV, fIsi, isC, pObj, gAdd0, gCatS, gCatL, fTup, fLst, fFr, Option.bind_some, Option.map_some, Option.bind_none, sPar, sPar3, fIxN, fIxO, isOwn, isL, isOwnL, atI, ixN, sAsg, gT, gsCons, gsNil, gN, gI1, funDivmod, fLenN, fLenO, fCallP, gIx, e1, sFor, fRg1, z, y] at e2 ⊢
        simp [e2, e3, endP, x]
end My
namespace My
open PySem PySem.Spec PyProof.Rows L2 ClX Dl
theorem p_lawwhole {l : List D} (P : Pot l) : ∃ (v : Int) (l' : List D), G_law_whole l [] = some (.int v, l') ∧ Bd v 40 ∧ Pot l' := by
  obtain ⟨r, l1, e1, r0, r1, P1⟩ := p_draw (n := 2) P (by decide) (bd_of 8 (by decide) (by decide) (by decide))
  by_cases z : r = 0
  · subst z
    obtain ⟨v, l2, e2, v0, v1, P2⟩ := p_draw (n := 25) P1 (by decide) (bd_of 32 (by decide) (by decide) (by decide))
    refine ⟨v - 12, l2, ?_, by unfold Bd; omega, P2⟩
    simp [G_law_whole, outP, g_law_whole, sSeq, sIf, fNot, fAnd, fOr, fB, fCall, fCons, fNil, fV, ini, gPos, sNo, sNil, fBin, Dl.gOr, gEqF, gNeF, litV, scal, sSet, fFun, gI0, gI, fC, endD, endP, fFld, fProp, sRet, fIf, fUn, gNeg, uOr, fAndV, fOrV, fNotV, fIsi, isC, pObj, gAdd0, gCatS, gCatL, fTup, fLst, fFr, Option.bind_some, Option.map_some, Option.bind_none, sPar, sPar3, fIxN, fIxO, isOwn, isL, isOwnL, atI, ixN, sAsg, gT, gsCons, gsNil, gN, gI1, funDivmod, fLenN, fLenO, fCallP, gIx, e1, e2]
  · obtain ⟨v, l2, e2, v0, v1, P2⟩ := p_draw (n := 1999999) P1 (by decide) (bd_of 2000000 (by decide) (by decide) (by decide))
    refine ⟨v - 999999, l2, ?_, by unfold Bd; omega, P2⟩
    simp [G_law_whole, outP, g_law_whole, sSeq, sIf, fNot, fAnd, fOr, fB, fCall, fCons, fNil, fV, ini, gPos, sNo, sNil, fBin, Dl.gOr, gEqF, gNeF, litV, scal, sSet, fFun, gI0, gI, fC, endD, endP, fFld, fProp, sRet, fIf, fUn, gNeg, uOr, fAndV, fOrV, fNotV, fIsi, isC, pObj, gAdd0, gCatS, gCatL, fTup, fLst, fFr, Option.bind_some, Option.map_some, Option.bind_none, sPar, sPar3, fIxN, fIxO, isOwn, isL, isOwnL, atI, ixN, sAsg, gT, gsCons, gsNil, gN, gI1, funDivmod, fLenN, fLenO, fCallP, gIx, e1, e2, z]
theorem pair_end {l l1 : List D} {b : Int} (e : (fIf (fB (fBin gEqF (fCallP 0 G_law_draw (fCons (fC (.int 3)) fNil)) (fC (.int 0)))) (fCallP 0 G_law_top fNil) (fBin gAdd0 (fC (.int 1)) (fCallP 0 G_law_draw (fCons (fC (.int 12)) fNil)))) [.own .pot l, .un] = some (.int b, [.own .pot l1, .un])) (hb : Bd b 160) (P : Pot l1) :
    ∃ (a c : Int) (l' : List D), G_law_pair l [] = some (.tup [.int a, .int c], l') ∧ c ≠ 0 ∧ Bd a 160 ∧ Bd c 160 ∧ Pot l' := by
  obtain ⟨a, l2, e2, ba, P2⟩ := p_lawtop P
  have g2 : 2 ≤ big := by decide
  by_cases z : b = 0
  · subst z
    refine ⟨a, 5, l2, ?_, by decide, ba, by unfold Bd; decide +kernel, P2⟩
    show ((g_law_pair _).bind endP) = _
    unfold g_law_pair
    show (((sSet 1 _ [.own .pot l, .un]).bind _).bind endP) = _
    unfold sSet
    rw [e]
    simp [sSeq, sIf, fNot, fAnd, fOr, fB, fCall, fCons, fNil, fV, ini, gPos, sNo, sNil, fBin, Dl.gOr, gEqF, gNeF, litV, scal, sSet, fFun, gI0, gI, fC, endD, endP, fFld, fProp, sRet, fIf, fUn, gNeg, uOr, fAndV, fOrV, fNotV, fIsi, isC, pObj, gAdd0, gCatS, gCatL, fTup, fLst, fFr, Option.bind_some, Option.map_some, Option.bind_none, sPar, sPar3, fIxN, fIxO, isOwn, isL, isOwnL, atI, ixN, sAsg, gT, gsCons, gsNil, gN, gI1, funDivmod, fLenN, fLenO, fCallP, gIx, e2, g2]
  · refine ⟨a, b, l2, ?_, z, ba, hb, P2⟩
    show ((g_law_pair _).bind endP) = _
    unfold g_law_pair
    show (((sSet 1 _ [.own .pot l, .un]).bind _).bind endP) = _
    unfold sSet
    rw [e]
    simp [sSeq, sIf, fNot, fAnd, fOr, fB, fCall, fCons, fNil, fV, ini, gPos, sNo, sNil, fBin, Dl.gOr, gEqF, gNeF, litV, scal, sSet, fFun, gI0, gI, fC, endD, endP, fFld, fProp, sRet, fIf, fUn, gNeg, uOr, fAndV, fOrV, fNotV, fIsi, isC, pObj, gAdd0, gCatS, gCatL, fTup, fLst, fFr, Option.bind_some, Option.map_some, Option.bind_none, sPar, sPar3, fIxN, fIxO, isOwn, isL, isOwnL, atI, ixN, sAsg, gT, gsCons, gsNil, gN, gI1, funDivmod, fLenN, fLenO, fCallP, gIx, e2, g2, z]
theorem p_lawpair {l : List D} (P : Pot l) : ∃ (a c : Int) (l' : List D), G_law_pair l [] = some (.tup [.int a, .int c], l') ∧ c ≠ 0 ∧ Bd a 160 ∧ Bd c 160 ∧ Pot l' := by
  obtain ⟨r, l1, e1, r0, r1, P1⟩ := p_draw (n := 3) P (by decide) (bd_of 8 (by decide) (by decide) (by decide))
  by_cases z : r = 0
  · subst z
    obtain ⟨b, l2, e2, bb, P2⟩ := p_lawtop P1
    refine pair_end (b := b) (l1 := l2) ?_ bb P2
    simp [sSeq, sIf, fNot, fAnd, fOr, fB, fCall, fCons, fNil, fV, ini, gPos, sNo, sNil, fBin, Dl.gOr, gEqF, gNeF, litV, scal, sSet, fFun, gI0, gI, fC, endD, endP, fFld, fProp, sRet, fIf, fUn, gNeg, uOr, fAndV, fOrV, fNotV, fIsi, isC, pObj, gAdd0, gCatS, gCatL, fTup, fLst, fFr, Option.bind_some, Option.map_some, Option.bind_none, sPar, sPar3, fIxN, fIxO, isOwn, isL, isOwnL, atI, ixN, sAsg, gT, gsCons, gsNil, gN, gI1, funDivmod, fLenN, fLenO, fCallP, gIx, e1, e2]
  · obtain ⟨b, l2, e2, b0, b1, P2⟩ := p_draw (n := 12) P1 (by decide) (bd_of 32 (by decide) (by decide) (by decide))
    refine pair_end (b := 1 + b) (l1 := l2) ?_ ((bd_of (n := 10) 100 (by omega) (by omega) (by decide)).mono (by decide)) P2
    simp [sSeq, sIf, fNot, fAnd, fOr, fB, fCall, fCons, fNil, fV, ini, gPos, sNo, sNil, fBin, Dl.gOr, gEqF, gNeF, litV, scal, sSet, fFun, gI0, gI, fC, endD, endP, fFld, fProp, sRet, fIf, fUn, gNeg, uOr, fAndV, fOrV, fNotV, fIsi, isC, pObj, gAdd0, gCatS, gCatL, fTup, fLst, fFr, Option.bind_some, Option.map_some, Option.bind_none, sPar, sPar3, fIxN, fIxO, isOwn, isL, isOwnL, atI, ixN, sAsg, gT, gsCons, gsNil, gN, gI1, funDivmod, fLenN, fLenO, fCallP, gIx, e1, e2, z]
theorem atI_in {ds : List D} {i : Int} (h0 : 0 ≤ i) (h1 : i < ds.length) : ∃ x, atI ds i = some x ∧ x ∈ ds := by
  have hj : i.toNat < ds.length := by omega
  refine ⟨ds[i.toNat], ?_, List.getElem_mem hj⟩
  unfold atI ixN
  simp [h0, h1, hj]
theorem p_pick {l ds : List D} (P : Pot l) (h : 0 < ds.length) (hn : ds.length < 1000) : ∃ (x : D) (l' : List D), G_law_pick l [.lst ds] = some (x, l') ∧ x ∈ ds ∧ Pot l' := by
  obtain ⟨r, l1, e1, r0, r1, P1⟩ := p_draw (n := ds.length) P (by omega) (bd_of 1000 (by omega) (by omega) (by decide))
  obtain ⟨x, ex, hx⟩ := atI_in r0 r1
  refine ⟨x, l1, ?_, hx, P1⟩
  have gx : gIx (.lst ds) (.int r) = some x := ex
  simp [G_law_pick, outP, g_law_pick, sSeq, sIf, fNot, fAnd, fOr, fB, fCall, fCons, fNil, fV, ini, gPos, sNo, sNil, fBin, Dl.gOr, gEqF, gNeF, litV, scal, sSet, fFun, gI0, gI, fC, endD, endP, fFld, fProp, sRet, fIf, fUn, gNeg, uOr, fAndV, fOrV, fNotV, fIsi, isC, pObj, gAdd0, gCatS, gCatL, fTup, fLst, fFr, Option.bind_some, Option.map_some, Option.bind_none, fIxN, fIxO, isOwn, isL, fLenN, fLenO, fCallP, funLen, e1, gx]
end My
namespace My
open PySem PySem.Spec PyProof.Rows L2 ClX Dl
theorem repr5 (a b c d e : Bool) : funReprD [.lst [.bl a, .bl b, .bl c, .bl d, .bl e]] = some (.str (PyData.list [.bool a, .bool b, .bool c, .bool d, .bool e]).shown) := by
  have k : okRepr (PyData.list [.bool a, .bool b, .bool c, .bool d, .bool e]) = true := by
    cases a <;> cases b <;> cases c <;> cases d <;> cases e <;> decide +kernel
  unfold funReprD
  simp only [toPy, toPys, Option.bind_some, Option.map_some]
  rw [if_pos k]
theorem repr2b (a b : Bool) : funReprD [.lst [.bl a, .bl b]] = some (.str (PyData.list [.bool a, .bool b]).shown) := by
  have k : okRepr (PyData.list [.bool a, .bool b]) = true := by
    cases a <;> cases b <;> decide +kernel
  unfold funReprD
  simp only [toPy, toPys, Option.bind_some, Option.map_some]
  rw [if_pos k]
theorem nrm_le0 {t b : Int} (h : b ≠ 0) : (nrm t b).1 ≤ 0 ↔ t * b ≤ 0 := by
  have n := nrm_neg (t := t) h
  have z := nrm_zero (t := t) h
  constructor
  · intro k
    rcases Int.lt_or_eq_of_le k with k | k
    · exact Int.le_of_lt (n.mp k)
    · rw [z.mp k]; simp
  · intro k
    rcases Int.lt_or_eq_of_le k with k | k
    · exact Int.le_of_lt (n.mpr k)
    · rcases Int.mul_eq_zero.mp k with k | k
      · rw [z.mpr k]; exact Int.le_refl 0
      · exact absurd k h
section
variable {a b c d p q r s : Int} (hb : b ≠ 0) (hd : d ≠ 0) (N : IsN a b p q) (M : IsN c d r s)
include hb hd N M
theorem f_qs : q * s ≠ 0 := Int.mul_ne_zero (Int.ne_of_gt N.pos) (Int.ne_of_gt M.pos)
theorem f_add : nrm (p * s + r * q) (q * s) = nrm (a * d + c * b) (b * d) := by
  refine nrm_same (f_qs hb hd N M) (Int.mul_ne_zero hb hd) ?_
  have e1 := N.eq
  have e2 := M.eq
  calc (p * s + r * q) * (b * d) = (p * b) * (s * d) + (r * d) * (q * b) := by rw [Int.add_mul]; ac_nf
    _ = (a * q) * (s * d) + (c * s) * (q * b) := by rw [e1, e2]
    _ = (a * d + c * b) * (q * s) := by rw [Int.add_mul]; ac_nf
theorem f_sub : nrm (p * s - r * q) (q * s) = nrm (a * d - c * b) (b * d) := by
  refine nrm_same (f_qs hb hd N M) (Int.mul_ne_zero hb hd) ?_
  have e1 := N.eq
  have e2 := M.eq
  calc (p * s - r * q) * (b * d) = (p * b) * (s * d) - (r * d) * (q * b) := by rw [Int.sub_mul]; ac_nf
    _ = (a * q) * (s * d) - (c * s) * (q * b) := by rw [e1, e2]
    _ = (a * d - c * b) * (q * s) := by rw [Int.sub_mul]; ac_nf
theorem f_mul : nrm (p * r) (q * s) = nrm (a * c) (b * d) := by
  refine nrm_same (f_qs hb hd N M) (Int.mul_ne_zero hb hd) ?_
  have e1 := N.eq
  have e2 := M.eq
  calc (p * r) * (b * d) = (p * b) * (r * d) := by ac_nf
    _ = (a * q) * (c * s) := by rw [e1, e2]
    _ = (a * c) * (q * s) := by ac_nf
theorem f_r0 : r = 0 ↔ c = 0 := by
  have e2 := M.eq
  constructor
  · intro h
    rw [h, Int.zero_mul] at e2
    rcases Int.mul_eq_zero.mp e2.symm with z | z
    · exact z
    · exact absurd z (Int.ne_of_gt M.pos)
  · intro h
    rw [h, Int.zero_mul] at e2
    rcases Int.mul_eq_zero.mp e2 with z | z
    · exact z
    · exact absurd z hd
theorem f_over (hc : c ≠ 0) : nrm (p * s) (q * r) = nrm (a * d) (b * c) := by
  have hr : r ≠ 0 := fun z => hc ((f_r0 hb hd N M).mp z)
  refine nrm_same (Int.mul_ne_zero (Int.ne_of_gt N.pos) hr) (Int.mul_ne_zero hb hc) ?_
  have e1 := N.eq
  have e2 := M.eq
  calc (p * s) * (b * c) = (p * b) * (c * s) := by ac_nf
    _ = (a * q) * (r * d) := by rw [e1, e2]
    _ = (a * d) * (q * r) := by ac_nf
theorem f_neg : nrm (-p) q = nrm (0 - a) b := by
  refine nrm_same (Int.ne_of_gt N.pos) hb ?_
  have e1 := N.eq
  rw [Int.neg_mul, e1, Int.zero_sub, Int.neg_mul]
theorem f_eq : (p = r ∧ q = s) ↔ (a * d - c * b) * (b * d) = 0 := by
  have e1 := N.eq
  have e2 := M.eq
  constructor
  · rintro ⟨rfl, rfl⟩
    have : q * (a * d - c * b) = 0 := by
      rw [Int.mul_sub]
      have : q * (a * d) = q * (c * b) := by
        calc q * (a * d) = (a * q) * d := by ac_nf
          _ = (p * d) * b := by rw [← e1]; ac_nf
          _ = q * (c * b) := by rw [e2]; ac_nf
      omega
    rcases Int.mul_eq_zero.mp this with z | z
    · exact absurd z (Int.ne_of_gt N.pos)
    · rw [z, Int.zero_mul]
  · intro h
    have z : a * d - c * b = 0 := by
      rcases Int.mul_eq_zero.mp h with z | z
      · exact z
      · exact absurd z (Int.mul_ne_zero hb hd)
    have e : nrm a b = nrm c d := nrm_same hb hd (by omega)
    have x := isN_unique hb N (nrm_is hb)
    have y := isN_unique hd M (nrm_is hd)
    rw [x.1, x.2, y.1, y.2, e]
    exact ⟨rfl, rfl⟩
end
end My
namespace My
open PySem PySem.Spec PyProof.Rows L2 ClX Dl
theorem mkR_eq {t b t' b' : Int} (h : nrm t b = nrm t' b') : mkR t b = mkR t' b' := by unfold mkR; rw [h]
theorem p_two {a b c d : Int} (hb : b ≠ 0) (hd : d ≠ 0) (ba : Bd a 200) (bb : Bd b 200) (bc : Bd c 200) (bd : Bd d 200) : G_law_two_right [.tup [.int a, .int b], .tup [.int c, .int d]] = some (.bl true) := by
  have N := nrm_is (t := a) hb
  have M := nrm_is (t := c) hd
  have i1 := @p_init a b hb (bb.mono (by decide))
  have i2 := @p_init c d hd (bd.mono (by decide))
  have bp : Bd (nrm a b).1 200 := ba.le (nrm_le a b).1
  have bq : Bd (nrm a b).2 200 := bb.le (nrm_le a b).2
  have br : Bd (nrm c d).1 200 := bc.le (nrm_le c d).1
  have bs : Bd (nrm c d).2 200 := bd.le (nrm_le c d).2
  have J1 := p_is hb (ba.mono (by decide)) (bb.mono (by decide))
  have g1 : Bd (a * d) 400 := ba.mul bd
  have g2 : Bd (c * b) 400 := bc.mul bb
  have g3 : Bd (b * d) 400 := bb.mul bd
  have g4 : Bd (a * c) 400 := ba.mul bc
  have g5 : Bd (b * c) 400 := bb.mul bc
  have nbd := Int.mul_ne_zero hb hd
  have J2 := p_is (a := a * d + c * b) nbd ((g1.add g2).mono (by decide)) (g3.mono (by decide))
  have J3 := p_is (a := a * d - c * b) nbd ((g1.sub g2).mono (by decide)) (g3.mono (by decide))
  have J4 := p_is (a := a * c) nbd (g4.mono (by decide)) (g3.mono (by decide))
  have J5 := p_is (a := 0 - a) hb ((show Bd (0 - a) 200 by unfold Bd at *; omega).mono (by decide)) (bb.mono (by decide))
  have J6 : c ≠ 0 → G_law_is [mkR (a * d) (b * c), .int (a * d), .int (b * c)] = some (.bl true) := fun hc => p_is (Int.mul_ne_zero hb hc) (g1.mono (by decide)) (g5.mono (by decide))
  have A := p_add (Int.ne_of_gt N.pos) (Int.ne_of_gt M.pos) (bp.mono (by decide)) (bq.mono (by decide)) (br.mono (by decide)) (bs.mono (by decide))
  have S := p_sub (Int.ne_of_gt N.pos) (Int.ne_of_gt M.pos) (bp.mono (by decide)) (bq.mono (by decide)) (br.mono (by decide)) (bs.mono (by decide))
  have U := p_mul (Int.ne_of_gt N.pos) (Int.ne_of_gt M.pos) (bp.mono (by decide)) (bq.mono (by decide)) (br.mono (by decide)) (bs.mono (by decide))
  have V := @p_neg (nrm a b).1 (nrm a b).2 (Int.ne_of_gt N.pos) (bq.mono (by decide))
  have L := p_below (Int.ne_of_gt N.pos) (bp.mono (by decide)) (bq.mono (by decide)) (Int.ne_of_gt M.pos) (br.mono (by decide)) (bs.mono (by decide))
  have L' := p_atmost (Int.ne_of_gt N.pos) (bp.mono (by decide)) (bq.mono (by decide)) (Int.ne_of_gt M.pos) (br.mono (by decide)) (bs.mono (by decide))
  have G := p_below (Int.ne_of_gt M.pos) (br.mono (by decide)) (bs.mono (by decide)) (Int.ne_of_gt N.pos) (bp.mono (by decide)) (bq.mono (by decide))
  have O : c ≠ 0 → G_Ratio_over [mkR a b, mkR c d] = some (mkR (a * d) (b * c)) := fun hc => by
    have := p_over (Int.ne_of_gt N.pos) (bp.mono (by decide)) (bq.mono (by decide)) (fun z => hc ((nrm_zero hd).mp z)) (Int.ne_of_gt M.pos) (br.mono (by decide)) (bs.mono (by decide))
    rw [mkR_eq (f_over hb hd N M hc)] at this
    exact this
  have Q := p_eq (nrm a b).1 (nrm a b).2 (nrm c d).1 (nrm c d).2
  rw [mkR_eq (f_add hb hd N M)] at A
  rw [mkR_eq (f_sub hb hd N M)] at S
  rw [f_sub hb hd N M] at L L'
  rw [mkR_eq (f_mul hb hd N M)] at U
  rw [mkR_eq (f_neg hb hd N M)] at V
  rw [f_sub hd hb M N] at G
  have q1 : ((nrm (a * d - c * b) (b * d)).1 < 0) ↔ (a * d - c * b) * b * d < 0 := by rw [nrm_neg nbd, Int.mul_assoc]
  have q2 : ((nrm (a * d - c * b) (b * d)).1 ≤ 0) ↔ (a * d - c * b) * b * d ≤ 0 := by rw [nrm_le0 nbd, Int.mul_assoc]
  have q3 : ((nrm (c * b - a * d) (d * b)).1 < 0) ↔ 0 < (a * d - c * b) * b * d := by
    rw [nrm_neg (Int.mul_ne_zero hd hb), Int.mul_comm d b, Int.mul_assoc (a * d - c * b)]
    rw [show c * b - a * d = -(a * d - c * b) by omega, Int.neg_mul]
    omega
  have q4 : ((nrm a b).1 = (nrm c d).1 ∧ (nrm a b).2 = (nrm c d).2) ↔ (a * d - c * b) * b * d = 0 := by rw [f_eq hb hd N M, Int.mul_assoc]
  have Q' : G_Ratio_eq [mkR a b, mkR c d] = some (.bl (decide ((a * d - c * b) * b * d = 0))) := by
    rw [Q, ← Bool.decide_and]
    congr 2
    exact decide_eq_decide.mpr q4
  have L1 : G_Ratio_is_below [mkR a b, mkR c d] = some (.bl (decide ((a * d - c * b) * b * d < 0))) := by rw [L]; congr 2; exact decide_eq_decide.mpr q1
  have L2 : G_Ratio_is_at_most [mkR a b, mkR c d] = some (.bl (decide ((a * d - c * b) * b * d ≤ 0))) := by rw [L']; congr 2; exact decide_eq_decide.mpr q2
  have L3 : G_Ratio_is_below [mkR c d, mkR a b] = some (.bl (decide (0 < (a * d - c * b) * b * d))) := by rw [G]; congr 2; exact decide_eq_decide.mpr q3
  have m1 := mul_ok (ba.mono (by decide)) (bd.mono (by decide : 200 ≤ 4000))
  have m2 := mul_ok (bc.mono (by decide)) (bb.mono (by decide : 200 ≤ 4000))
  have m3 := mul_ok (bb.mono (by decide)) (bd.mono (by decide : 200 ≤ 4000))
  have m4 := mul_ok (ba.mono (by decide)) (bc.mono (by decide : 200 ≤ 4000))
  have m5 := mul_ok (bb.mono (by decide)) (bc.mono (by decide : 200 ≤ 4000))
  have h1 : Bd ((a * d - c * b) * b) 601 := (g1.sub g2).mul bb
  have m6 := mul_ok ((g1.sub g2).mono (by decide)) (bb.mono (by decide : 200 ≤ 4000))
  have m7 := mul_ok (h1.mono (by decide)) (bd.mono (by decide : 200 ≤ 4000))
  have k2 : 2 ≤ big := by decide
  have k5 : 5 ≤ big := by decide
  clear Q L L' G q1 q2 q3 q4 h1 g1 g2 g3 g4 g5 N M bp bq br bs ba bb bc bd nbd
  unfold mkR at *
  generalize (nrm a b).1 = p at *
  generalize (nrm a b).2 = q at *
  generalize (nrm c d).1 = r at *
  generalize (nrm c d).2 = s at *
  generalize hX : (a * d - c * b) * b * d = X at *
  have R5 := repr5 (decide (X < 0)) (decide (X ≤ 0)) (decide (0 < X)) (decide (X = 0)) (!decide (X = 0))
  simp only [Int.zero_sub] at J5 V
  by_cases hc : c = 0
  · subst hc
    simp only [Int.zero_mul, Int.mul_zero, Int.add_zero, Int.sub_zero, Int.zero_add] at J2 J3 J4 A S U hX m6 m7
    simp [G_law_two_right, outD, g_law_two_right, sSeq, sIf, fNot, fAnd, fOr, fB, fCall, fCons, fNil, fV, ini, gPos, sNo, sNil, fBin, Dl.gOr, gEqF, gNeF, litV, scal, sSet, fFun, gI0, gI, fC, endD, endP, fFld, fProp, sRet, fIf, fUn, gNeg, uOr, fAndV, fOrV, fNotV, fIsi, isC, pObj, gAdd0, gCatS, gCatL, fTup, fLst, fFr, Option.bind_some, Option.map_some, Option.bind_none, sPar, sPar3, fIxN, fIxO, isOwn, isL, isOwnL, atI, ixN, sAsg, gT, gsCons, gsNil, gN, gI1, funDivmod, fLenN, fLenO, fCallP, gIx, fMake, i1, i2, J1, J2, J3, J4, J5, A, S, U, V, Q', L1, L2, L3, m1, m2, m3, m4, m5, m6, m7, fMeth, gOwn1, gOwn2, gOwnE, gOwnNe, funOr, funTxt, R5, k5, hX, k2]
  · have O' := O hc
    have J6' := J6 hc
    clear O J6
    simp [G_law_two_right, outD, g_law_two_right, sSeq, sIf, fNot, fAnd, fOr, fB, fCall, fCons, fNil, fV, ini, gPos, sNo, sNil, fBin, Dl.gOr, gEqF, gNeF, litV, scal, sSet, fFun, gI0, gI, fC, endD, endP, fFld, fProp, sRet, fIf, fUn, gNeg, uOr, fAndV, fOrV, fNotV, fIsi, isC, pObj, gAdd0, gCatS, gCatL, fTup, fLst, fFr, Option.bind_some, Option.map_some, Option.bind_none, sPar, sPar3, fIxN, fIxO, isOwn, isL, isOwnL, atI, ixN, sAsg, gT, gsCons, gsNil, gN, gI1, funDivmod, fLenN, fLenO, fCallP, gIx, fMake, i1, i2, J1, J2, J3, J4, J5, A, S, U, V, Q', L1, L2, L3, m1, m2, m3, m4, m5, m6, m7, fMeth, gOwn1, gOwn2, gOwnE, gOwnNe, funOr, funTxt, R5, k5, hX, k2, O', J6', hc]
end My
namespace My
open PySem PySem.Spec PyProof.Rows L2 ClX Dl
section
variable {a b w p q : Int} (hb : b ≠ 0) (N : IsN a b p q)
include hb N
theorem h_add : nrm (p + w * q) q = nrm (a + w * b) b := by
  refine nrm_same (Int.ne_of_gt N.pos) hb ?_
  rw [Int.add_mul, Int.add_mul, N.eq]
  ac_nf
theorem h_radd : nrm (w * q + p) q = nrm (a + w * b) b := by rw [Int.add_comm, h_add hb N]
theorem h_sub : nrm (p - w * q) q = nrm (a - w * b) b := by
  refine nrm_same (Int.ne_of_gt N.pos) hb ?_
  rw [Int.sub_mul, Int.sub_mul, N.eq]
  ac_nf
theorem h_rsub : nrm (w * q - p) q = nrm (w * b - a) b := by
  refine nrm_same (Int.ne_of_gt N.pos) hb ?_
  rw [Int.sub_mul, Int.sub_mul, N.eq]
  ac_nf
theorem h_mul : nrm (p * w) q = nrm (w * a) b := by
  refine nrm_same (Int.ne_of_gt N.pos) hb ?_
  calc p * w * b = (p * b) * w := by ac_nf
    _ = w * a * q := by rw [N.eq]; ac_nf
theorem h_rmul : nrm (w * p) q = nrm (w * a) b := by rw [Int.mul_comm, h_mul hb N]
theorem h_over (hw : w ≠ 0) : nrm p (q * w) = nrm a (b * w) := by
  refine nrm_same (Int.mul_ne_zero (Int.ne_of_gt N.pos) hw) (Int.mul_ne_zero hb hw) ?_
  calc p * (b * w) = (p * b) * w := by ac_nf
    _ = a * (q * w) := by rw [N.eq]; ac_nf
end
theorem p_one {a b w : Int} (hb : b ≠ 0) (ba : Bd a 200) (bb : Bd b 200) (bw : Bd w 200) : G_law_whole_right [.tup [.int a, .int b], .int w] = some (.bl true) := by
  have N := nrm_is (t := a) hb
  have i1 := @p_init a b hb (bb.mono (by decide))
  have i2 := @p_init w 1 (by decide) bd1
  have bp : Bd (nrm a b).1 1900 := (ba.mono (by decide)).le (nrm_le a b).1
  have bq : Bd (nrm a b).2 1900 := (bb.mono (by decide)).le (nrm_le a b).2
  have bW : Bd w 1900 := bw.mono (by decide)
  have qn := Int.ne_of_gt N.pos
  have g1 : Bd (w * b) 400 := bw.mul bb
  have g2 : Bd (w * a) 400 := bw.mul ba
  have g3 : Bd (b * w) 400 := bb.mul bw
  have ba4 : Bd a 400 := ba.mono (by decide)
  have bb18 : Bd b 1800 := bb.mono (by decide)
  have J1 := p_is (a := a + w * b) hb ((ba4.add g1).mono (by decide)) bb18
  have J2 := p_is (a := w * b - a) hb ((g1.sub ba4).mono (by decide)) bb18
  have J3 := p_is (a := a - w * b) hb ((ba4.sub g1).mono (by decide)) bb18
  have J4 := p_is (a := w * a) hb (g2.mono (by decide)) bb18
  have J5 : w ≠ 0 → G_law_is [mkR a (b * w), .int a, .int (b * w)] = some (.bl true) := fun hw => p_is (Int.mul_ne_zero hb hw) (ba.mono (by decide)) (g3.mono (by decide))
  have J6 := p_is (a := w) (b := 1) (by decide) (bw.mono (by decide)) (bdOne (by decide))
  have A1 := p_addI qn bp bq bW
  have A2 := p_radd qn bp bq bW
  have A3 := p_rsub qn bp bq bW
  have A4 := p_subI qn bp bq bW
  have A5 := p_mulI qn bp bq bW
  have A6 := p_rmul qn bp bq bW
  have L := p_belowI qn bp bq bW
  have L' := p_atmostI qn bp bq bW
  have Q := p_eqI (nrm a b).1 (nrm a b).2 w
  rw [mkR_eq (h_add hb N)] at A1
  rw [mkR_eq (h_radd hb N)] at A2
  rw [mkR_eq (h_rsub hb N)] at A3
  rw [mkR_eq (h_sub hb N)] at A4
  rw [mkR_eq (h_mul hb N)] at A5
  rw [mkR_eq (h_rmul hb N)] at A6
  rw [h_sub hb N] at L L'
  have O : w ≠ 0 → G_Ratio_over [mkR a b, .int w] = some (mkR a (b * w)) := fun hw => by
    have := p_overI qn bp bq hw bW
    rw [mkR_eq (h_over hb N hw)] at this
    exact this
  have L1 : G_Ratio_is_below [mkR a b, .int w] = some (.bl (decide ((a - w * b) * b < 0))) := by rw [L]; congr 2; exact decide_eq_decide.mpr (nrm_neg hb)
  have L2 : G_Ratio_is_at_most [mkR a b, .int w] = some (.bl (decide ((a - w * b) * b ≤ 0))) := by rw [L']; congr 2; exact decide_eq_decide.mpr (nrm_le0 hb)
  have m1 := mul_ok (bw.mono (by decide)) (bb.mono (by decide : 200 ≤ 4000))
  have m2 := mul_ok (bw.mono (by decide)) (ba.mono (by decide : 200 ≤ 4000))
  have m3 := mul_ok (bb.mono (by decide)) (bw.mono (by decide : 200 ≤ 4000))
  have m6 := mul_ok ((ba4.sub g1).mono (by decide)) (bb.mono (by decide : 200 ≤ 4000))
  have k2 : 2 ≤ big := by decide
  clear L L' g1 g2 g3 N bp bq bW ba4 bb18 ba bb bw qn
  rw [nrm_one] at i2
  unfold mkR at *
  rw [nrm_one] at J6
  generalize (nrm a b).1 = p at *
  generalize (nrm a b).2 = q at *
  generalize hX : (a - w * b) * b = X at *
  have R2 := repr2b (decide (X < 0)) (decide (X ≤ 0))
  by_cases hw : w = 0
  · subst hw
    simp only [Int.zero_mul, Int.mul_zero, Int.add_zero, Int.sub_zero, Int.zero_add, Int.zero_sub] at J1 J2 J3 J4 A1 A2 A3 A4 A5 A6 hX m6
    simp [G_law_whole_right, outD, g_law_whole_right, sSeq, sIf, fNot, fAnd, fOr, fB, fCall, fCons, fNil, fV, ini, gPos, sNo, sNil, fBin, Dl.gOr, gEqF, gNeF, litV, scal, sSet, fFun, gI0, gI, fC, endD, endP, fFld, fProp, sRet, fIf, fUn, gNeg, uOr, fAndV, fOrV, fNotV, fIsi, isC, pObj, gAdd0, gCatS, gCatL, fTup, fLst, fFr, Option.bind_some, Option.map_some, Option.bind_none, sPar, sPar3, fIxN, fIxO, isOwn, isL, isOwnL, atI, ixN, sAsg, gT, gsCons, gsNil, gN, gI1, funDivmod, fLenN, fLenO, fCallP, gIx, fMake, i1, i2, J1, J2, J3, J4, J6, A1, A2, A3, A4, A5, A6, Q, L1, L2, m1, m2, m3, m6, fMeth, gOwn1, gOwn2, gOwnE, gOwnNe, gOwnR, gIsNotB, funOr, funTxt, R2, k2, hX]
  · have O' := O hw
    have J5' := J5 hw
    clear O J5
    simp [G_law_whole_right, outD, g_law_whole_right, sSeq, sIf, fNot, fAnd, fOr, fB, fCall, fCons, fNil, fV, ini, gPos, sNo, sNil, fBin, Dl.gOr, gEqF, gNeF, litV, scal, sSet, fFun, gI0, gI, fC, endD, endP, fFld, fProp, sRet, fIf, fUn, gNeg, uOr, fAndV, fOrV, fNotV, fIsi, isC, pObj, gAdd0, gCatS, gCatL, fTup, fLst, fFr, Option.bind_some, Option.map_some, Option.bind_none, sPar, sPar3, fIxN, fIxO, isOwn, isL, isOwnL, atI, ixN, sAsg, gT, gsCons, gsNil, gN, gI1, funDivmod, fLenN, fLenO, fCallP, gIx, fMake, i1, i2, J1, J2, J3, J4, J5', J6, A1, A2, A3, A4, A5, A6, O', Q, L1, L2, m1, m2, m3, m6, fMeth, gOwn1, gOwn2, gOwnE, gOwnNe, gOwnR, gIsNotB, funOr, funTxt, R2, k2, hX, hw]
end My
namespace My
open PySem PySem.Spec PyProof.Rows L2 ClX Dl
/-! sums of many -/
def Item (x : D) (c d : Int) : Prop := d ≠ 0 ∧ Bd c 200 ∧ Bd d 200 ∧ (x = mkR c d ∨ (x = .int c ∧ d = 1))
def Items : List D → List (Int × Int) → Prop
  | [], [] => True
  | x :: xs, (c, d) :: cs => Item x c d ∧ Items xs cs
  | _, _ => False
def fT : List (Int × Int) → Int × Int → Int × Int
  | [], z => z
  | (c, d) :: cs, (t, b) => fT cs (t * d + c * b, b * d)
theorem fT_app (c d : Int) : ∀ (cs : List (Int × Int)) (z : Int × Int), fT (cs ++ [(c, d)]) z = ((fT cs z).1 * d + c * (fT cs z).2, (fT cs z).2 * d)
  | [], z => rfl
  | (c', d') :: cs, (t, b) => by
    show fT (cs ++ [(c, d)]) _ = _
    exact fT_app c d cs _
theorem items_app {x : D} {c d : Int} (h : Item x c d) : ∀ {xs : List D} {cs : List (Int × Int)}, Items xs cs → Items (xs ++ [x]) (cs ++ [(c, d)])
  | [], [], _ => ⟨h, trivial⟩
  | y :: xs, (_, _) :: cs, ⟨h1, h2⟩ => ⟨h1, items_app h h2⟩
abbrev gAddR : D → D → Option D := (gOr (gOr gAdd0 (gOwn2 0 G_Ratio_add)) (gOwnR 0 G_Ratio_radd))
theorem add_item {x : D} {c d T B : Int} (h : Item x c d) (hB : B ≠ 0) (bT : Bd T 1800) (bB : Bd B 1800) : gAddR (mkR T B) x = some (mkR (T * d + c * B) (B * d)) := by
  obtain ⟨hd, bc, bd, rfl | ⟨rfl, rfl⟩⟩ := h
  · have N := nrm_is (t := T) hB
    have M := nrm_is (t := c) hd
    have A := p_add (Int.ne_of_gt N.pos) (Int.ne_of_gt M.pos) ((bT.mono (by decide)).le (nrm_le T B).1) ((bB.mono (by decide)).le (nrm_le T B).2) ((bc.mono (by decide)).le (nrm_le c d).1) ((bd.mono (by decide)).le (nrm_le c d).2)
    rw [mkR_eq (f_add hB hd N M)] at A
    unfold mkR at *
    simp [gAddR, Dl.gOr, gAdd0, gI0, gCatS, gCatL, gOwn2, A]
  · have N := nrm_is (t := T) hB
    have A := p_addI (i := c) (Int.ne_of_gt N.pos) ((bT.mono (by decide)).le (nrm_le T B).1) ((bB.mono (by decide)).le (nrm_le T B).2) (bc.mono (by decide))
    rw [mkR_eq (h_add hB N)] at A
    unfold mkR at *
    simp [gAddR, Dl.gOr, gAdd0, gI0, gCatS, gCatL, gOwn2, A]
abbrev totB : FS := (sSet 2 (fBin gAddR (fV 2) (fV 3)))
structure Zb (k : Nat) (T B : Int) : Prop where
  nz : B ≠ 0
  bT : Bd T (210 * k + 1)
  bB : Bd B (200 * k + 1)
theorem Zb.next {k : Nat} {T B c d : Int} (z : Zb k T B) (hd : d ≠ 0) (bc : Bd c 200) (bd : Bd d 200) : Zb (k + 1) (T * d + c * B) (B * d) := by
  refine ⟨Int.mul_ne_zero z.nz hd, ?_, (z.bB.mul bd).mono (by omega)⟩
  have h1 : Bd (T * d) (210 * k + 201) := (z.bT.mul bd).mono (by omega)
  have h2 : Bd (c * B) (210 * k + 201) := (bc.mul z.bB).mono (by omega)
  exact (h1.add h2).mono (by omega)
theorem total_loop (c0 all : D) : ∀ (ds : List D) (cs : List (Int × Int)) (k : Nat) (T B : Int) (s : Sl), Items ds cs → Zb k T B → k + ds.length ≤ 5 → ∃ s', loopF (gN 3) totB ds [.val c0, .val all, .val (mkR T B), s] = some (.nx [.val c0, .val all, .val (mkR (fT cs (T, B)).1 (fT cs (T, B)).2), s'])
  | [], [], k, T, B, s, _, _, _ => ⟨s, rfl⟩
  | x :: ds, (c, d) :: cs, k, T, B, s, ⟨h1, h2⟩, z, hk => by
    simp only [List.length_cons] at hk
    have A := add_item h1 z.nz (z.bT.mono (by omega)) (z.bB.mono (by omega))
    obtain ⟨s', e⟩ := total_loop c0 all ds cs (k + 1) _ _ (.val x) h2 (z.next h1.1 h1.2.1 h1.2.2.1) (by omega)
    refine ⟨s', ?_⟩
    have st : totB [.val c0, .val all, .val (mkR T B), .val x] = some (.nx [.val c0, .val all, .val (mkR (T * d + c * B) (B * d)), .val x]) := by
      show ((fBin gAddR (fV 2) (fV 3) _).map _) = _
      show (((gAddR (mkR T B) x).map _).map _) = _
      rw [A]
      rfl
    show ((gN 3 x _).bind fun δ1 => (totB δ1).bind _) = _
    simp only [gN, List.set, Option.bind_some, st]
    exact e
theorem p_total {ds : List D} {cs : List (Int × Int)} (I : Items ds cs) (hk : ds.length ≤ 4) : G_Ratio_total [.cls 0, .lst ds] = some (mkR (fT cs (0, 1)).1 (fT cs (0, 1)).2) ∧ G_Ratio_total [.cls 0, .tup ds] = some (mkR (fT cs (0, 1)).1 (fT cs (0, 1)).2) := by
  have z : Zb 0 0 1 := ⟨by decide, by unfold Bd; decide, by unfold Bd; decide⟩
  have i := @p_init 0 1 (by decide) bd1
  constructor
  · obtain ⟨s', e⟩ := total_loop (.cls 0) (.lst ds) ds cs 0 0 1 .un I z (by omega)
    unfold totB gAddR mkR gAdd0 at e
    simp [G_Ratio_total, outD, g_Ratio_total, sSeq, sIf, fNot, fAnd, fOr, fB, fCall, fCons, fNil, fV, ini, gPos, sNo, sNil, fBin, Dl.gOr, gEqF, gNeF, litV, scal, sSet, fFun, gI0, gI, fC, endD, endP, fFld, fProp, sRet, fIf, fUn, gNeg, uOr, fAndV, fOrV, fNotV, fIsi, isC, pObj, gAdd0, gCatS, gCatL, fTup, fLst, fFr, Option.bind_some, Option.map_some, Option.bind_none, p_is_list, fMakeL, fMake, i, sFor, fSq, e]
  · obtain ⟨s', e⟩ := total_loop (.cls 0) (.tup ds) ds cs 0 0 1 .un I z (by omega)
    unfold totB gAddR mkR gAdd0 at e
    simp [G_Ratio_total, outD, g_Ratio_total, sSeq, sIf, fNot, fAnd, fOr, fB, fCall, fCons, fNil, fV, ini, gPos, sNo, sNil, fBin, Dl.gOr, gEqF, gNeF, litV, scal, sSet, fFun, gI0, gI, fC, endD, endP, fFld, fProp, sRet, fIf, fUn, gNeg, uOr, fAndV, fOrV, fNotV, fIsi, isC, pObj, gAdd0, gCatS, gCatL, fTup, fLst, fFr, Option.bind_some, Option.map_some, Option.bind_none, p_is_listT, fMakeL, fMake, i, sFor, fSq, e]
end My
namespace My
open PySem PySem.Spec PyProof.Rows L2 ClX Dl
abbrev gMulR : D → D → Option D := (gOr (gOr (gI okMul fun i j => .int (i * j)) (gOwn2 0 G_Ratio_mul)) (gOwnR 0 G_Ratio_rmul))
abbrev LB : FS := (sIf (fB (fBin (gOr gEqF (gOwnE 0 G_Ratio_eq)) (fCallP 0 G_law_draw (fCons (fC (.int 3)) fNil)) (fC (.int 0)))) (sSeq (sSet 6 (fCallP 0 G_law_whole fNil))
    (sSeq (sApp 4 (fV 6))
    (sSet 2 (fBin gAddR (fV 2) (fBin gMulR (fV 6) (fV 3)))))) (sSeq (sSet 7 (fCallP 0 G_law_pick (fCons (fV 1) fNil)))
    (sSeq (sApp 4 (fMake 0 G_Ratio_init (gPos []) (fCons (fIxN 7 (fC (.int 0))) (fCons (fIxN 7 (fC (.int 1))) fNil)) fNil))
    (sPar 2 3 (fCons (fBin gAddR (fBin gMulR (fV 2) (fIxN 7 (fC (.int 1)))) (fBin gMulR (fIxN 7 (fC (.int 0))) (fV 3))) (fCons (fBin gMulR (fV 3) (fIxN 7 (fC (.int 1)))) fNil))))))
def Pairs (ps : List D) : Prop := ∀ x ∈ ps, ∃ c d : Int, x = .tup [.int c, .int d] ∧ d ≠ 0 ∧ Bd c 200 ∧ Bd d 200
structure St8 (k : Nat) (l told : List D) (cs : List (Int × Int)) (T B : Int) : Prop where
  pot : Pot l
  it : Items told cs
  eq : fT cs (0, 1) = (T, B)
  zb : Zb k T B
  len : told.length = k
theorem right_step {ps : List D} (hps : Pairs ps) (hp : 0 < ps.length) (hp2 : ps.length < 1000) {k : Nat} {l told : List D} {cs : List (Int × Int)} {T B : Int} (S : St8 k l told cs T B) (hk : k < 5) (s5 s6 s7 : Sl) :
    ∃ (l' told' : List D) (cs' : List (Int × Int)) (T' B' : Int) (s6' s7' : Sl), LB [.own .pot l, .val (.lst ps), .val (.int T), .val (.int B), .own .mine told, s5, s6, s7] = some (.nx [.own .pot l', .val (.lst ps), .val (.int T'), .val (.int B'), .own .mine told', s5, s6', s7']) ∧ St8 (k + 1) l' told' cs' T' B' := by
  obtain ⟨P, I, E, Z, hl⟩ := S
  have tl : told.length ≤ big := by unfold big; omega
  obtain ⟨r, l1, e1, r0, r1, P1⟩ := p_draw (n := 3) P (by decide) (bd_of 8 (by decide) (by decide) (by decide))
  by_cases z : r = 0
  · subst z
    obtain ⟨w, l2, e2, bw, P2⟩ := p_lawwhole P1
    have m1 := mul_ok (bw.mono (by decide)) (Z.bB.mono (by omega : 200 * k + 1 ≤ 4000))
    have it : Item (.int w) w 1 := ⟨by decide, bw.mono (by decide), bdOne (by decide), .inr ⟨rfl, rfl⟩⟩
    have Z' := Z.next (by decide : (1 : Int) ≠ 0) (bw.mono (by decide : 40 ≤ 200)) (bdOne (by decide))
    simp only [Int.mul_one] at Z'
    refine ⟨l2, told ++ [.int w], cs ++ [(w, 1)], T + w * B, B, .val (.int w), s7, ?_, P2, items_app it I, by rw [fT_app, E]; simp, Z', by simp [hl]⟩
    simp [LB, sSeq, sIf, fNot, fAnd, fOr, fB, fCall, fCons, fNil, fV, ini, gPos, sNo, sNil, fBin, Dl.gOr, gEqF, gNeF, litV, scal, sSet, fFun, gI0, gI, fC, endD, endP, fFld, fProp, sRet, fIf, fUn, gNeg, uOr, fAndV, fOrV, fNotV, fIsi, isC, pObj, gAdd0, gCatS, gCatL, fTup, fLst, fFr, Option.bind_some, Option.map_some, Option.bind_none, sPar, sPar3, fIxN, fIxO, isOwn, isL, isOwnL, atI, ixN, sAsg, gT, gsCons, gsNil, gN, gI1, funDivmod, fLenN, fLenO, fCallP, gIx, gAddR, gMulR, sApp, e1, e2, tl, m1]
  · obtain ⟨x, l2, e2, hx, P2⟩ := p_pick P1 hp hp2
    obtain ⟨c, d, rfl, hd, bc, bd⟩ := hps x hx
    have m1 := mul_ok (Z.bT.mono (by omega : 210 * k + 1 ≤ 4000)) (bd.mono (by decide : 200 ≤ 4000))
    have m2 := mul_ok (bc.mono (by decide : 200 ≤ 4000)) (Z.bB.mono (by omega : 200 * k + 1 ≤ 4000))
    have m3 := mul_ok (Z.bB.mono (by omega : 200 * k + 1 ≤ 4000)) (bd.mono (by decide : 200 ≤ 4000))
    have i := @p_init c d hd (bd.mono (by decide))
    have it : Item (mkR c d) c d := ⟨hd, bc, bd, .inl rfl⟩
    refine ⟨l2, told ++ [mkR c d], cs ++ [(c, d)], T * d + c * B, B * d, s6, .val (.tup [.int c, .int d]), ?_, P2, items_app it I, by rw [fT_app, E], Z.next hd bc bd, by simp [hl]⟩
    simp [LB, sSeq, sIf, fNot, fAnd, fOr, fB, fCall, fCons, fNil, fV, ini, gPos, sNo, sNil, fBin, Dl.gOr, gEqF, gNeF, litV, scal, sSet, fFun, gI0, gI, fC, endD, endP, fFld, fProp, sRet, fIf, fUn, gNeg, uOr, fAndV, fOrV, fNotV, fIsi, isC, pObj, gAdd0, gCatS, gCatL, fTup, fLst, fFr, Option.bind_some, Option.map_some, Option.bind_none, sPar, sPar3, fIxN, fIxO, isOwn, isL, isOwnL, atI, ixN, sAsg, gT, gsCons, gsNil, gN, gI1, funDivmod, fLenN, fLenO, fCallP, gIx, gAddR, gMulR, sApp, e1, e2, tl, m1, m2, m3, z, fMake, i]
theorem right_loop {ps : List D} (hps : Pairs ps) (hp : 0 < ps.length) (hp2 : ps.length < 1000) : ∀ (ds : List D) (k : Nat) (l told : List D) (cs : List (Int × Int)) (T B : Int) (s5 s6 s7 : Sl), St8 k l told cs T B → k + ds.length ≤ 4 →
    ∃ (l' told' : List D) (cs' : List (Int × Int)) (T' B' : Int) (s5' s6' s7' : Sl), loopF (gN 5) LB ds [.own .pot l, .val (.lst ps), .val (.int T), .val (.int B), .own .mine told, s5, s6, s7] = some (.nx [.own .pot l', .val (.lst ps), .val (.int T'), .val (.int B'), .own .mine told', s5', s6', s7']) ∧ St8 (k + ds.length) l' told' cs' T' B'
  | [], k, l, told, cs, T, B, s5, s6, s7, S, _ => ⟨l, told, cs, T, B, s5, s6, s7, rfl, S⟩
  | x :: ds, k, l, told, cs, T, B, s5, s6, s7, S, hk => by
    simp only [List.length_cons] at hk
    obtain ⟨l1, t1, c1, T1, B1, a6, a7, e1, S1⟩ := right_step hps hp hp2 S (by omega) (.val x) s6 s7
    obtain ⟨l2, t2, c2, T2, B2, b5, b6, b7, e2, S2⟩ := right_loop hps hp hp2 ds (k + 1) l1 t1 c1 T1 B1 (.val x) a6 a7 S1 (by omega)
    refine ⟨l2, t2, c2, T2, B2, b5, b6, b7, ?_, by rw [List.length_cons, show k + (ds.length + 1) = k + 1 + ds.length by omega]; exact S2⟩
    show ((gN 5 x _).bind fun δ1 => (LB δ1).bind _) = _
    simp only [gN, List.set, Option.bind_some, e1]
    exact e2
theorem p_totals {l ps : List D} (P : Pot l) (hps : Pairs ps) (hp : 0 < ps.length) (hp2 : ps.length < 1000) : ∃ l', G_law_total_right l [.lst ps] = some (.bl true, l') ∧ Pot l' := by
  obtain ⟨r, l1, e1, r0, r1, P1⟩ := p_draw (n := 5) P (by decide) (bd_of 8 (by decide) (by decide) (by decide))
  have S0 : St8 0 l1 [] [] 0 1 := ⟨P1, trivial, rfl, ⟨by decide, by unfold Bd; decide, by unfold Bd; decide⟩, rfl⟩
  obtain ⟨l2, told, cs, T, B, a5, a6, a7, e2, S⟩ := right_loop hps hp hp2 (intsD 0 r.toNat) 0 l1 [] [] 0 1 .un .un .un S0 (by simp [intsD]; omega)
  have hlen : told.length ≤ 4 := by rw [S.len]; simp [intsD]; omega
  obtain ⟨T1, T2⟩ := p_total S.it hlen
  rw [S.eq] at T1 T2
  have J := p_is (a := T) (b := B) S.zb.nz (S.zb.bT.mono (by have := S.len; omega)) (S.zb.bB.mono (by have := S.len; omega))
  refine ⟨l2, ?_, S.pot⟩
  have rr1 : -4611686018427387904 ≤ r := by omega
  have rr2 : r < 4611686018427387904 := by omega
  have tl : told.length ≤ big := by unfold big; omega
  unfold LB gAddR gMulR at e2
  unfold mkR at *
  simp [G_law_total_right, outP, g_law_total_right, sSeq, sIf, fNot, fAnd, fOr, fB, fCall, fCons, fNil, fV, ini, gPos, sNo, sNil, fBin, Dl.gOr, gEqF, gNeF, litV, scal, sSet, fFun, gI0, gI, fC, endD, endP, fFld, fProp, sRet, fIf, fUn, gNeg, uOr, fAndV, fOrV, fNotV, fIsi, isC, pObj, gAdd0, gCatS, gCatL, fTup, fLst, fFr, Option.bind_some, Option.map_some, Option.bind_none, sPar, sPar3, fIxN, fIxO, isOwn, isL, isOwnL, atI, ixN, sAsg, gT, gsCons, gsNil, gN, gI1, funDivmod, fLenN, fLenO, fCallP, gIx, sPar3F, sFor, fRg1, e1] at e2 ⊢
  simp [rr1, rr2, e2, fCM, funTup, T1, T2, J, endP, sSeq, sIf, fNot, fAnd, fOr, fB, fCall, fCons, fNil, fV, ini, gPos, sNo, sNil, fBin, Dl.gOr, gEqF, gNeF, litV, scal, sSet, fFun, gI0, gI, fC, endD, endP, fFld, fProp, sRet, fIf, fUn, gNeg, uOr, fAndV, fOrV, fNotV, fIsi, isC, pObj, gAdd0, gCatS, gCatL, fTup, fLst, fFr, Option.bind_some, Option.map_some, Option.bind_none]
end My
namespace My
open PySem PySem.Spec PyProof.Rows L2 ClX Dl
theorem all_mk {l : PySem.W.OpenLaw} {w : World} {K : PySem.W.Frag} {h : Heap} {mg : Str → Option Value} {fa : Addr} (X : K.In h) (G : h.Ns mainGlobals mg) (hfa : mg "law" = some (.ref fa))
    {C_Ratio a_law_pot a_law_draw a_law_pick a_law_top a_law_whole a_law_pair a_law_common a_is_integer a_is_list a_Ratio_init a_as_ratio a_Ratio_top a_Ratio_bottom a_Ratio_sign a_Ratio_is_whole a_Ratio_eq a_Ratio_str a_Ratio_repr a_Ratio_neg a_Ratio_add a_Ratio_radd a_Ratio_sub a_Ratio_rsub a_Ratio_mul a_Ratio_rmul p_Ratio_sign p_Ratio_top p_Ratio_bottom a_Ratio_over a_Ratio_size a_Ratio_is_below a_Ratio_is_at_most a_Ratio_total p_Ratio_is_whole a_law_is a_law_two_right a_law_whole_right p_Ratio_total a_law_total_right a_law ar_Ratio_add ar_Ratio_sub ar_Ratio_mul ab_Ratio_rmul ab_Ratio_rsub ab_Ratio_radd da_Ratio_init : Addr}
    {rs_Ratio_sign rs_Ratio_top rs_Ratio_bottom rs_Ratio_is_whole rs_Ratio_total : List Value}
    {v1_Ratio_add v2_Ratio_add v1_Ratio_sub v2_Ratio_sub v1_Ratio_mul v2_Ratio_mul : Option Value}
    {od_law_pot an_law_pot od_law_draw an_law_draw od_law_pick an_law_pick od_law_top an_law_top od_law_whole an_law_whole od_law_pair an_law_pair od_law_common an_law_common od_is_integer an_is_integer od_is_list an_is_list od_Ratio_init an_Ratio_init od_as_ratio an_as_ratio od_Ratio_top an_Ratio_top od_Ratio_bottom an_Ratio_bottom od_Ratio_sign an_Ratio_sign od_Ratio_is_whole an_Ratio_is_whole od_Ratio_eq an_Ratio_eq od_Ratio_str an_Ratio_str od_Ratio_repr an_Ratio_repr od_Ratio_neg an_Ratio_neg od_Ratio_add an_Ratio_add od_Ratio_radd an_Ratio_radd od_Ratio_sub an_Ratio_sub od_Ratio_rsub an_Ratio_rsub od_Ratio_mul an_Ratio_mul od_Ratio_rmul an_Ratio_rmul od_Ratio_over an_Ratio_over od_Ratio_size an_Ratio_size od_Ratio_is_below an_Ratio_is_below od_Ratio_is_at_most an_Ratio_is_at_most od_Ratio_total an_Ratio_total od_law_is an_law_is od_law_two_right an_law_two_right od_law_whole_right an_law_whole_right od_law_total_right an_law_total_right od_law an_law : Option Addr}
    {sl_law_pot sl_law_draw sl_law_pick sl_law_top sl_law_whole sl_law_pair sl_law_common sl_is_integer sl_is_list sl_Ratio_init sl_as_ratio sl_Ratio_top sl_Ratio_bottom sl_Ratio_sign sl_Ratio_is_whole sl_Ratio_eq sl_Ratio_str sl_Ratio_repr sl_Ratio_neg sl_Ratio_add sl_Ratio_radd sl_Ratio_sub sl_Ratio_rsub sl_Ratio_mul sl_Ratio_rmul sl_Ratio_over sl_Ratio_size sl_Ratio_is_below sl_Ratio_is_at_most sl_Ratio_total sl_law_is sl_law_two_right sl_law_whole_right sl_law_total_right sl_law : Array (Option Value)}
    {oc_law_pot kV_law_pot dc_law_pot pm_law_pot cd_law_pot ct_law_pot oc_law_draw kV_law_draw dc_law_draw pm_law_draw cd_law_draw ct_law_draw oc_law_pick kV_law_pick dc_law_pick pm_law_pick cd_law_pick ct_law_pick oc_law_top kV_law_top dc_law_top pm_law_top cd_law_top ct_law_top oc_law_whole kV_law_whole dc_law_whole pm_law_whole cd_law_whole ct_law_whole oc_law_pair kV_law_pair dc_law_pair pm_law_pair cd_law_pair ct_law_pair oc_law_common kV_law_common dc_law_common pm_law_common cd_law_common ct_law_common oc_is_integer kV_is_integer dc_is_integer pm_is_integer cd_is_integer ct_is_integer oc_is_list kV_is_list dc_is_list pm_is_list cd_is_list ct_is_list oc_Ratio_init kV_Ratio_init dc_Ratio_init pm_Ratio_init cd_Ratio_init ct_Ratio_init oc_as_ratio kV_as_ratio dc_as_ratio pm_as_ratio cd_as_ratio ct_as_ratio oc_Ratio_top kV_Ratio_top dc_Ratio_top pm_Ratio_top cd_Ratio_top ct_Ratio_top oc_Ratio_bottom kV_Ratio_bottom dc_Ratio_bottom pm_Ratio_bottom cd_Ratio_bottom ct_Ratio_bottom oc_Ratio_sign kV_Ratio_sign dc_Ratio_sign pm_Ratio_sign cd_Ratio_sign ct_Ratio_sign oc_Ratio_is_whole kV_Ratio_is_whole dc_Ratio_is_whole pm_Ratio_is_whole cd_Ratio_is_whole ct_Ratio_is_whole oc_Ratio_eq kV_Ratio_eq dc_Ratio_eq pm_Ratio_eq cd_Ratio_eq ct_Ratio_eq oc_Ratio_str kV_Ratio_str dc_Ratio_str pm_Ratio_str cd_Ratio_str ct_Ratio_str oc_Ratio_repr kV_Ratio_repr dc_Ratio_repr pm_Ratio_repr cd_Ratio_repr ct_Ratio_repr oc_Ratio_neg kV_Ratio_neg dc_Ratio_neg pm_Ratio_neg cd_Ratio_neg ct_Ratio_neg oc_Ratio_add kV_Ratio_add dc_Ratio_add pm_Ratio_add cd_Ratio_add ct_Ratio_add oc_Ratio_radd kV_Ratio_radd dc_Ratio_radd pm_Ratio_radd cd_Ratio_radd ct_Ratio_radd oc_Ratio_sub kV_Ratio_sub dc_Ratio_sub pm_Ratio_sub cd_Ratio_sub ct_Ratio_sub oc_Ratio_rsub kV_Ratio_rsub dc_Ratio_rsub pm_Ratio_rsub cd_Ratio_rsub ct_Ratio_rsub oc_Ratio_mul kV_Ratio_mul dc_Ratio_mul pm_Ratio_mul cd_Ratio_mul ct_Ratio_mul oc_Ratio_rmul kV_Ratio_rmul dc_Ratio_rmul pm_Ratio_rmul cd_Ratio_rmul ct_Ratio_rmul oc_Ratio_over kV_Ratio_over dc_Ratio_over pm_Ratio_over cd_Ratio_over ct_Ratio_over oc_Ratio_size kV_Ratio_size dc_Ratio_size pm_Ratio_size cd_Ratio_size ct_Ratio_size oc_Ratio_is_below kV_Ratio_is_below dc_Ratio_is_below pm_Ratio_is_below cd_Ratio_is_below ct_Ratio_is_below oc_Ratio_is_at_most kV_Ratio_is_at_most dc_Ratio_is_at_most pm_Ratio_is_at_most cd_Ratio_is_at_most ct_Ratio_is_at_most oc_Ratio_total kV_Ratio_total dc_Ratio_total pm_Ratio_total cd_Ratio_total ct_Ratio_total oc_law_is kV_law_is dc_law_is pm_law_is cd_law_is ct_law_is oc_law_two_right kV_law_two_right dc_law_two_right pm_law_two_right cd_law_two_right ct_law_two_right oc_law_whole_right kV_law_whole_right dc_law_whole_right pm_law_whole_right cd_law_whole_right ct_law_whole_right oc_law_total_right kV_law_total_right dc_law_total_right pm_law_total_right cd_law_total_right ct_law_total_right oc_law kV_law dc_law pm_law cd_law ct_law : Value}
    {do_Ratio_init : Obj}
    {dm_Ratio_init : Nat}
    {dt0_Ratio_init : Tok}
    (h_n_int : PySem.W.nsIn K mainGlobals "int" = some none)
    (h_n_max : PySem.W.nsIn K mainGlobals "max" = some none)
    (h_n_len : PySem.W.nsIn K mainGlobals "len" = some none)
    (h_n_abs : PySem.W.nsIn K mainGlobals "abs" = some none)
    (h_n_divmod : PySem.W.nsIn K mainGlobals "divmod" = some none)
    (h_m_law_draw : PySem.W.nsIn K mainGlobals "_law_draw" = some (some (.ref a_law_draw)))
    (h_n_range : PySem.W.nsIn K mainGlobals "range" = some none)
    (h_m_law_top : PySem.W.nsIn K mainGlobals "_law_top" = some (some (.ref a_law_top)))
    (h_n_isinstance : PySem.W.nsIn K mainGlobals "isinstance" = some none)
    (h_n_bool : PySem.W.nsIn K mainGlobals "bool" = some none)
    (h_n_list : PySem.W.nsIn K mainGlobals "list" = some none)
    (h_n_tuple : PySem.W.nsIn K mainGlobals "tuple" = some none)
    (h_m_is_integer : PySem.W.nsIn K mainGlobals "is_integer" = some (some (.ref a_is_integer)))
    (h_m_gcd : PySem.W.nsIn K mainGlobals "gcd" = some (some (.builtin "math.gcd")))
    (h_m_Ratio : PySem.W.nsIn K mainGlobals "Ratio" = some (some (.ref C_Ratio)))
    (h_n_str : PySem.W.nsIn K mainGlobals "str" = some none)
    (h_m_as_ratio : PySem.W.nsIn K mainGlobals "as_ratio" = some (some (.ref a_as_ratio)))
    (h_m_is_list : PySem.W.nsIn K mainGlobals "is_list" = some (some (.ref a_is_list)))
    (h_m_law_common : PySem.W.nsIn K mainGlobals "_law_common" = some (some (.ref a_law_common)))
    (h_n_repr : PySem.W.nsIn K mainGlobals "repr" = some none)
    (h_m_law_is : PySem.W.nsIn K mainGlobals "_law_is" = some (some (.ref a_law_is)))
    (h_m_law_whole : PySem.W.nsIn K mainGlobals "_law_whole" = some (some (.ref a_law_whole)))
    (h_m_law_pick : PySem.W.nsIn K mainGlobals "_law_pick" = some (some (.ref a_law_pick)))
    (h_m_law_pot : PySem.W.nsIn K mainGlobals "_law_pot" = some (some (.ref a_law_pot)))
    (h_m_law_pair : PySem.W.nsIn K mainGlobals "_law_pair" = some (some (.ref a_law_pair)))
    (h_m_law_two_right : PySem.W.nsIn K mainGlobals "_law_two_right" = some (some (.ref a_law_two_right)))
    (h_n_all : PySem.W.nsIn K mainGlobals "all" = some none)
    (h_m_law_whole_right : PySem.W.nsIn K mainGlobals "_law_whole_right" = some (some (.ref a_law_whole_right)))
    (h_m_law_total_right : PySem.W.nsIn K mainGlobals "_law_total_right" = some (some (.ref a_law_total_right)))
    (h_law : PySem.W.nsIn K mainGlobals "law" = some (some (.ref a_law)))
    (mk1_mk_Ratio : PySem.W.makesIn K C_Ratio = true)
    (f_Ratio_init : PySem.W.findIn K (.ref C_Ratio) "__init__" = some (some (.ref a_Ratio_init)))
    (g_Ratio_init : PySem.W.isFn K (.ref a_Ratio_init) = true)
    (mk2_mk_Ratio : PySem.W.keepIn K (.ref C_Ratio) = true)
    (f_Ratio_sign : PySem.W.findIn K (.ref C_Ratio) "sign" = some (some (.ref p_Ratio_sign)))
    (pg_Ratio_sign : PySem.W.specialIn K (.ref p_Ratio_sign) "__get__" = some (some (.builtin "property.__get__")))
    (pt_Ratio_sign : PySem.W.takesIn K (.ref p_Ratio_sign) = some true)
    (pc_Ratio_sign : PySem.W.recIn K p_Ratio_sign "property" = some (.ref a_Ratio_sign :: rs_Ratio_sign))
    (f_Ratio_top : PySem.W.findIn K (.ref C_Ratio) "top" = some (some (.ref p_Ratio_top)))
    (pg_Ratio_top : PySem.W.specialIn K (.ref p_Ratio_top) "__get__" = some (some (.builtin "property.__get__")))
    (pt_Ratio_top : PySem.W.takesIn K (.ref p_Ratio_top) = some true)
    (pc_Ratio_top : PySem.W.recIn K p_Ratio_top "property" = some (.ref a_Ratio_top :: rs_Ratio_top))
    (f_Ratio_bottom : PySem.W.findIn K (.ref C_Ratio) "bottom" = some (some (.ref p_Ratio_bottom)))
    (pg_Ratio_bottom : PySem.W.specialIn K (.ref p_Ratio_bottom) "__get__" = some (some (.builtin "property.__get__")))
    (pt_Ratio_bottom : PySem.W.takesIn K (.ref p_Ratio_bottom) = some true)
    (pc_Ratio_bottom : PySem.W.recIn K p_Ratio_bottom "property" = some (.ref a_Ratio_bottom :: rs_Ratio_bottom))
    (f_Ratio_is_whole : PySem.W.findIn K (.ref C_Ratio) "is_whole" = some (some (.ref p_Ratio_is_whole)))
    (pg_Ratio_is_whole : PySem.W.specialIn K (.ref p_Ratio_is_whole) "__get__" = some (some (.builtin "property.__get__")))
    (pt_Ratio_is_whole : PySem.W.takesIn K (.ref p_Ratio_is_whole) = some true)
    (pc_Ratio_is_whole : PySem.W.recIn K p_Ratio_is_whole "property" = some (.ref a_Ratio_is_whole :: rs_Ratio_is_whole))
    (f_Ratio_size : PySem.W.findIn K (.ref C_Ratio) "size" = some (some (.ref a_Ratio_size)))
    (g_Ratio_size : PySem.W.isFn K (.ref a_Ratio_size) = true)
    (f_Ratio_over : PySem.W.findIn K (.ref C_Ratio) "over" = some (some (.ref a_Ratio_over)))
    (g_Ratio_over : PySem.W.isFn K (.ref a_Ratio_over) = true)
    (f_Ratio_is_below : PySem.W.findIn K (.ref C_Ratio) "is_below" = some (some (.ref a_Ratio_is_below)))
    (g_Ratio_is_below : PySem.W.isFn K (.ref a_Ratio_is_below) = true)
    (f_Ratio_is_at_most : PySem.W.findIn K (.ref C_Ratio) "is_at_most" = some (some (.ref a_Ratio_is_at_most)))
    (g_Ratio_is_at_most : PySem.W.isFn K (.ref a_Ratio_is_at_most) = true)
    (ca_ca : PySem.W.findIn K (.ref C_Ratio) "__class__" = some (some (.builtin "object.__class__")))
    (ca_cn : PySem.W.specialIn K (.builtin "object.__class__") "__get__" = some (some (.builtin "getset_descriptor.__get__")))
    (ca_ct : PySem.W.takesIn K (.builtin "object.__class__") = some true)
    (ca_cm : PySem.W.mroIn K C_Ratio (.type "object") = some true)
    (cl1_C_Ratio : PySem.W.plainGet K C_Ratio Str.empty = true)
    (cl2_C_Ratio : PySem.W.hasDictIn K C_Ratio = true)
    (cl3_C_Ratio : PySem.W.plainOver K C_Ratio = true)
    (cl4_C_Ratio : PySem.W.findIn K (.ref C_Ratio) "__setattr__" = some (some (.builtin "object.__setattr__")))
    (i_int_obj : PySem.W.subIn K (.ref C_Ratio) (.type "int") = some false)
    (i_bool_obj : PySem.W.subIn K (.ref C_Ratio) (.type "bool") = some false)
    (i_list_obj : PySem.W.subIn K (.ref C_Ratio) (.type "list") = some false)
    (i_tuple_obj : PySem.W.subIn K (.ref C_Ratio) (.type "tuple") = some false)
    (h_na_Ratio_top : PySem.W.findIn K (.ref C_Ratio) "_top" = some none)
    (h_na_Ratio_bottom : PySem.W.findIn K (.ref C_Ratio) "_bottom" = some none)
    (ic_C_Ratio : PySem.W.isClsIn K C_Ratio = true)
    (it_C_Ratio : PySem.W.typeIn K (.ref C_Ratio) = some (.type "type"))
    (i_Ratio_NoneType : PySem.W.subIn K (.type "NoneType") (.ref C_Ratio) = some false)
    (i_Ratio_bool : PySem.W.subIn K (.type "bool") (.ref C_Ratio) = some false)
    (i_Ratio_int : PySem.W.subIn K (.type "int") (.ref C_Ratio) = some false)
    (i_Ratio_str : PySem.W.subIn K (.type "str") (.ref C_Ratio) = some false)
    (i_Ratio_list : PySem.W.subIn K (.type "list") (.ref C_Ratio) = some false)
    (i_Ratio_tuple : PySem.W.subIn K (.type "tuple") (.ref C_Ratio) = some false)
    (h_e_Ratio_eq : PySem.W.findIn K (.ref C_Ratio) "__eq__" = some (some (.ref a_Ratio_eq)))
    (h_ef_Ratio_eq : PySem.W.isFn K (.ref a_Ratio_eq) = true)
    (tp_Ratio_NoneType : PySem.W.notFirst K C_Ratio (.type "NoneType") = true)
    (tp_Ratio_bool : PySem.W.notFirst K C_Ratio (.type "bool") = true)
    (tp_Ratio_int : PySem.W.notFirst K C_Ratio (.type "int") = true)
    (tp_Ratio_str : PySem.W.notFirst K C_Ratio (.type "str") = true)
    (tp_Ratio_list : PySem.W.notFirst K C_Ratio (.type "list") = true)
    (tp_Ratio_tuple : PySem.W.notFirst K C_Ratio (.type "tuple") = true)
    (tp_Ratio_obj : PySem.W.notFirst K C_Ratio (.ref C_Ratio) = true)
    (sf_C_Ratio : PySem.W.selfFirst K C_Ratio = true)
    (f_Ratio_add : PySem.W.findIn K (.ref C_Ratio) "__add__" = some (some (.ref a_Ratio_add)))
    (g_Ratio_add : PySem.W.isFn K (.ref a_Ratio_add) = true)
    (fr_Ratio_add : PySem.W.findIn K (.ref C_Ratio) "__radd__" = some (some (.ref ar_Ratio_add)))
    (i1_Ratio_add : PySem.W.findIn K (.type "int") "__add__" = some v1_Ratio_add)
    (i2_Ratio_add : PySem.W.findIn K (.type "int") "__radd__" = some v2_Ratio_add)
    (is_C_Ratio : PySem.W.subIn K (.type "int") (.ref C_Ratio) = some false)
    (f_Ratio_sub : PySem.W.findIn K (.ref C_Ratio) "__sub__" = some (some (.ref a_Ratio_sub)))
    (g_Ratio_sub : PySem.W.isFn K (.ref a_Ratio_sub) = true)
    (fr_Ratio_sub : PySem.W.findIn K (.ref C_Ratio) "__rsub__" = some (some (.ref ar_Ratio_sub)))
    (i1_Ratio_sub : PySem.W.findIn K (.type "int") "__sub__" = some v1_Ratio_sub)
    (i2_Ratio_sub : PySem.W.findIn K (.type "int") "__rsub__" = some v2_Ratio_sub)
    (f_Ratio_mul : PySem.W.findIn K (.ref C_Ratio) "__mul__" = some (some (.ref a_Ratio_mul)))
    (g_Ratio_mul : PySem.W.isFn K (.ref a_Ratio_mul) = true)
    (fr_Ratio_mul : PySem.W.findIn K (.ref C_Ratio) "__rmul__" = some (some (.ref ar_Ratio_mul)))
    (i1_Ratio_mul : PySem.W.findIn K (.type "int") "__mul__" = some v1_Ratio_mul)
    (i2_Ratio_mul : PySem.W.findIn K (.type "int") "__rmul__" = some v2_Ratio_mul)
    (fb_Ratio_rmul : PySem.W.findIn K (.ref C_Ratio) "__mul__" = some (some (.ref ab_Ratio_rmul)))
    (f_Ratio_rmul : PySem.W.findIn K (.ref C_Ratio) "__rmul__" = some (some (.ref a_Ratio_rmul)))
    (g_Ratio_rmul : PySem.W.isFn K (.ref a_Ratio_rmul) = true)
    (si_C_Ratio : PySem.W.subIn K (.ref C_Ratio) (.type "int") = some false)
    (fb_Ratio_rsub : PySem.W.findIn K (.ref C_Ratio) "__sub__" = some (some (.ref ab_Ratio_rsub)))
    (f_Ratio_rsub : PySem.W.findIn K (.ref C_Ratio) "__rsub__" = some (some (.ref a_Ratio_rsub)))
    (g_Ratio_rsub : PySem.W.isFn K (.ref a_Ratio_rsub) = true)
    (fb_Ratio_radd : PySem.W.findIn K (.ref C_Ratio) "__add__" = some (some (.ref ab_Ratio_radd)))
    (f_Ratio_radd : PySem.W.findIn K (.ref C_Ratio) "__radd__" = some (some (.ref a_Ratio_radd)))
    (g_Ratio_radd : PySem.W.isFn K (.ref a_Ratio_radd) = true)
    (h_ne_Ratio_eq : PySem.W.findIn K (.ref C_Ratio) "__ne__" = some (some (.builtin "object.__ne__")))
    (h_ob_Ratio : PySem.W.subIn K (.ref C_Ratio) (.type "object") = some true)
    (h_s_Ratio_str : PySem.W.findIn K (.ref C_Ratio) "__str__" = some (some (.ref a_Ratio_str)))
    (h_sf_Ratio_str : PySem.W.isFn K (.ref a_Ratio_str) = true)
    (h_s_Ratio_repr : PySem.W.findIn K (.ref C_Ratio) "__repr__" = some (some (.ref a_Ratio_repr)))
    (h_sf_Ratio_repr : PySem.W.isFn K (.ref a_Ratio_repr) = true)
    (h_u_Ratio_neg : PySem.W.findIn K (.ref C_Ratio) "__neg__" = some (some (.ref a_Ratio_neg)))
    (h_uf_Ratio_neg : PySem.W.isFn K (.ref a_Ratio_neg) = true)
    (cr1_cr_Ratio : PySem.W.readsIn K C_Ratio (.type "type") = true)
    (cr2_cr_Ratio : PySem.W.specialIn K (.ref C_Ratio) "__getattribute__" = some (some (.builtin "type.__getattribute__")))
    (cm1_cm_Ratio_total : PySem.W.findCls K (.ref C_Ratio) (.type "type") "total" = some (.get (.builtin "classmethod.__get__") (.ref p_Ratio_total) .none (.ref C_Ratio)))
    (cm2_cm_Ratio_total : PySem.W.recIn K p_Ratio_total "classmethod" = some (.ref a_Ratio_total :: rs_Ratio_total))
    (cm3_cm_Ratio_total : PySem.W.fnIn K a_Ratio_total = true)
    (l_law_pot : K.lookup a_law_pot = some ⟨oc_law_pot, od_law_pot, .func (PySem.W.fnOf "_law_pot" "_law_pot" (defArgs s_law_pot) (defBody s_law_pot) (defScope s_law_pot) .none kV_law_pot dc_law_pot pm_law_pot an_law_pot cd_law_pot ct_law_pot), sl_law_pot⟩)
    (c_law_pot : PySem.W.codeIn K cd_law_pot "_law_pot" = true)
    (k_law_pot : PySem.W.keepIn K (.ref a_law_pot) = true)
    (l_law_draw : K.lookup a_law_draw = some ⟨oc_law_draw, od_law_draw, .func (PySem.W.fnOf "_law_draw" "_law_draw" (defArgs s_law_draw) (defBody s_law_draw) (defScope s_law_draw) .none kV_law_draw dc_law_draw pm_law_draw an_law_draw cd_law_draw ct_law_draw), sl_law_draw⟩)
    (c_law_draw : PySem.W.codeIn K cd_law_draw "_law_draw" = true)
    (k_law_draw : PySem.W.keepIn K (.ref a_law_draw) = true)
    (l_law_pick : K.lookup a_law_pick = some ⟨oc_law_pick, od_law_pick, .func (PySem.W.fnOf "_law_pick" "_law_pick" (defArgs s_law_pick) (defBody s_law_pick) (defScope s_law_pick) .none kV_law_pick dc_law_pick pm_law_pick an_law_pick cd_law_pick ct_law_pick), sl_law_pick⟩)
    (c_law_pick : PySem.W.codeIn K cd_law_pick "_law_pick" = true)
    (k_law_pick : PySem.W.keepIn K (.ref a_law_pick) = true)
    (l_law_top : K.lookup a_law_top = some ⟨oc_law_top, od_law_top, .func (PySem.W.fnOf "_law_top" "_law_top" (defArgs s_law_top) (defBody s_law_top) (defScope s_law_top) .none kV_law_top dc_law_top pm_law_top an_law_top cd_law_top ct_law_top), sl_law_top⟩)
    (c_law_top : PySem.W.codeIn K cd_law_top "_law_top" = true)
    (k_law_top : PySem.W.keepIn K (.ref a_law_top) = true)
    (l_law_whole : K.lookup a_law_whole = some ⟨oc_law_whole, od_law_whole, .func (PySem.W.fnOf "_law_whole" "_law_whole" (defArgs s_law_whole) (defBody s_law_whole) (defScope s_law_whole) .none kV_law_whole dc_law_whole pm_law_whole an_law_whole cd_law_whole ct_law_whole), sl_law_whole⟩)
    (c_law_whole : PySem.W.codeIn K cd_law_whole "_law_whole" = true)
    (k_law_whole : PySem.W.keepIn K (.ref a_law_whole) = true)
    (l_law_pair : K.lookup a_law_pair = some ⟨oc_law_pair, od_law_pair, .func (PySem.W.fnOf "_law_pair" "_law_pair" (defArgs s_law_pair) (defBody s_law_pair) (defScope s_law_pair) .none kV_law_pair dc_law_pair pm_law_pair an_law_pair cd_law_pair ct_law_pair), sl_law_pair⟩)
    (c_law_pair : PySem.W.codeIn K cd_law_pair "_law_pair" = true)
    (k_law_pair : PySem.W.keepIn K (.ref a_law_pair) = true)
    (l_law_common : K.lookup a_law_common = some ⟨oc_law_common, od_law_common, .func (PySem.W.fnOf "_law_common" "_law_common" (defArgs s_law_common) (defBody s_law_common) (defScope s_law_common) .none kV_law_common dc_law_common pm_law_common an_law_common cd_law_common ct_law_common), sl_law_common⟩)
    (c_law_common : PySem.W.codeIn K cd_law_common "_law_common" = true)
    (k_law_common : PySem.W.keepIn K (.ref a_law_common) = true)
    (l_is_integer : K.lookup a_is_integer = some ⟨oc_is_integer, od_is_integer, .func (PySem.W.fnOf "is_integer" "is_integer" (defArgs s_is_integer) (defBody s_is_integer) (defScope s_is_integer) .none kV_is_integer dc_is_integer pm_is_integer an_is_integer cd_is_integer ct_is_integer), sl_is_integer⟩)
    (c_is_integer : PySem.W.codeIn K cd_is_integer "is_integer" = true)
    (k_is_integer : PySem.W.keepIn K (.ref a_is_integer) = true)
    (l_is_list : K.lookup a_is_list = some ⟨oc_is_list, od_is_list, .func (PySem.W.fnOf "is_list" "is_list" (defArgs s_is_list) (defBody s_is_list) (defScope s_is_list) .none kV_is_list dc_is_list pm_is_list an_is_list cd_is_list ct_is_list), sl_is_list⟩)
    (c_is_list : PySem.W.codeIn K cd_is_list "is_list" = true)
    (k_is_list : PySem.W.keepIn K (.ref a_is_list) = true)
    (l_Ratio_init : K.lookup a_Ratio_init = some ⟨oc_Ratio_init, od_Ratio_init, .func (PySem.W.fnOf "__init__" "Ratio.__init__" (defArgs s_Ratio_init) (defBody s_Ratio_init) (defScope s_Ratio_init) (.ref da_Ratio_init) kV_Ratio_init dc_Ratio_init pm_Ratio_init an_Ratio_init cd_Ratio_init ct_Ratio_init), sl_Ratio_init⟩)
    (c_Ratio_init : PySem.W.codeIn K cd_Ratio_init "Ratio.__init__" = true)
    (k_Ratio_init : PySem.W.keepIn K (.ref a_Ratio_init) = true)
    (dl_Ratio_init : K.lookup da_Ratio_init = some do_Ratio_init)
    (dd_Ratio_init : do_Ratio_init.data = .seq ([.int 1 dt0_Ratio_init] : List Value).toArray dm_Ratio_init)
    (l_as_ratio : K.lookup a_as_ratio = some ⟨oc_as_ratio, od_as_ratio, .func (PySem.W.fnOf "as_ratio" "as_ratio" (defArgs s_as_ratio) (defBody s_as_ratio) (defScope s_as_ratio) .none kV_as_ratio dc_as_ratio pm_as_ratio an_as_ratio cd_as_ratio ct_as_ratio), sl_as_ratio⟩)
    (c_as_ratio : PySem.W.codeIn K cd_as_ratio "as_ratio" = true)
    (k_as_ratio : PySem.W.keepIn K (.ref a_as_ratio) = true)
    (l_Ratio_top : K.lookup a_Ratio_top = some ⟨oc_Ratio_top, od_Ratio_top, .func (PySem.W.fnOf "top" "Ratio.top" (defArgs s_Ratio_top) (defBody s_Ratio_top) (defScope s_Ratio_top) .none kV_Ratio_top dc_Ratio_top pm_Ratio_top an_Ratio_top cd_Ratio_top ct_Ratio_top), sl_Ratio_top⟩)
    (c_Ratio_top : PySem.W.codeIn K cd_Ratio_top "Ratio.top" = true)
    (k_Ratio_top : PySem.W.keepIn K (.ref a_Ratio_top) = true)
    (l_Ratio_bottom : K.lookup a_Ratio_bottom = some ⟨oc_Ratio_bottom, od_Ratio_bottom, .func (PySem.W.fnOf "bottom" "Ratio.bottom" (defArgs s_Ratio_bottom) (defBody s_Ratio_bottom) (defScope s_Ratio_bottom) .none kV_Ratio_bottom dc_Ratio_bottom pm_Ratio_bottom an_Ratio_bottom cd_Ratio_bottom ct_Ratio_bottom), sl_Ratio_bottom⟩)
    (c_Ratio_bottom : PySem.W.codeIn K cd_Ratio_bottom "Ratio.bottom" = true)
    (k_Ratio_bottom : PySem.W.keepIn K (.ref a_Ratio_bottom) = true)
    (l_Ratio_sign : K.lookup a_Ratio_sign = some ⟨oc_Ratio_sign, od_Ratio_sign, .func (PySem.W.fnOf "sign" "Ratio.sign" (defArgs s_Ratio_sign) (defBody s_Ratio_sign) (defScope s_Ratio_sign) .none kV_Ratio_sign dc_Ratio_sign pm_Ratio_sign an_Ratio_sign cd_Ratio_sign ct_Ratio_sign), sl_Ratio_sign⟩)
    (c_Ratio_sign : PySem.W.codeIn K cd_Ratio_sign "Ratio.sign" = true)
    (k_Ratio_sign : PySem.W.keepIn K (.ref a_Ratio_sign) = true)
    (l_Ratio_is_whole : K.lookup a_Ratio_is_whole = some ⟨oc_Ratio_is_whole, od_Ratio_is_whole, .func (PySem.W.fnOf "is_whole" "Ratio.is_whole" (defArgs s_Ratio_is_whole) (defBody s_Ratio_is_whole) (defScope s_Ratio_is_whole) .none kV_Ratio_is_whole dc_Ratio_is_whole pm_Ratio_is_whole an_Ratio_is_whole cd_Ratio_is_whole ct_Ratio_is_whole), sl_Ratio_is_whole⟩)
    (c_Ratio_is_whole : PySem.W.codeIn K cd_Ratio_is_whole "Ratio.is_whole" = true)
    (k_Ratio_is_whole : PySem.W.keepIn K (.ref a_Ratio_is_whole) = true)
    (l_Ratio_eq : K.lookup a_Ratio_eq = some ⟨oc_Ratio_eq, od_Ratio_eq, .func (PySem.W.fnOf "__eq__" "Ratio.__eq__" (defArgs s_Ratio_eq) (defBody s_Ratio_eq) (defScope s_Ratio_eq) .none kV_Ratio_eq dc_Ratio_eq pm_Ratio_eq an_Ratio_eq cd_Ratio_eq ct_Ratio_eq), sl_Ratio_eq⟩)
    (c_Ratio_eq : PySem.W.codeIn K cd_Ratio_eq "Ratio.__eq__" = true)
    (k_Ratio_eq : PySem.W.keepIn K (.ref a_Ratio_eq) = true)
    (l_Ratio_str : K.lookup a_Ratio_str = some ⟨oc_Ratio_str, od_Ratio_str, .func (PySem.W.fnOf "__str__" "Ratio.__str__" (defArgs s_Ratio_str) (defBody s_Ratio_str) (defScope s_Ratio_str) .none kV_Ratio_str dc_Ratio_str pm_Ratio_str an_Ratio_str cd_Ratio_str ct_Ratio_str), sl_Ratio_str⟩)
    (c_Ratio_str : PySem.W.codeIn K cd_Ratio_str "Ratio.__str__" = true)
    (k_Ratio_str : PySem.W.keepIn K (.ref a_Ratio_str) = true)
    (l_Ratio_repr : K.lookup a_Ratio_repr = some ⟨oc_Ratio_repr, od_Ratio_repr, .func (PySem.W.fnOf "__repr__" "Ratio.__repr__" (defArgs s_Ratio_repr) (defBody s_Ratio_repr) (defScope s_Ratio_repr) .none kV_Ratio_repr dc_Ratio_repr pm_Ratio_repr an_Ratio_repr cd_Ratio_repr ct_Ratio_repr), sl_Ratio_repr⟩)
    (c_Ratio_repr : PySem.W.codeIn K cd_Ratio_repr "Ratio.__repr__" = true)
    (k_Ratio_repr : PySem.W.keepIn K (.ref a_Ratio_repr) = true)
    (l_Ratio_neg : K.lookup a_Ratio_neg = some ⟨oc_Ratio_neg, od_Ratio_neg, .func (PySem.W.fnOf "__neg__" "Ratio.__neg__" (defArgs s_Ratio_neg) (defBody s_Ratio_neg) (defScope s_Ratio_neg) .none kV_Ratio_neg dc_Ratio_neg pm_Ratio_neg an_Ratio_neg cd_Ratio_neg ct_Ratio_neg), sl_Ratio_neg⟩)
    (c_Ratio_neg : PySem.W.codeIn K cd_Ratio_neg "Ratio.__neg__" = true)
    (k_Ratio_neg : PySem.W.keepIn K (.ref a_Ratio_neg) = true)
    (l_Ratio_add : K.lookup a_Ratio_add = some ⟨oc_Ratio_add, od_Ratio_add, .func (PySem.W.fnOf "__add__" "Ratio.__add__" (defArgs s_Ratio_add) (defBody s_Ratio_add) (defScope s_Ratio_add) .none kV_Ratio_add dc_Ratio_add pm_Ratio_add an_Ratio_add cd_Ratio_add ct_Ratio_add), sl_Ratio_add⟩)
    (c_Ratio_add : PySem.W.codeIn K cd_Ratio_add "Ratio.__add__" = true)
    (k_Ratio_add : PySem.W.keepIn K (.ref a_Ratio_add) = true)
    (l_Ratio_radd : K.lookup a_Ratio_radd = some ⟨oc_Ratio_radd, od_Ratio_radd, .func (PySem.W.fnOf "__radd__" "Ratio.__radd__" (defArgs s_Ratio_radd) (defBody s_Ratio_radd) (defScope s_Ratio_radd) .none kV_Ratio_radd dc_Ratio_radd pm_Ratio_radd an_Ratio_radd cd_Ratio_radd ct_Ratio_radd), sl_Ratio_radd⟩)
    (c_Ratio_radd : PySem.W.codeIn K cd_Ratio_radd "Ratio.__radd__" = true)
    (k_Ratio_radd : PySem.W.keepIn K (.ref a_Ratio_radd) = true)
    (l_Ratio_sub : K.lookup a_Ratio_sub = some ⟨oc_Ratio_sub, od_Ratio_sub, .func (PySem.W.fnOf "__sub__" "Ratio.__sub__" (defArgs s_Ratio_sub) (defBody s_Ratio_sub) (defScope s_Ratio_sub) .none kV_Ratio_sub dc_Ratio_sub pm_Ratio_sub an_Ratio_sub cd_Ratio_sub ct_Ratio_sub), sl_Ratio_sub⟩)
    (c_Ratio_sub : PySem.W.codeIn K cd_Ratio_sub "Ratio.__sub__" = true)
    (k_Ratio_sub : PySem.W.keepIn K (.ref a_Ratio_sub) = true)
    (l_Ratio_rsub : K.lookup a_Ratio_rsub = some ⟨oc_Ratio_rsub, od_Ratio_rsub, .func (PySem.W.fnOf "__rsub__" "Ratio.__rsub__" (defArgs s_Ratio_rsub) (defBody s_Ratio_rsub) (defScope s_Ratio_rsub) .none kV_Ratio_rsub dc_Ratio_rsub pm_Ratio_rsub an_Ratio_rsub cd_Ratio_rsub ct_Ratio_rsub), sl_Ratio_rsub⟩)
    (c_Ratio_rsub : PySem.W.codeIn K cd_Ratio_rsub "Ratio.__rsub__" = true)
    (k_Ratio_rsub : PySem.W.keepIn K (.ref a_Ratio_rsub) = true)
    (l_Ratio_mul : K.lookup a_Ratio_mul = some ⟨oc_Ratio_mul, od_Ratio_mul, .func (PySem.W.fnOf "__mul__" "Ratio.__mul__" (defArgs s_Ratio_mul) (defBody s_Ratio_mul) (defScope s_Ratio_mul) .none kV_Ratio_mul dc_Ratio_mul pm_Ratio_mul an_Ratio_mul cd_Ratio_mul ct_Ratio_mul), sl_Ratio_mul⟩)
    (c_Ratio_mul : PySem.W.codeIn K cd_Ratio_mul "Ratio.__mul__" = true)
    (k_Ratio_mul : PySem.W.keepIn K (.ref a_Ratio_mul) = true)
    (l_Ratio_rmul : K.lookup a_Ratio_rmul = some ⟨oc_Ratio_rmul, od_Ratio_rmul, .func (PySem.W.fnOf "__rmul__" "Ratio.__rmul__" (defArgs s_Ratio_rmul) (defBody s_Ratio_rmul) (defScope s_Ratio_rmul) .none kV_Ratio_rmul dc_Ratio_rmul pm_Ratio_rmul an_Ratio_rmul cd_Ratio_rmul ct_Ratio_rmul), sl_Ratio_rmul⟩)
    (c_Ratio_rmul : PySem.W.codeIn K cd_Ratio_rmul "Ratio.__rmul__" = true)
    (k_Ratio_rmul : PySem.W.keepIn K (.ref a_Ratio_rmul) = true)
    (l_Ratio_over : K.lookup a_Ratio_over = some ⟨oc_Ratio_over, od_Ratio_over, .func (PySem.W.fnOf "over" "Ratio.over" (defArgs s_Ratio_over) (defBody s_Ratio_over) (defScope s_Ratio_over) .none kV_Ratio_over dc_Ratio_over pm_Ratio_over an_Ratio_over cd_Ratio_over ct_Ratio_over), sl_Ratio_over⟩)
    (c_Ratio_over : PySem.W.codeIn K cd_Ratio_over "Ratio.over" = true)
    (k_Ratio_over : PySem.W.keepIn K (.ref a_Ratio_over) = true)
    (l_Ratio_size : K.lookup a_Ratio_size = some ⟨oc_Ratio_size, od_Ratio_size, .func (PySem.W.fnOf "size" "Ratio.size" (defArgs s_Ratio_size) (defBody s_Ratio_size) (defScope s_Ratio_size) .none kV_Ratio_size dc_Ratio_size pm_Ratio_size an_Ratio_size cd_Ratio_size ct_Ratio_size), sl_Ratio_size⟩)
    (c_Ratio_size : PySem.W.codeIn K cd_Ratio_size "Ratio.size" = true)
    (k_Ratio_size : PySem.W.keepIn K (.ref a_Ratio_size) = true)
    (l_Ratio_is_below : K.lookup a_Ratio_is_below = some ⟨oc_Ratio_is_below, od_Ratio_is_below, .func (PySem.W.fnOf "is_below" "Ratio.is_below" (defArgs s_Ratio_is_below) (defBody s_Ratio_is_below) (defScope s_Ratio_is_below) .none kV_Ratio_is_below dc_Ratio_is_below pm_Ratio_is_below an_Ratio_is_below cd_Ratio_is_below ct_Ratio_is_below), sl_Ratio_is_below⟩)
    (c_Ratio_is_below : PySem.W.codeIn K cd_Ratio_is_below "Ratio.is_below" = true)
    (k_Ratio_is_below : PySem.W.keepIn K (.ref a_Ratio_is_below) = true)
    (l_Ratio_is_at_most : K.lookup a_Ratio_is_at_most = some ⟨oc_Ratio_is_at_most, od_Ratio_is_at_most, .func (PySem.W.fnOf "is_at_most" "Ratio.is_at_most" (defArgs s_Ratio_is_at_most) (defBody s_Ratio_is_at_most) (defScope s_Ratio_is_at_most) .none kV_Ratio_is_at_most dc_Ratio_is_at_most pm_Ratio_is_at_most an_Ratio_is_at_most cd_Ratio_is_at_most ct_Ratio_is_at_most), sl_Ratio_is_at_most⟩)
    (c_Ratio_is_at_most : PySem.W.codeIn K cd_Ratio_is_at_most "Ratio.is_at_most" = true)
    (k_Ratio_is_at_most : PySem.W.keepIn K (.ref a_Ratio_is_at_most) = true)
    (l_Ratio_total : K.lookup a_Ratio_total = some ⟨oc_Ratio_total, od_Ratio_total, .func (PySem.W.fnOf "total" "Ratio.total" (defArgs s_Ratio_total) (defBody s_Ratio_total) (defScope s_Ratio_total) .none kV_Ratio_total dc_Ratio_total pm_Ratio_total an_Ratio_total cd_Ratio_total ct_Ratio_total), sl_Ratio_total⟩)
    (c_Ratio_total : PySem.W.codeIn K cd_Ratio_total "Ratio.total" = true)
    (k_Ratio_total : PySem.W.keepIn K (.ref a_Ratio_total) = true)
    (l_law_is : K.lookup a_law_is = some ⟨oc_law_is, od_law_is, .func (PySem.W.fnOf "_law_is" "_law_is" (defArgs s_law_is) (defBody s_law_is) (defScope s_law_is) .none kV_law_is dc_law_is pm_law_is an_law_is cd_law_is ct_law_is), sl_law_is⟩)
    (c_law_is : PySem.W.codeIn K cd_law_is "_law_is" = true)
    (k_law_is : PySem.W.keepIn K (.ref a_law_is) = true)
    (l_law_two_right : K.lookup a_law_two_right = some ⟨oc_law_two_right, od_law_two_right, .func (PySem.W.fnOf "_law_two_right" "_law_two_right" (defArgs s_law_two_right) (defBody s_law_two_right) (defScope s_law_two_right) .none kV_law_two_right dc_law_two_right pm_law_two_right an_law_two_right cd_law_two_right ct_law_two_right), sl_law_two_right⟩)
    (c_law_two_right : PySem.W.codeIn K cd_law_two_right "_law_two_right" = true)
    (k_law_two_right : PySem.W.keepIn K (.ref a_law_two_right) = true)
    (l_law_whole_right : K.lookup a_law_whole_right = some ⟨oc_law_whole_right, od_law_whole_right, .func (PySem.W.fnOf "_law_whole_right" "_law_whole_right" (defArgs s_law_whole_right) (defBody s_law_whole_right) (defScope s_law_whole_right) .none kV_law_whole_right dc_law_whole_right pm_law_whole_right an_law_whole_right cd_law_whole_right ct_law_whole_right), sl_law_whole_right⟩)
    (c_law_whole_right : PySem.W.codeIn K cd_law_whole_right "_law_whole_right" = true)
    (k_law_whole_right : PySem.W.keepIn K (.ref a_law_whole_right) = true)
    (l_law_total_right : K.lookup a_law_total_right = some ⟨oc_law_total_right, od_law_total_right, .func (PySem.W.fnOf "_law_total_right" "_law_total_right" (defArgs s_law_total_right) (defBody s_law_total_right) (defScope s_law_total_right) .none kV_law_total_right dc_law_total_right pm_law_total_right an_law_total_right cd_law_total_right ct_law_total_right), sl_law_total_right⟩)
    (c_law_total_right : PySem.W.codeIn K cd_law_total_right "_law_total_right" = true)
    (k_law_total_right : PySem.W.keepIn K (.ref a_law_total_right) = true)
    (l_law : K.lookup a_law = some ⟨oc_law, od_law, .func (PySem.W.fnOf "law" "law" (defArgs s_law) (defBody s_law) (defScope s_law) .none kV_law dc_law pm_law an_law cd_law ct_law), sl_law⟩)
    (c_law : PySem.W.codeIn K cd_law "law" = true)
    (k_law : PySem.W.keepIn K (.ref a_law) = true)
    : ∃ (fd : FuncData) (T : CT), T.sc = scOf K ∧ (∀ (s : Shared) (v : Value), BindsTo s fd ⟨[v], []⟩ [("_law_script", v)]) ∧ ∀ base : Heap, K.In base → base.Ns mainGlobals mg → FnG l.prog w K mg base 9 fa fd ["_law_script"] (sp0 T 1 G_law) := by
  have e := (PySem.W.mg_of X G h_law).symm.trans hfa
  have e2 : a_law = fa := by
    injection e with e
    injection e with e
  subst e2
  let M : Facts K mg := {
    C_Ratio := C_Ratio,
    a_law_pot := a_law_pot,
    d_law_pot := (PySem.W.fnOf "_law_pot" "_law_pot" (defArgs s_law_pot) (defBody s_law_pot) (defScope s_law_pot) .none kV_law_pot dc_law_pot pm_law_pot an_law_pot cd_law_pot ct_law_pot),
    a_law_draw := a_law_draw,
    d_law_draw := (PySem.W.fnOf "_law_draw" "_law_draw" (defArgs s_law_draw) (defBody s_law_draw) (defScope s_law_draw) .none kV_law_draw dc_law_draw pm_law_draw an_law_draw cd_law_draw ct_law_draw),
    a_law_pick := a_law_pick,
    d_law_pick := (PySem.W.fnOf "_law_pick" "_law_pick" (defArgs s_law_pick) (defBody s_law_pick) (defScope s_law_pick) .none kV_law_pick dc_law_pick pm_law_pick an_law_pick cd_law_pick ct_law_pick),
    a_law_top := a_law_top,
    d_law_top := (PySem.W.fnOf "_law_top" "_law_top" (defArgs s_law_top) (defBody s_law_top) (defScope s_law_top) .none kV_law_top dc_law_top pm_law_top an_law_top cd_law_top ct_law_top),
    a_law_whole := a_law_whole,
    d_law_whole := (PySem.W.fnOf "_law_whole" "_law_whole" (defArgs s_law_whole) (defBody s_law_whole) (defScope s_law_whole) .none kV_law_whole dc_law_whole pm_law_whole an_law_whole cd_law_whole ct_law_whole),
    a_law_pair := a_law_pair,
    d_law_pair := (PySem.W.fnOf "_law_pair" "_law_pair" (defArgs s_law_pair) (defBody s_law_pair) (defScope s_law_pair) .none kV_law_pair dc_law_pair pm_law_pair an_law_pair cd_law_pair ct_law_pair),
    a_law_common := a_law_common,
    d_law_common := (PySem.W.fnOf "_law_common" "_law_common" (defArgs s_law_common) (defBody s_law_common) (defScope s_law_common) .none kV_law_common dc_law_common pm_law_common an_law_common cd_law_common ct_law_common),
    a_is_integer := a_is_integer,
    d_is_integer := (PySem.W.fnOf "is_integer" "is_integer" (defArgs s_is_integer) (defBody s_is_integer) (defScope s_is_integer) .none kV_is_integer dc_is_integer pm_is_integer an_is_integer cd_is_integer ct_is_integer),
    a_is_list := a_is_list,
    d_is_list := (PySem.W.fnOf "is_list" "is_list" (defArgs s_is_list) (defBody s_is_list) (defScope s_is_list) .none kV_is_list dc_is_list pm_is_list an_is_list cd_is_list ct_is_list),
    a_Ratio_init := a_Ratio_init,
    d_Ratio_init := (PySem.W.fnOf "__init__" "Ratio.__init__" (defArgs s_Ratio_init) (defBody s_Ratio_init) (defScope s_Ratio_init) (.ref da_Ratio_init) kV_Ratio_init dc_Ratio_init pm_Ratio_init an_Ratio_init cd_Ratio_init ct_Ratio_init),
    a_as_ratio := a_as_ratio,
    d_as_ratio := (PySem.W.fnOf "as_ratio" "as_ratio" (defArgs s_as_ratio) (defBody s_as_ratio) (defScope s_as_ratio) .none kV_as_ratio dc_as_ratio pm_as_ratio an_as_ratio cd_as_ratio ct_as_ratio),
    a_Ratio_top := a_Ratio_top,
    d_Ratio_top := (PySem.W.fnOf "top" "Ratio.top" (defArgs s_Ratio_top) (defBody s_Ratio_top) (defScope s_Ratio_top) .none kV_Ratio_top dc_Ratio_top pm_Ratio_top an_Ratio_top cd_Ratio_top ct_Ratio_top),
    a_Ratio_bottom := a_Ratio_bottom,
    d_Ratio_bottom := (PySem.W.fnOf "bottom" "Ratio.bottom" (defArgs s_Ratio_bottom) (defBody s_Ratio_bottom) (defScope s_Ratio_bottom) .none kV_Ratio_bottom dc_Ratio_bottom pm_Ratio_bottom an_Ratio_bottom cd_Ratio_bottom ct_Ratio_bottom),
    a_Ratio_sign := a_Ratio_sign,
    d_Ratio_sign := (PySem.W.fnOf "sign" "Ratio.sign" (defArgs s_Ratio_sign) (defBody s_Ratio_sign) (defScope s_Ratio_sign) .none kV_Ratio_sign dc_Ratio_sign pm_Ratio_sign an_Ratio_sign cd_Ratio_sign ct_Ratio_sign),
    a_Ratio_is_whole := a_Ratio_is_whole,
    d_Ratio_is_whole := (PySem.W.fnOf "is_whole" "Ratio.is_whole" (defArgs s_Ratio_is_whole) (defBody s_Ratio_is_whole) (defScope s_Ratio_is_whole) .none kV_Ratio_is_whole dc_Ratio_is_whole pm_Ratio_is_whole an_Ratio_is_whole cd_Ratio_is_whole ct_Ratio_is_whole),
    a_Ratio_eq := a_Ratio_eq,
    d_Ratio_eq := (PySem.W.fnOf "__eq__" "Ratio.__eq__" (defArgs s_Ratio_eq) (defBody s_Ratio_eq) (defScope s_Ratio_eq) .none kV_Ratio_eq dc_Ratio_eq pm_Ratio_eq an_Ratio_eq cd_Ratio_eq ct_Ratio_eq),
    a_Ratio_str := a_Ratio_str,
    d_Ratio_str := (PySem.W.fnOf "__str__" "Ratio.__str__" (defArgs s_Ratio_str) (defBody s_Ratio_str) (defScope s_Ratio_str) .none kV_Ratio_str dc_Ratio_str pm_Ratio_str an_Ratio_str cd_Ratio_str ct_Ratio_str),
    a_Ratio_repr := a_Ratio_repr,
    d_Ratio_repr := (PySem.W.fnOf "__repr__" "Ratio.__repr__" (defArgs s_Ratio_repr) (defBody s_Ratio_repr) (defScope s_Ratio_repr) .none kV_Ratio_repr dc_Ratio_repr pm_Ratio_repr an_Ratio_repr cd_Ratio_repr ct_Ratio_repr),
    a_Ratio_neg := a_Ratio_neg,
    d_Ratio_neg := (PySem.W.fnOf "__neg__" "Ratio.__neg__" (defArgs s_Ratio_neg) (defBody s_Ratio_neg) (defScope s_Ratio_neg) .none kV_Ratio_neg dc_Ratio_neg pm_Ratio_neg an_Ratio_neg cd_Ratio_neg ct_Ratio_neg),
    a_Ratio_add := a_Ratio_add,
    d_Ratio_add := (PySem.W.fnOf "__add__" "Ratio.__add__" (defArgs s_Ratio_add) (defBody s_Ratio_add) (defScope s_Ratio_add) .none kV_Ratio_add dc_Ratio_add pm_Ratio_add an_Ratio_add cd_Ratio_add ct_Ratio_add),
    a_Ratio_radd := a_Ratio_radd,
    d_Ratio_radd := (PySem.W.fnOf "__radd__" "Ratio.__radd__" (defArgs s_Ratio_radd) (defBody s_Ratio_radd) (defScope s_Ratio_radd) .none kV_Ratio_radd dc_Ratio_radd pm_Ratio_radd an_Ratio_radd cd_Ratio_radd ct_Ratio_radd),
    a_Ratio_sub := a_Ratio_sub,
    d_Ratio_sub := (PySem.W.fnOf "__sub__" "Ratio.__sub__" (defArgs s_Ratio_sub) (defBody s_Ratio_sub) (defScope s_Ratio_sub) .none kV_Ratio_sub dc_Ratio_sub pm_Ratio_sub an_Ratio_sub cd_Ratio_sub ct_Ratio_sub),
    a_Ratio_rsub := a_Ratio_rsub,
    d_Ratio_rsub := (PySem.W.fnOf "__rsub__" "Ratio.__rsub__" (defArgs s_Ratio_rsub) (defBody s_Ratio_rsub) (defScope s_Ratio_rsub) .none kV_Ratio_rsub dc_Ratio_rsub pm_Ratio_rsub an_Ratio_rsub cd_Ratio_rsub ct_Ratio_rsub),
    a_Ratio_mul := a_Ratio_mul,
    d_Ratio_mul := (PySem.W.fnOf "__mul__" "Ratio.__mul__" (defArgs s_Ratio_mul) (defBody s_Ratio_mul) (defScope s_Ratio_mul) .none kV_Ratio_mul dc_Ratio_mul pm_Ratio_mul an_Ratio_mul cd_Ratio_mul ct_Ratio_mul),
    a_Ratio_rmul := a_Ratio_rmul,
    d_Ratio_rmul := (PySem.W.fnOf "__rmul__" "Ratio.__rmul__" (defArgs s_Ratio_rmul) (defBody s_Ratio_rmul) (defScope s_Ratio_rmul) .none kV_Ratio_rmul dc_Ratio_rmul pm_Ratio_rmul an_Ratio_rmul cd_Ratio_rmul ct_Ratio_rmul),
    p_Ratio_sign := p_Ratio_sign,
    p_Ratio_top := p_Ratio_top,
    p_Ratio_bottom := p_Ratio_bottom,
    a_Ratio_over := a_Ratio_over,
    d_Ratio_over := (PySem.W.fnOf "over" "Ratio.over" (defArgs s_Ratio_over) (defBody s_Ratio_over) (defScope s_Ratio_over) .none kV_Ratio_over dc_Ratio_over pm_Ratio_over an_Ratio_over cd_Ratio_over ct_Ratio_over),
    a_Ratio_size := a_Ratio_size,
    d_Ratio_size := (PySem.W.fnOf "size" "Ratio.size" (defArgs s_Ratio_size) (defBody s_Ratio_size) (defScope s_Ratio_size) .none kV_Ratio_size dc_Ratio_size pm_Ratio_size an_Ratio_size cd_Ratio_size ct_Ratio_size),
    a_Ratio_is_below := a_Ratio_is_below,
    d_Ratio_is_below := (PySem.W.fnOf "is_below" "Ratio.is_below" (defArgs s_Ratio_is_below) (defBody s_Ratio_is_below) (defScope s_Ratio_is_below) .none kV_Ratio_is_below dc_Ratio_is_below pm_Ratio_is_below an_Ratio_is_below cd_Ratio_is_below ct_Ratio_is_below),
    a_Ratio_is_at_most := a_Ratio_is_at_most,
    d_Ratio_is_at_most := (PySem.W.fnOf "is_at_most" "Ratio.is_at_most" (defArgs s_Ratio_is_at_most) (defBody s_Ratio_is_at_most) (defScope s_Ratio_is_at_most) .none kV_Ratio_is_at_most dc_Ratio_is_at_most pm_Ratio_is_at_most an_Ratio_is_at_most cd_Ratio_is_at_most ct_Ratio_is_at_most),
    a_Ratio_total := a_Ratio_total,
    d_Ratio_total := (PySem.W.fnOf "total" "Ratio.total" (defArgs s_Ratio_total) (defBody s_Ratio_total) (defScope s_Ratio_total) .none kV_Ratio_total dc_Ratio_total pm_Ratio_total an_Ratio_total cd_Ratio_total ct_Ratio_total),
    p_Ratio_is_whole := p_Ratio_is_whole,
    a_law_is := a_law_is,
    d_law_is := (PySem.W.fnOf "_law_is" "_law_is" (defArgs s_law_is) (defBody s_law_is) (defScope s_law_is) .none kV_law_is dc_law_is pm_law_is an_law_is cd_law_is ct_law_is),
    a_law_two_right := a_law_two_right,
    d_law_two_right := (PySem.W.fnOf "_law_two_right" "_law_two_right" (defArgs s_law_two_right) (defBody s_law_two_right) (defScope s_law_two_right) .none kV_law_two_right dc_law_two_right pm_law_two_right an_law_two_right cd_law_two_right ct_law_two_right),
    a_law_whole_right := a_law_whole_right,
    d_law_whole_right := (PySem.W.fnOf "_law_whole_right" "_law_whole_right" (defArgs s_law_whole_right) (defBody s_law_whole_right) (defScope s_law_whole_right) .none kV_law_whole_right dc_law_whole_right pm_law_whole_right an_law_whole_right cd_law_whole_right ct_law_whole_right),
    mc_Ratio := (.type "type"),
    p_Ratio_total := p_Ratio_total,
    a_law_total_right := a_law_total_right,
    d_law_total_right := (PySem.W.fnOf "_law_total_right" "_law_total_right" (defArgs s_law_total_right) (defBody s_law_total_right) (defScope s_law_total_right) .none kV_law_total_right dc_law_total_right pm_law_total_right an_law_total_right cd_law_total_right ct_law_total_right),
    a_law := a_law,
    d_law := (PySem.W.fnOf "law" "law" (defArgs s_law) (defBody s_law) (defScope s_law) .none kV_law dc_law pm_law an_law cd_law ct_law),
    n_int := (PySem.W.mg_none_of X G h_n_int),
    n_max := (PySem.W.mg_none_of X G h_n_max),
    n_len := (PySem.W.mg_none_of X G h_n_len),
    n_abs := (PySem.W.mg_none_of X G h_n_abs),
    F_law_pot := (fun_mk (st := s_law_pot) l_law_pot c_law_pot k_law_pot),
    b_law_pot := ((fun_mk (st := s_law_pot) l_law_pot c_law_pot k_law_pot).binds (ps := ["_law_script", "_law_k"]) fun _ _ _ _ _ _ us hl => match us, hl with | [_, _], _ => rfl),
    n_divmod := (PySem.W.mg_none_of X G h_n_divmod),
    F_law_draw := (fun_mk (st := s_law_draw) l_law_draw c_law_draw k_law_draw),
    b_law_draw := ((fun_mk (st := s_law_draw) l_law_draw c_law_draw k_law_draw).binds (ps := ["_law_pot_here", "_law_size"]) fun _ _ _ _ _ _ us hl => match us, hl with | [_, _], _ => rfl),
    m_law_draw := (PySem.W.mg_of X G h_m_law_draw),
    F_law_pick := (fun_mk (st := s_law_pick) l_law_pick c_law_pick k_law_pick),
    b_law_pick := ((fun_mk (st := s_law_pick) l_law_pick c_law_pick k_law_pick).binds (ps := ["_law_pot_here", "_law_some"]) fun _ _ _ _ _ _ us hl => match us, hl with | [_, _], _ => rfl),
    n_range := (PySem.W.mg_none_of X G h_n_range),
    F_law_top := (fun_mk (st := s_law_top) l_law_top c_law_top k_law_top),
    b_law_top := ((fun_mk (st := s_law_top) l_law_top c_law_top k_law_top).binds (ps := ["_law_pot_here"]) fun _ _ _ _ _ _ us hl => match us, hl with | [_], _ => rfl),
    F_law_whole := (fun_mk (st := s_law_whole) l_law_whole c_law_whole k_law_whole),
    b_law_whole := ((fun_mk (st := s_law_whole) l_law_whole c_law_whole k_law_whole).binds (ps := ["_law_pot_here"]) fun _ _ _ _ _ _ us hl => match us, hl with | [_], _ => rfl),
    m_law_top := (PySem.W.mg_of X G h_m_law_top),
    F_law_pair := (fun_mk (st := s_law_pair) l_law_pair c_law_pair k_law_pair),
    b_law_pair := ((fun_mk (st := s_law_pair) l_law_pair c_law_pair k_law_pair).binds (ps := ["_law_pot_here"]) fun _ _ _ _ _ _ us hl => match us, hl with | [_], _ => rfl),
    F_law_common := (fun_mk (st := s_law_common) l_law_common c_law_common k_law_common),
    b_law_common := ((fun_mk (st := s_law_common) l_law_common c_law_common k_law_common).binds (ps := ["_law_one", "_law_other"]) fun _ _ _ _ _ _ us hl => match us, hl with | [_, _], _ => rfl),
    n_isinstance := (PySem.W.mg_none_of X G h_n_isinstance),
    ca := (fun c q h => by
      match c, h with
      | 0, h => cases h; exact ⟨⟨cl1_C_Ratio, cl2_C_Ratio, cl3_C_Ratio, cl4_C_Ratio⟩, ca_ca, ca_cn, ca_ct, ca_cm⟩),
    i_int := (fun d t h => by
      cases d with
      | non => cases h; exact (kit_ty (r := false) (by decide +kernel))
      | bl b => cases h; exact (kit_ty (r := true) (by decide +kernel))
      | int i => cases h; exact (kit_ty (r := true) (by decide +kernel))
      | str z => cases h; exact (kit_ty (r := false) (by decide +kernel))
      | lst l => cases h; exact (kit_ty (r := false) (by decide +kernel))
      | tup l => cases h; exact (kit_ty (r := false) (by decide +kernel))
      | obj c l => match c, h with | 0, h => cases h; exact (kit_obj i_int_obj (by decide +kernel))
      | cls c => cases h
      | scr l => cases h),
    i_bool := (fun d t h => by
      cases d with
      | non => cases h; exact (kit_ty (r := false) (by decide +kernel))
      | bl b => cases h; exact (kit_ty (r := true) (by decide +kernel))
      | int i => cases h; exact (kit_ty (r := false) (by decide +kernel))
      | str z => cases h; exact (kit_ty (r := false) (by decide +kernel))
      | lst l => cases h; exact (kit_ty (r := false) (by decide +kernel))
      | tup l => cases h; exact (kit_ty (r := false) (by decide +kernel))
      | obj c l => match c, h with | 0, h => cases h; exact (kit_obj i_bool_obj (by decide +kernel))
      | cls c => cases h
      | scr l => cases h),
    n_bool := (PySem.W.mg_none_of X G h_n_bool),
    F_is_integer := (fun_mk (st := s_is_integer) l_is_integer c_is_integer k_is_integer),
    b_is_integer := ((fun_mk (st := s_is_integer) l_is_integer c_is_integer k_is_integer).binds (ps := ["value"]) fun _ _ _ _ _ _ us hl => match us, hl with | [_], _ => rfl),
    i_list := (fun d t h => by
      cases d with
      | non => cases h; exact (kit_ty (r := false) (by decide +kernel))
      | bl b => cases h; exact (kit_ty (r := false) (by decide +kernel))
      | int i => cases h; exact (kit_ty (r := false) (by decide +kernel))
      | str z => cases h; exact (kit_ty (r := false) (by decide +kernel))
      | lst l => cases h; exact (kit_ty (r := true) (by decide +kernel))
      | tup l => cases h; exact (kit_ty (r := false) (by decide +kernel))
      | obj c l => match c, h with | 0, h => cases h; exact (kit_obj i_list_obj (by decide +kernel))
      | cls c => cases h
      | scr l => cases h),
    n_list := (PySem.W.mg_none_of X G h_n_list),
    i_tuple := (fun d t h => by
      cases d with
      | non => cases h; exact (kit_ty (r := false) (by decide +kernel))
      | bl b => cases h; exact (kit_ty (r := false) (by decide +kernel))
      | int i => cases h; exact (kit_ty (r := false) (by decide +kernel))
      | str z => cases h; exact (kit_ty (r := false) (by decide +kernel))
      | lst l => cases h; exact (kit_ty (r := false) (by decide +kernel))
      | tup l => cases h; exact (kit_ty (r := true) (by decide +kernel))
      | obj c l => match c, h with | 0, h => cases h; exact (kit_obj i_tuple_obj (by decide +kernel))
      | cls c => cases h
      | scr l => cases h),
    n_tuple := (PySem.W.mg_none_of X G h_n_tuple),
    F_is_list := (fun_mk (st := s_is_list) l_is_list c_is_list k_is_list),
    b_is_list := ((fun_mk (st := s_is_list) l_is_list c_is_list k_is_list).binds (ps := ["value"]) fun _ _ _ _ _ _ us hl => match us, hl with | [_], _ => rfl),
    m_is_integer := (PySem.W.mg_of X G h_m_is_integer),
    m_gcd := (PySem.W.mg_of X G h_m_gcd),
    hc_Ratio := ⟨cl1_C_Ratio, cl2_C_Ratio, cl3_C_Ratio, cl4_C_Ratio⟩,
    na_Ratio_top := h_na_Ratio_top,
    na_Ratio_bottom := h_na_Ratio_bottom,
    F_Ratio_init := (funD_mk (dvs := [V.int 1]) l_Ratio_init c_Ratio_init k_Ratio_init (by simp) dl_Ratio_init dd_Ratio_init (show Vals [V.int 1] [.int 1 dt0_Ratio_init] from (.cons ⟨_, rfl⟩ .nil))),
    i_Ratio := (fun d t h => by
      cases d with
      | non => cases h; exact (kit_own ic_C_Ratio it_C_Ratio i_Ratio_NoneType)
      | bl b => cases h; exact (kit_own ic_C_Ratio it_C_Ratio i_Ratio_bool)
      | int i => cases h; exact (kit_own ic_C_Ratio it_C_Ratio i_Ratio_int)
      | str z => cases h; exact (kit_own ic_C_Ratio it_C_Ratio i_Ratio_str)
      | lst l => cases h; exact (kit_own ic_C_Ratio it_C_Ratio i_Ratio_list)
      | tup l => cases h; exact (kit_own ic_C_Ratio it_C_Ratio i_Ratio_tuple)
      | obj c l => match c, h with | 0, h => cases h; exact kit_self
      | cls c => cases h
      | scr l => cases h),
    m_Ratio := (PySem.W.mg_of X G h_m_Ratio),
    mk_Ratio := ⟨mk1_mk_Ratio, f_Ratio_init, g_Ratio_init, mk2_mk_Ratio⟩,
    bi_Ratio_init_1 := (bndI_of (funD_mk (dvs := [V.int 1]) l_Ratio_init c_Ratio_init k_Ratio_init (by simp) dl_Ratio_init dd_Ratio_init (show Vals [V.int 1] [.int 1 dt0_Ratio_init] from (.cons ⟨_, rfl⟩ .nil))) 1 0 [] [.int 1] (by simp) (lits_cons rfl lits_nil) fun _ _ _ _ _ _ _ us its ws h1 h2 h3 => match us, its, ws, h1, h2, h3 with | [_, _], [_], [], _, _, _ => ⟨_, rfl, rfl⟩),
    F_as_ratio := (fun_mk (st := s_as_ratio) l_as_ratio c_as_ratio k_as_ratio),
    b_as_ratio := ((fun_mk (st := s_as_ratio) l_as_ratio c_as_ratio k_as_ratio).binds (ps := ["number"]) fun _ _ _ _ _ _ us hl => match us, hl with | [_], _ => rfl),
    F_Ratio_top := (fun_mk (st := s_Ratio_top) l_Ratio_top c_Ratio_top k_Ratio_top),
    b_Ratio_top := ((fun_mk (st := s_Ratio_top) l_Ratio_top c_Ratio_top k_Ratio_top).binds (ps := ["self"]) fun _ _ _ _ _ _ us hl => match us, hl with | [_], _ => rfl),
    F_Ratio_bottom := (fun_mk (st := s_Ratio_bottom) l_Ratio_bottom c_Ratio_bottom k_Ratio_bottom),
    b_Ratio_bottom := ((fun_mk (st := s_Ratio_bottom) l_Ratio_bottom c_Ratio_bottom k_Ratio_bottom).binds (ps := ["self"]) fun _ _ _ _ _ _ us hl => match us, hl with | [_], _ => rfl),
    F_Ratio_sign := (fun_mk (st := s_Ratio_sign) l_Ratio_sign c_Ratio_sign k_Ratio_sign),
    b_Ratio_sign := ((fun_mk (st := s_Ratio_sign) l_Ratio_sign c_Ratio_sign k_Ratio_sign).binds (ps := ["self"]) fun _ _ _ _ _ _ us hl => match us, hl with | [_], _ => rfl),
    F_Ratio_is_whole := (fun_mk (st := s_Ratio_is_whole) l_Ratio_is_whole c_Ratio_is_whole k_Ratio_is_whole),
    b_Ratio_is_whole := ((fun_mk (st := s_Ratio_is_whole) l_Ratio_is_whole c_Ratio_is_whole k_Ratio_is_whole).binds (ps := ["self"]) fun _ _ _ _ _ _ us hl => match us, hl with | [_], _ => rfl),
    F_Ratio_eq := (fun_mk (st := s_Ratio_eq) l_Ratio_eq c_Ratio_eq k_Ratio_eq),
    b_Ratio_eq := ((fun_mk (st := s_Ratio_eq) l_Ratio_eq c_Ratio_eq k_Ratio_eq).binds (ps := ["self", "other"]) fun _ _ _ _ _ _ us hl => match us, hl with | [_, _], _ => rfl),
    e_Ratio_eq := h_e_Ratio_eq,
    ef_Ratio_eq := h_ef_Ratio_eq,
    tp_Ratio := (fun d t h => by
      cases d with
      | non => cases h; exact tp_Ratio_NoneType
      | bl b => cases h; exact tp_Ratio_bool
      | int i => cases h; exact tp_Ratio_int
      | str z => cases h; exact tp_Ratio_str
      | lst l => cases h; exact tp_Ratio_list
      | tup l => cases h; exact tp_Ratio_tuple
      | obj c l => match c, h with | 0, h => cases h; exact tp_Ratio_obj
      | cls c => cases h
      | scr l => cases h),
    n_str := (PySem.W.mg_none_of X G h_n_str),
    F_Ratio_str := (fun_mk (st := s_Ratio_str) l_Ratio_str c_Ratio_str k_Ratio_str),
    b_Ratio_str := ((fun_mk (st := s_Ratio_str) l_Ratio_str c_Ratio_str k_Ratio_str).binds (ps := ["self"]) fun _ _ _ _ _ _ us hl => match us, hl with | [_], _ => rfl),
    F_Ratio_repr := (fun_mk (st := s_Ratio_repr) l_Ratio_repr c_Ratio_repr k_Ratio_repr),
    b_Ratio_repr := ((fun_mk (st := s_Ratio_repr) l_Ratio_repr c_Ratio_repr k_Ratio_repr).binds (ps := ["self"]) fun _ _ _ _ _ _ us hl => match us, hl with | [_], _ => rfl),
    bi_Ratio_init_2 := (bndI_of (funD_mk (dvs := [V.int 1]) l_Ratio_init c_Ratio_init k_Ratio_init (by simp) dl_Ratio_init dd_Ratio_init (show Vals [V.int 1] [.int 1 dt0_Ratio_init] from (.cons ⟨_, rfl⟩ .nil))) 2 1 [] [] (by simp) lits_nil fun _ _ _ _ _ _ _ us its ws h1 h2 h3 => match us, its, ws, h1, h2, h3 with | [_, _, _], [_], [], _, _, _ => ⟨_, rfl, rfl⟩),
    F_Ratio_neg := (fun_mk (st := s_Ratio_neg) l_Ratio_neg c_Ratio_neg k_Ratio_neg),
    b_Ratio_neg := ((fun_mk (st := s_Ratio_neg) l_Ratio_neg c_Ratio_neg k_Ratio_neg).binds (ps := ["self"]) fun _ _ _ _ _ _ us hl => match us, hl with | [_], _ => rfl),
    m_as_ratio := (PySem.W.mg_of X G h_m_as_ratio),
    F_Ratio_add := (fun_mk (st := s_Ratio_add) l_Ratio_add c_Ratio_add k_Ratio_add),
    b_Ratio_add := ((fun_mk (st := s_Ratio_add) l_Ratio_add c_Ratio_add k_Ratio_add).binds (ps := ["self", "other"]) fun _ _ _ _ _ _ us hl => match us, hl with | [_, _], _ => rfl),
    o_Ratio_add := ⟨sf_C_Ratio, f_Ratio_add, g_Ratio_add, ⟨_, fr_Ratio_add, .inr ⟨_, rfl⟩⟩, ⟨_, i1_Ratio_add⟩, ⟨_, i2_Ratio_add⟩, is_C_Ratio⟩,
    F_Ratio_radd := (fun_mk (st := s_Ratio_radd) l_Ratio_radd c_Ratio_radd k_Ratio_radd),
    b_Ratio_radd := ((fun_mk (st := s_Ratio_radd) l_Ratio_radd c_Ratio_radd k_Ratio_radd).binds (ps := ["self", "other"]) fun _ _ _ _ _ _ us hl => match us, hl with | [_, _], _ => rfl),
    F_Ratio_sub := (fun_mk (st := s_Ratio_sub) l_Ratio_sub c_Ratio_sub k_Ratio_sub),
    b_Ratio_sub := ((fun_mk (st := s_Ratio_sub) l_Ratio_sub c_Ratio_sub k_Ratio_sub).binds (ps := ["self", "other"]) fun _ _ _ _ _ _ us hl => match us, hl with | [_, _], _ => rfl),
    o_Ratio_sub := ⟨sf_C_Ratio, f_Ratio_sub, g_Ratio_sub, ⟨_, fr_Ratio_sub, .inr ⟨_, rfl⟩⟩, ⟨_, i1_Ratio_sub⟩, ⟨_, i2_Ratio_sub⟩, is_C_Ratio⟩,
    F_Ratio_rsub := (fun_mk (st := s_Ratio_rsub) l_Ratio_rsub c_Ratio_rsub k_Ratio_rsub),
    b_Ratio_rsub := ((fun_mk (st := s_Ratio_rsub) l_Ratio_rsub c_Ratio_rsub k_Ratio_rsub).binds (ps := ["self", "other"]) fun _ _ _ _ _ _ us hl => match us, hl with | [_, _], _ => rfl),
    F_Ratio_mul := (fun_mk (st := s_Ratio_mul) l_Ratio_mul c_Ratio_mul k_Ratio_mul),
    b_Ratio_mul := ((fun_mk (st := s_Ratio_mul) l_Ratio_mul c_Ratio_mul k_Ratio_mul).binds (ps := ["self", "other"]) fun _ _ _ _ _ _ us hl => match us, hl with | [_, _], _ => rfl),
    o_Ratio_mul := ⟨sf_C_Ratio, f_Ratio_mul, g_Ratio_mul, ⟨_, fr_Ratio_mul, .inr ⟨_, rfl⟩⟩, ⟨_, i1_Ratio_mul⟩, ⟨_, i2_Ratio_mul⟩, is_C_Ratio⟩,
    F_Ratio_rmul := (fun_mk (st := s_Ratio_rmul) l_Ratio_rmul c_Ratio_rmul k_Ratio_rmul),
    b_Ratio_rmul := ((fun_mk (st := s_Ratio_rmul) l_Ratio_rmul c_Ratio_rmul k_Ratio_rmul).binds (ps := ["self", "other"]) fun _ _ _ _ _ _ us hl => match us, hl with | [_, _], _ => rfl),
    pr_Ratio_sign := ⟨f_Ratio_sign, pg_Ratio_sign, pt_Ratio_sign, rs_Ratio_sign, pc_Ratio_sign⟩,
    r_Ratio_rmul := ⟨sf_C_Ratio, ⟨_, fb_Ratio_rmul⟩, f_Ratio_rmul, g_Ratio_rmul, si_C_Ratio⟩,
    pr_Ratio_top := ⟨f_Ratio_top, pg_Ratio_top, pt_Ratio_top, rs_Ratio_top, pc_Ratio_top⟩,
    pr_Ratio_bottom := ⟨f_Ratio_bottom, pg_Ratio_bottom, pt_Ratio_bottom, rs_Ratio_bottom, pc_Ratio_bottom⟩,
    F_Ratio_over := (fun_mk (st := s_Ratio_over) l_Ratio_over c_Ratio_over k_Ratio_over),
    b_Ratio_over := ((fun_mk (st := s_Ratio_over) l_Ratio_over c_Ratio_over k_Ratio_over).binds (ps := ["self", "other"]) fun _ _ _ _ _ _ us hl => match us, hl with | [_, _], _ => rfl),
    F_Ratio_size := (fun_mk (st := s_Ratio_size) l_Ratio_size c_Ratio_size k_Ratio_size),
    b_Ratio_size := ((fun_mk (st := s_Ratio_size) l_Ratio_size c_Ratio_size k_Ratio_size).binds (ps := ["self"]) fun _ _ _ _ _ _ us hl => match us, hl with | [_], _ => rfl),
    r_Ratio_rsub := ⟨sf_C_Ratio, ⟨_, fb_Ratio_rsub⟩, f_Ratio_rsub, g_Ratio_rsub, si_C_Ratio⟩,
    F_Ratio_is_below := (fun_mk (st := s_Ratio_is_below) l_Ratio_is_below c_Ratio_is_below k_Ratio_is_below),
    b_Ratio_is_below := ((fun_mk (st := s_Ratio_is_below) l_Ratio_is_below c_Ratio_is_below k_Ratio_is_below).binds (ps := ["self", "other"]) fun _ _ _ _ _ _ us hl => match us, hl with | [_, _], _ => rfl),
    F_Ratio_is_at_most := (fun_mk (st := s_Ratio_is_at_most) l_Ratio_is_at_most c_Ratio_is_at_most k_Ratio_is_at_most),
    b_Ratio_is_at_most := ((fun_mk (st := s_Ratio_is_at_most) l_Ratio_is_at_most c_Ratio_is_at_most k_Ratio_is_at_most).binds (ps := ["self", "other"]) fun _ _ _ _ _ _ us hl => match us, hl with | [_, _], _ => rfl),
    m_is_list := (PySem.W.mg_of X G h_m_is_list),
    r_Ratio_radd := ⟨sf_C_Ratio, ⟨_, fb_Ratio_radd⟩, f_Ratio_radd, g_Ratio_radd, si_C_Ratio⟩,
    F_Ratio_total := (fun_mk (st := s_Ratio_total) l_Ratio_total c_Ratio_total k_Ratio_total),
    b_Ratio_total := ((fun_mk (st := s_Ratio_total) l_Ratio_total c_Ratio_total k_Ratio_total).binds (ps := ["cls", "numbers"]) fun _ _ _ _ _ _ us hl => match us, hl with | [_, _], _ => rfl),
    ne_Ratio_eq := h_ne_Ratio_eq,
    ob_Ratio := h_ob_Ratio,
    m_law_common := (PySem.W.mg_of X G h_m_law_common),
    s_Ratio_str := h_s_Ratio_str,
    sf_Ratio_str := h_sf_Ratio_str,
    s_Ratio_repr := h_s_Ratio_repr,
    sf_Ratio_repr := h_sf_Ratio_repr,
    n_repr := (PySem.W.mg_none_of X G h_n_repr),
    pr_Ratio_is_whole := ⟨f_Ratio_is_whole, pg_Ratio_is_whole, pt_Ratio_is_whole, rs_Ratio_is_whole, pc_Ratio_is_whole⟩,
    t_Ratio_size := ⟨f_Ratio_size, g_Ratio_size, k_Ratio_size⟩,
    F_law_is := (fun_mk (st := s_law_is) l_law_is c_law_is k_law_is),
    b_law_is := ((fun_mk (st := s_law_is) l_law_is c_law_is k_law_is).binds (ps := ["_law_ratio", "_law_top_here", "_law_bottom"]) fun _ _ _ _ _ _ us hl => match us, hl with | [_, _, _], _ => rfl),
    bi_Ratio_init_0_top_bottom := (bndI_of (funD_mk (dvs := [V.int 1]) l_Ratio_init c_Ratio_init k_Ratio_init (by simp) dl_Ratio_init dd_Ratio_init (show Vals [V.int 1] [.int 1 dt0_Ratio_init] from (.cons ⟨_, rfl⟩ .nil))) 0 1 ["top", "bottom"] [] (by simp) lits_nil fun _ _ _ _ _ _ _ us its ws h1 h2 h3 => match us, its, ws, h1, h2, h3 with | [_], [_], [_, _], _, _, _ => ⟨_, rfl, rfl⟩),
    m_law_is := (PySem.W.mg_of X G h_m_law_is),
    u_Ratio_neg := h_u_Ratio_neg,
    uf_Ratio_neg := h_uf_Ratio_neg,
    t_Ratio_over := ⟨f_Ratio_over, g_Ratio_over, k_Ratio_over⟩,
    t_Ratio_is_below := ⟨f_Ratio_is_below, g_Ratio_is_below, k_Ratio_is_below⟩,
    t_Ratio_is_at_most := ⟨f_Ratio_is_at_most, g_Ratio_is_at_most, k_Ratio_is_at_most⟩,
    F_law_two_right := (fun_mk (st := s_law_two_right) l_law_two_right c_law_two_right k_law_two_right),
    b_law_two_right := ((fun_mk (st := s_law_two_right) l_law_two_right c_law_two_right k_law_two_right).binds (ps := ["_law_one", "_law_other"]) fun _ _ _ _ _ _ us hl => match us, hl with | [_, _], _ => rfl),
    F_law_whole_right := (fun_mk (st := s_law_whole_right) l_law_whole_right c_law_whole_right k_law_whole_right),
    b_law_whole_right := ((fun_mk (st := s_law_whole_right) l_law_whole_right c_law_whole_right k_law_whole_right).binds (ps := ["_law_one", "_law_whole_here"]) fun _ _ _ _ _ _ us hl => match us, hl with | [_, _], _ => rfl),
    m_law_whole := (PySem.W.mg_of X G h_m_law_whole),
    m_law_pick := (PySem.W.mg_of X G h_m_law_pick),
    cr_Ratio := ⟨cr1_cr_Ratio, cr2_cr_Ratio⟩,
    cm_Ratio_total := ⟨cm1_cm_Ratio_total, ⟨_, cm2_cm_Ratio_total⟩, cm3_cm_Ratio_total⟩,
    F_law_total_right := (fun_mk (st := s_law_total_right) l_law_total_right c_law_total_right k_law_total_right),
    b_law_total_right := ((fun_mk (st := s_law_total_right) l_law_total_right c_law_total_right k_law_total_right).binds (ps := ["_law_pot_here", "_law_pairs"]) fun _ _ _ _ _ _ us hl => match us, hl with | [_, _], _ => rfl),
    m_law_pot := (PySem.W.mg_of X G h_m_law_pot),
    m_law_pair := (PySem.W.mg_of X G h_m_law_pair),
    m_law_two_right := (PySem.W.mg_of X G h_m_law_two_right),
    n_all := (PySem.W.mg_none_of X G h_n_all),
    m_law_whole_right := (PySem.W.mg_of X G h_m_law_whole_right),
    m_law_total_right := (PySem.W.mg_of X G h_m_law_total_right),
    F_law := (fun_mk (st := s_law) l_law c_law k_law),
    b_law := ((fun_mk (st := s_law) l_law c_law k_law).binds (ps := ["_law_script"]) fun _ _ _ _ _ _ us hl => match us, hl with | [_], _ => rfl) }
  exact ⟨M.d_law, TT K C_Ratio, rfl, fun s v => .of_eq rfl, fun base _ _ => ok_law M⟩
end My
namespace My
open PySem PySem.Spec PyProof.Rows L2 ClX Dl
theorem pow18 : okPow 10 18 = true := by decide +kernel
theorem pot_tail (cell : Int) : ∃ y : Int, okMul (cell % 2147483549) 491 = true ∧ y = (cell % 2147483549 * 491 + 1277) % 2147483543 + 1 ∧ 0 ≤ y ∧ Bd y 40 := by
  have c0 : 0 ≤ cell % 2147483549 := Int.emod_nonneg _ (by decide)
  have c1 : cell % 2147483549 < 2147483549 := Int.emod_lt_of_pos _ (by decide)
  have y0 : 0 ≤ (cell % 2147483549 * 491 + 1277) % 2147483543 := Int.emod_nonneg _ (by decide)
  have y1 : (cell % 2147483549 * 491 + 1277) % 2147483543 < 2147483543 := Int.emod_lt_of_pos _ (by decide)
  exact ⟨_, mul_ok ((bd_of (n := 40) 2147483549 c0 c1 (by decide)).mono (by decide)) ((bd_of (x := 491) (n := 10) 512 (by decide) (by decide) (by decide)).mono (by decide)), rfl, by omega, bd_of 2147483544 (by omega) (by omega) (by decide)⟩
theorem p_pot (ns : List Int) : ∃ l, G_law_pot [.scr ns, .int 0] = some l ∧ Pot l := by
  have z1 : okMul 839 0 = true := mul_ok ((bd_of (x := 839) (n := 10) 1024 (by decide) (by decide) (by decide)).mono (by decide)) ((bd_of (x := 0) (n := 10) 1024 (by decide) (by decide) (by decide)).mono (by decide))
  have z2 : okMul 2 0 = true := mul_ok ((bd_of (x := 2) (n := 10) 1024 (by decide) (by decide) (by decide)).mono (by decide)) ((bd_of (x := 0) (n := 10) 1024 (by decide) (by decide) (by decide)).mono (by decide))
  have k1 : ∀ i : Int, okPos i 2147483549 = true := fun i => okPos_of (by decide)
  have k2 : ∀ i : Int, okPos i 2147483543 = true := fun i => okPos_of (by decide)
  have g2 : 2 ≤ big := by decide
  cases ns with
  | nil =>
    obtain ⟨y, m, e, y0, yb⟩ := pot_tail 569
    refine ⟨[.int (if 569 - 10 ^ 18 > (0 : Int) then 569 - 10 ^ 18 else 0), .int y], ?_, ⟨_, _, rfl, y0, yb⟩⟩
    simp [G_law_pot, outF, g_law_pot, sSeqF, sSeq, sIf, fNot, fAnd, fOr, fB, fCall, fCons, fNil, fV, ini, gPos, sNo, sNil, fBin, Dl.gOr, gEqF, gNeF, litV, scal, sSet, fFun, gI0, gI, fC, endD, endP, fFld, fProp, sRet, fIf, fUn, gNeg, uOr, fAndV, fOrV, fNotV, fIsi, isC, pObj, gAdd0, gCatS, gCatL, fTup, fLst, fFr, Option.bind_some, Option.map_some, Option.bind_none, z1, z2, k1, k2, m, e, pow18, funLenR, gIxS, funMax2, funInt, fun1I, g2] at m ⊢
  | cons x r =>
    obtain ⟨y, m, e, y0, yb⟩ := pot_tail (if x < 0 then -x else x)
    refine ⟨[.int (if (if x < 0 then -x else x) - 10 ^ 18 > (0 : Int) then (if x < 0 then -x else x) - 10 ^ 18 else 0), .int y], ?_, ⟨_, _, rfl, y0, yb⟩⟩
    generalize hc : (if x < 0 then -x else x) = cell at *
    have at0 : atI (x :: r) 0 = some x := by simp [atI, ixN]
    simp [G_law_pot, outF, g_law_pot, sSeqF, sSeq, sIf, fNot, fAnd, fOr, fB, fCall, fCons, fNil, fV, ini, gPos, sNo, sNil, fBin, Dl.gOr, gEqF, gNeF, litV, scal, sSet, fFun, gI0, gI, fC, endD, endP, fFld, fProp, sRet, fIf, fUn, gNeg, uOr, fAndV, fOrV, fNotV, fIsi, isC, pObj, gAdd0, gCatS, gCatL, fTup, fLst, fFr, Option.bind_some, Option.map_some, Option.bind_none, z1, z2, k1, k2, m, e, pow18, funLenR, gIxS, funMax2, funInt, fun1I, g2, at0, hc]
theorem pure (ns : List Int) (h : ns.length ≤ 63) : G_law [.scr ns] = some (.bl true) := by
  obtain ⟨l0, e0, P0⟩ := p_pot ns
  obtain ⟨a, b, l1, e1, hb, ba, bb, P1⟩ := p_lawpair P0
  obtain ⟨c, d, l2, e2, hd, bc, bd, P2⟩ := p_lawpair P1
  obtain ⟨w, l3, e3, bw, P3⟩ := p_lawwhole P2
  have b6 : Bd 6 10 := bd_of 8 (by decide) (by decide) (by decide)
  have b3 : Bd 3 200 := bd_of 4 (by decide) (by decide) (by decide)
  have b0 : Bd 0 200 := bd_of 4 (by decide) (by decide) (by decide)
  have ba' : Bd a 200 := ba.mono (by decide)
  have bb' : Bd b 200 := bb.mono (by decide)
  have bc' : Bd c 200 := bc.mono (by decide)
  have bd' : Bd d 200 := bd.mono (by decide)
  have bw' : Bd w 200 := bw.mono (by decide)
  have a6 : Bd (a * 6) 200 := (ba.mul b6).mono (by decide)
  have b6' : Bd (b * 6) 200 := (bb.mul b6).mono (by decide)
  have nc : Bd (-c) 200 := bc'.neg
  have nd : Bd (-d) 200 := bd'.neg
  have h6 : b * 6 ≠ 0 := by omega
  have hn : -d ≠ 0 := by omega
  have m1 := mul_ok (ba.mono (by decide)) (b6.mono (by decide : 10 ≤ 4000))
  have m2 := mul_ok (bb.mono (by decide)) (b6.mono (by decide : 10 ≤ 4000))
  have A1 := p_two hb hb ba' bb' ba' bb'
  have A2 := p_two hb hd ba' bb' bc' bd'
  have A3 := p_two (c := 0) (d := 3) hb (by decide) ba' bb' b0 b3
  have A4 := p_two hb h6 ba' bb' a6 b6'
  have A5 := p_two hb hn ba' bb' nc nd
  have B1 := p_two hd hb bc' bd' ba' bb'
  have B2 := p_two hd hd bc' bd' bc' bd'
  have B3 := p_two (c := 0) (d := 3) hd (by decide) bc' bd' b0 b3
  have B4 := p_two hd h6 bc' bd' a6 b6'
  have B5 := p_two hd hn bc' bd' nc nd
  have C1 := p_one hb ba' bb' bw'
  have C2 := p_one hd bc' bd' bw'
  have C3 := p_one (a := 0) (b := 3) (by decide) b0 b3 bw'
  have C4 := p_one (w := 0) hb ba' bb' b0
  obtain ⟨l4, e4, P4⟩ := p_totals (ps := [.tup [.int a, .int b], .tup [.int c, .int d], .tup [.int 0, .int 3], .tup [.int (a * 6), .int (b * 6)], .tup [.int (-c), .int (-d)]]) P3 (by
    intro x hx
    simp at hx
    rcases hx with rfl | rfl | rfl | rfl | rfl
    · exact ⟨_, _, rfl, hb, ba', bb'⟩
    · exact ⟨_, _, rfl, hd, bc', bd'⟩
    · exact ⟨_, _, rfl, by decide, b0, b3⟩
    · exact ⟨_, _, rfl, h6, a6, b6'⟩
    · exact ⟨_, _, rfl, hn, nc, nd⟩) (by simp) (by simp)
  have g : ∀ n, n ≤ 10 → n ≤ big := fun n hn => Nat.le_trans hn (by decide)
  have g0 := g 0 (by decide)
  have g1 := g 1 (by decide)
  have g2 := g 2 (by decide)
  have g3 := g 3 (by decide)
  have g4 := g 4 (by decide)
  have g5 := g 5 (by decide)
  clear P0 P1 P2 P3 P4 b6 b3 b0 ba bb bc bd bw ba' bb' bc' bd' bw' a6 b6' nc nd h6 hn hb hd g h
  simp [G_law, outD, g_law, sSeq, sIf, fNot, fAnd, fOr, fB, fCall, fCons, fNil, fV, ini, gPos, sNo, sNil, fBin, Dl.gOr, gEqF, gNeF, litV, scal, sSet, fFun, gI0, gI, fC, endD, endP, fFld, fProp, sRet, fIf, fUn, gNeg, uOr, fAndV, fOrV, fNotV, fIsi, isC, pObj, gAdd0, gCatS, gCatL, fTup, fLst, fFr, Option.bind_some, Option.map_some, Option.bind_none, sPar, sPar3, fIxN, fIxO, isOwn, isL, isOwnL, atI, ixN, sAsg, gT, gsCons, gsNil, gN, gI1, funDivmod, fLenN, fLenO, fCallP, gIx, sOwn, fCallF, e0, e1, e2, e3, sApp, g0, g1, g2, g3, g4, g5, m1, m2, sFor, fSq, fSlice, fNoPart, fPart, Dl.cutD, HT.sIx, loopF, fLc, lcF, wipeE, fYes, funAll, blsOf, A1, A2, A3, A4, A5, B1, B2, B3, B4, B5, C1, C2, C3, C4, e4]
end My
open PySem PySem.W PyProof.Rows
set_option maxRecDepth 100000 in
set_option maxHeartbeats 0 in
theorem PySem.Challenge.cw_soughtrows_k11_whole_numbers_reckoned_holds : PySem.Challenge.rw_soughtrows_k11_whole_numbers_reckoned.Holds := by
  w_on; o_law; k_head; (case hw => w_witness2)
  k_fill
  refine Dl.walk_G (l := PySem.Challenge.rw_soughtrows_k11_whole_numbers_reckoned) (n := _) (k := 9) (G := My.G_law) (x := "_law_script") rfl (by decide) rfl ⟨rfl, by decide, by decide⟩ rfl (fun w h Y => PySem.W.kIn_of Y) ?F ?pure
  case pure => exact My.pure
  case F =>
    intro w mg fa h KX G hmg
    refine' My.all_mk KX G hmg ?h_n_int ?h_n_max ?h_n_len ?h_n_abs ?h_n_divmod ?h_m_law_draw ?h_n_range ?h_m_law_top ?h_n_isinstance ?h_n_bool ?h_n_list ?h_n_tuple ?h_m_is_integer ?h_m_gcd ?h_m_Ratio ?h_n_str ?h_m_as_ratio ?h_m_is_list ?h_m_law_common ?h_n_repr ?h_m_law_is ?h_m_law_whole ?h_m_law_pick ?h_m_law_pot ?h_m_law_pair ?h_m_law_two_right ?h_n_all ?h_m_law_whole_right ?h_m_law_total_right ?h_law ?mk1_mk_Ratio ?f_Ratio_init ?g_Ratio_init ?mk2_mk_Ratio ?f_Ratio_sign ?pg_Ratio_sign ?pt_Ratio_sign ?pc_Ratio_sign ?f_Ratio_top ?pg_Ratio_top ?pt_Ratio_top ?pc_Ratio_top ?f_Ratio_bottom ?pg_Ratio_bottom ?pt_Ratio_bottom ?pc_Ratio_bottom ?f_Ratio_is_whole ?pg_Ratio_is_whole ?pt_Ratio_is_whole ?pc_Ratio_is_whole ?f_Ratio_size ?g_Ratio_size ?f_Ratio_over ?g_Ratio_over ?f_Ratio_is_below ?g_Ratio_is_below ?f_Ratio_is_at_most ?g_Ratio_is_at_most ?ca_ca ?ca_cn ?ca_ct ?ca_cm ?cl1_C_Ratio ?cl2_C_Ratio ?cl3_C_Ratio ?cl4_C_Ratio ?i_int_obj ?i_bool_obj ?i_list_obj ?i_tuple_obj ?h_na_Ratio_top ?h_na_Ratio_bottom ?ic_C_Ratio ?it_C_Ratio ?i_Ratio_NoneType ?i_Ratio_bool ?i_Ratio_int ?i_Ratio_str ?i_Ratio_list ?i_Ratio_tuple ?h_e_Ratio_eq ?h_ef_Ratio_eq ?tp_Ratio_NoneType ?tp_Ratio_bool ?tp_Ratio_int ?tp_Ratio_str ?tp_Ratio_list ?tp_Ratio_tuple ?tp_Ratio_obj ?sf_C_Ratio ?f_Ratio_add ?g_Ratio_add ?fr_Ratio_add ?i1_Ratio_add ?i2_Ratio_add ?is_C_Ratio ?f_Ratio_sub ?g_Ratio_sub ?fr_Ratio_sub ?i1_Ratio_sub ?i2_Ratio_sub ?f_Ratio_mul ?g_Ratio_mul ?fr_Ratio_mul ?i1_Ratio_mul ?i2_Ratio_mul ?fb_Ratio_rmul ?f_Ratio_rmul ?g_Ratio_rmul ?si_C_Ratio ?fb_Ratio_rsub ?f_Ratio_rsub ?g_Ratio_rsub ?fb_Ratio_radd ?f_Ratio_radd ?g_Ratio_radd ?h_ne_Ratio_eq ?h_ob_Ratio ?h_s_Ratio_str ?h_sf_Ratio_str ?h_s_Ratio_repr ?h_sf_Ratio_repr ?h_u_Ratio_neg ?h_uf_Ratio_neg ?cr1_cr_Ratio ?cr2_cr_Ratio ?cm1_cm_Ratio_total ?cm2_cm_Ratio_total ?cm3_cm_Ratio_total ?l_law_pot ?c_law_pot ?k_law_pot ?l_law_draw ?c_law_draw ?k_law_draw ?l_law_pick ?c_law_pick ?k_law_pick ?l_law_top ?c_law_top ?k_law_top ?l_law_whole ?c_law_whole ?k_law_whole ?l_law_pair ?c_law_pair ?k_law_pair ?l_law_common ?c_law_common ?k_law_common ?l_is_integer ?c_is_integer ?k_is_integer ?l_is_list ?c_is_list ?k_is_list ?l_Ratio_init ?c_Ratio_init ?k_Ratio_init ?dl_Ratio_init ?dd_Ratio_init ?l_as_ratio ?c_as_ratio ?k_as_ratio ?l_Ratio_top ?c_Ratio_top ?k_Ratio_top ?l_Ratio_bottom ?c_Ratio_bottom ?k_Ratio_bottom ?l_Ratio_sign ?c_Ratio_sign ?k_Ratio_sign ?l_Ratio_is_whole ?c_Ratio_is_whole ?k_Ratio_is_whole ?l_Ratio_eq ?c_Ratio_eq ?k_Ratio_eq ?l_Ratio_str ?c_Ratio_str ?k_Ratio_str ?l_Ratio_repr ?c_Ratio_repr ?k_Ratio_repr ?l_Ratio_neg ?c_Ratio_neg ?k_Ratio_neg ?l_Ratio_add ?c_Ratio_add ?k_Ratio_add ?l_Ratio_radd ?c_Ratio_radd ?k_Ratio_radd ?l_Ratio_sub ?c_Ratio_sub ?k_Ratio_sub ?l_Ratio_rsub ?c_Ratio_rsub ?k_Ratio_rsub ?l_Ratio_mul ?c_Ratio_mul ?k_Ratio_mul ?l_Ratio_rmul ?c_Ratio_rmul ?k_Ratio_rmul ?l_Ratio_over ?c_Ratio_over ?k_Ratio_over ?l_Ratio_size ?c_Ratio_size ?k_Ratio_size ?l_Ratio_is_below ?c_Ratio_is_below ?k_Ratio_is_below ?l_Ratio_is_at_most ?c_Ratio_is_at_most ?k_Ratio_is_at_most ?l_Ratio_total ?c_Ratio_total ?k_Ratio_total ?l_law_is ?c_law_is ?k_law_is ?l_law_two_right ?c_law_two_right ?k_law_two_right ?l_law_whole_right ?c_law_whole_right ?k_law_whole_right ?l_law_total_right ?c_law_total_right ?k_law_total_right ?l_law ?c_law ?k_law
    (case h_n_int => k_is)
    (case h_n_max => k_is)
    (case h_n_len => k_is)
    (case h_n_abs => k_is)
    (case h_n_divmod => k_is)
    (case h_m_law_draw => k_is)
    (case h_n_range => k_is)
    (case h_m_law_top => k_is)
    (case h_n_isinstance => k_is)
    (case h_n_bool => k_is)
    (case h_n_list => k_is)
    (case h_n_tuple => k_is)
    (case h_m_is_integer => k_is)
    (case h_m_gcd => k_is)
    (case h_m_Ratio => k_is)
    (case h_n_str => k_is)
    (case h_m_as_ratio => k_is)
    (case h_m_is_list => k_is)
    (case h_m_law_common => k_is)
    (case h_n_repr => k_is)
    (case h_m_law_is => k_is)
    (case h_m_law_whole => k_is)
    (case h_m_law_pick => k_is)
    (case h_m_law_pot => k_is)
    (case h_m_law_pair => k_is)
    (case h_m_law_two_right => k_is)
    (case h_n_all => k_is)
    (case h_m_law_whole_right => k_is)
    (case h_m_law_total_right => k_is)
    (case h_law => k_is)
    (case mk1_mk_Ratio => k_is)
    (case f_Ratio_init => k_is)
    (case g_Ratio_init => k_is)
    (case mk2_mk_Ratio => k_is)
    (case f_Ratio_sign => k_is)
    (case pg_Ratio_sign => k_is)
    (case pt_Ratio_sign => k_is)
    (case pc_Ratio_sign => k_is)
    (case f_Ratio_top => k_is)
    (case pg_Ratio_top => k_is)
    (case pt_Ratio_top => k_is)
    (case pc_Ratio_top => k_is)
    (case f_Ratio_bottom => k_is)
    (case pg_Ratio_bottom => k_is)
    (case pt_Ratio_bottom => k_is)
    (case pc_Ratio_bottom => k_is)
    (case f_Ratio_is_whole => k_is)
    (case pg_Ratio_is_whole => k_is)
    (case pt_Ratio_is_whole => k_is)
    (case pc_Ratio_is_whole => k_is)
    (case f_Ratio_size => k_is)
    (case g_Ratio_size => k_is)
    (case f_Ratio_over => k_is)
    (case g_Ratio_over => k_is)
    (case f_Ratio_is_below => k_is)
    (case g_Ratio_is_below => k_is)
    (case f_Ratio_is_at_most => k_is)
    (case g_Ratio_is_at_most => k_is)
    (case ca_ca => k_is)
    (case ca_cn => k_is)
    (case ca_ct => k_is)
    (case ca_cm => k_is)
    (case cl1_C_Ratio => k_is)
    (case cl2_C_Ratio => k_is)
    (case cl3_C_Ratio => k_is)
    (case cl4_C_Ratio => k_is)
    (case i_int_obj => k_is)
    (case i_bool_obj => k_is)
    (case i_list_obj => k_is)
    (case i_tuple_obj => k_is)
    (case h_na_Ratio_top => k_is)
    (case h_na_Ratio_bottom => k_is)
    (case ic_C_Ratio => k_is)
    (case it_C_Ratio => k_is)
    (case i_Ratio_NoneType => k_is)
    (case i_Ratio_bool => k_is)
    (case i_Ratio_int => k_is)
    (case i_Ratio_str => k_is)
    (case i_Ratio_list => k_is)
    (case i_Ratio_tuple => k_is)
    (case h_e_Ratio_eq => k_is)
    (case h_ef_Ratio_eq => k_is)
    (case tp_Ratio_NoneType => k_is)
    (case tp_Ratio_bool => k_is)
    (case tp_Ratio_int => k_is)
    (case tp_Ratio_str => k_is)
    (case tp_Ratio_list => k_is)
    (case tp_Ratio_tuple => k_is)
    (case tp_Ratio_obj => k_is)
    (case sf_C_Ratio => k_is)
    (case f_Ratio_add => k_is)
    (case g_Ratio_add => k_is)
    (case fr_Ratio_add => k_is)
    (case i1_Ratio_add => k_is)
    (case i2_Ratio_add => k_is)
    (case is_C_Ratio => k_is)
    (case f_Ratio_sub => k_is)
    (case g_Ratio_sub => k_is)
    (case fr_Ratio_sub => k_is)
    (case i1_Ratio_sub => k_is)
    (case i2_Ratio_sub => k_is)
    (case f_Ratio_mul => k_is)
    (case g_Ratio_mul => k_is)
    (case fr_Ratio_mul => k_is)
    (case i1_Ratio_mul => k_is)
    (case i2_Ratio_mul => k_is)
    (case fb_Ratio_rmul => k_is)
    (case f_Ratio_rmul => k_is)
    (case g_Ratio_rmul => k_is)
    (case si_C_Ratio => k_is)
    (case fb_Ratio_rsub => k_is)
    (case f_Ratio_rsub => k_is)
    (case g_Ratio_rsub => k_is)
    (case fb_Ratio_radd => k_is)
    (case f_Ratio_radd => k_is)
    (case g_Ratio_radd => k_is)
    (case h_ne_Ratio_eq => k_is)
    (case h_ob_Ratio => k_is)
    (case h_s_Ratio_str => k_is)
    (case h_sf_Ratio_str => k_is)
    (case h_s_Ratio_repr => k_is)
    (case h_sf_Ratio_repr => k_is)
    (case h_u_Ratio_neg => k_is)
    (case h_uf_Ratio_neg => k_is)
    (case cr1_cr_Ratio => k_is)
    (case cr2_cr_Ratio => k_is)
    (case cm1_cm_Ratio_total => k_is)
    (case cm2_cm_Ratio_total => k_is)
    (case cm3_cm_Ratio_total => k_is)
    (case l_law_pot => k_is)
    (case c_law_pot => k_is)
    (case k_law_pot => k_is)
    (case l_law_draw => k_is)
    (case c_law_draw => k_is)
    (case k_law_draw => k_is)
    (case l_law_pick => k_is)
    (case c_law_pick => k_is)
    (case k_law_pick => k_is)
    (case l_law_top => k_is)
    (case c_law_top => k_is)
    (case k_law_top => k_is)
    (case l_law_whole => k_is)
    (case c_law_whole => k_is)
    (case k_law_whole => k_is)
    (case l_law_pair => k_is)
    (case c_law_pair => k_is)
    (case k_law_pair => k_is)
    (case l_law_common => k_is)
    (case c_law_common => k_is)
    (case k_law_common => k_is)
    (case l_is_integer => k_is)
    (case c_is_integer => k_is)
    (case k_is_integer => k_is)
    (case l_is_list => k_is)
    (case c_is_list => k_is)
    (case k_is_list => k_is)
    (case l_Ratio_init => k_is)
    (case c_Ratio_init => k_is)
    (case k_Ratio_init => k_is)
    (case dl_Ratio_init => k_is)
    (case dd_Ratio_init => exact rfl)
    (case l_as_ratio => k_is)
    (case c_as_ratio => k_is)
    (case k_as_ratio => k_is)
    (case l_Ratio_top => k_is)
    (case c_Ratio_top => k_is)
    (case k_Ratio_top => k_is)
    (case l_Ratio_bottom => k_is)
    (case c_Ratio_bottom => k_is)
    (case k_Ratio_bottom => k_is)
    (case l_Ratio_sign => k_is)
    (case c_Ratio_sign => k_is)
    (case k_Ratio_sign => k_is)
    (case l_Ratio_is_whole => k_is)
    (case c_Ratio_is_whole => k_is)
    (case k_Ratio_is_whole => k_is)
    (case l_Ratio_eq => k_is)
    (case c_Ratio_eq => k_is)
    (case k_Ratio_eq => k_is)
    (case l_Ratio_str => k_is)
    (case c_Ratio_str => k_is)
    (case k_Ratio_str => k_is)
    (case l_Ratio_repr => k_is)
    (case c_Ratio_repr => k_is)
    (case k_Ratio_repr => k_is)
    (case l_Ratio_neg => k_is)
    (case c_Ratio_neg => k_is)
    (case k_Ratio_neg => k_is)
    (case l_Ratio_add => k_is)
    (case c_Ratio_add => k_is)
    (case k_Ratio_add => k_is)
    (case l_Ratio_radd => k_is)
    (case c_Ratio_radd => k_is)
    (case k_Ratio_radd => k_is)
    (case l_Ratio_sub => k_is)
    (case c_Ratio_sub => k_is)
    (case k_Ratio_sub => k_is)
    (case l_Ratio_rsub => k_is)
    (case c_Ratio_rsub => k_is)
    (case k_Ratio_rsub => k_is)
    (case l_Ratio_mul => k_is)
    (case c_Ratio_mul => k_is)
    (case k_Ratio_mul => k_is)
    (case l_Ratio_rmul => k_is)
    (case c_Ratio_rmul => k_is)
    (case k_Ratio_rmul => k_is)
    (case l_Ratio_over => k_is)
    (case c_Ratio_over => k_is)
    (case k_Ratio_over => k_is)
    (case l_Ratio_size => k_is)
    (case c_Ratio_size => k_is)
    (case k_Ratio_size => k_is)
    (case l_Ratio_is_below => k_is)
    (case c_Ratio_is_below => k_is)
    (case k_Ratio_is_below => k_is)
    (case l_Ratio_is_at_most => k_is)
    (case c_Ratio_is_at_most => k_is)
    (case k_Ratio_is_at_most => k_is)
    (case l_Ratio_total => k_is)
    (case c_Ratio_total => k_is)
    (case k_Ratio_total => k_is)
    (case l_law_is => k_is)
    (case c_law_is => k_is)
    (case k_law_is => k_is)
    (case l_law_two_right => k_is)
    (case c_law_two_right => k_is)
    (case k_law_two_right => k_is)
    (case l_law_whole_right => k_is)
    (case c_law_whole_right => k_is)
    (case k_law_whole_right => k_is)
    (case l_law_total_right => k_is)
    (case c_law_total_right => k_is)
    (case k_law_total_right => k_is)
    (case l_law => k_is)
    (case c_law => k_is)
    (case k_law => k_is)
