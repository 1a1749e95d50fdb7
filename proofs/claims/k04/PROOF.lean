import PyProof.Rows.All
import Wide.All
import OpenK.AllK
import Wide.FinOn
import HandS.ForMost
import HandS.Exc
import HandS.EndBits
import HandS.TupAny
import HandS.Deep
import HandS.Wide
import KE.SortData
import HandS.IsInst
import KE.GoesMore
import OpenK.KOps
import HandS.OwnEq
import PyProof.TupleOfSeq
import PyProof.CollectStr
import HandS.Style
import KE.DataCmp
import PySem.Challenge.RW_typefault_k04_whole_machines_repaired
set_option Elab.async false
set_option linter.all false
set_option autoImplicit false
set_option maxRecDepth 100000
set_option maxHeartbeats 4000000
/-! a state in two parts: what stands fast (g), and all that is tracked (h); what a piece of text evaluates to, over it -/
namespace Tf
open PySem L2
abbrev Fr := PySem.W.Frag
/-! ### states -/
structure Wd where
  g : Hp
  h : Hp
/-- what may change beside the fast part -/
structure Rg where
  mu : Addr -> Prop
  inv : Hp -> Prop
  keep : ∀ H H' : Hp, inv H -> (∀ b o, mu b -> H b = some o -> H' b = some o) -> inv H'
def R0 : Rg := ⟨fun _ => False, fun _ => True, fun _ _ _ _ => trivial⟩
structure Ok (R : Rg) (w : Wd) : Prop where
  sub : ∀ b o, w.g b = some o -> w.h b = some o
  inv : R.inv w.h
  apart : ∀ b, R.mu b -> w.g b = none ∧ w.h b ≠ none
structure Stp (R : Rg) (w w' : Wd) : Prop where
  ok : Ok R w'
  sg : ∀ b o, w.g b = some o -> w'.g b = some o
  keep : ∀ b o, w.h b = some o -> ¬ R.mu b -> w'.h b = some o
  hid : ∀ b o, w.h b = some o -> w.g b = none -> w'.g b = none
  there : ∀ b o, w.h b = some o -> ∃ o', w'.h b = some o'
section
variable {R : Rg} {w w1 w2 w3 : Wd}
theorem Stp.refl (h : Ok R w) : Stp R w w := ⟨h, fun _ _ e => e, fun _ _ e _ => e, fun _ _ _ e => e, fun _ o e => ⟨o, e⟩⟩
theorem Stp.trans (a : Stp R w w1) (b : Stp R w1 w2) : Stp R w w2 :=
  ⟨b.ok, fun x o e => b.sg x o (a.sg x o e), fun x o e n => b.keep x o (a.keep x o e n) n, fun x o e n => by
    obtain ⟨o', e'⟩ := a.there x o e
    exact b.hid x o' e' (a.hid x o e n), fun x o e => by
    obtain ⟨o', e'⟩ := a.there x o e
    exact b.there x o' e'⟩
theorem Stp.gfree (a : Stp R w w1) {p : Addr} (h : w1.h p = none) : w.h p = none := by
  cases e : w.h p with
  | none => rfl
  | some o =>
    obtain ⟨o', e'⟩ := a.there p o e
    rw [e'] at h
    cases h
theorem Ok.gnone (a : Ok R w) {p : Addr} (h : w.h p = none) : w.g p = none := by
  cases e : w.g p with
  | none => rfl
  | some o =>
    rw [a.sub p o e] at h
    cases h
theorem Ok.notmut (a : Ok R w) {p : Addr} (h : w.h p = none) : ¬ R.mu p := fun m => (a.apart p m).2 h
/-- a new object that stands fast -/
theorem Stp.new {p : Addr} {o : HO} (a : Ok R w) (h : w.h p = none) : Stp R w ⟨upd w.g p o, upd w.h p o⟩ := by
  have hg := a.gnone h
  refine ⟨⟨fun b u e => ?_, ?_, fun b m => ?_⟩, fun b u e => ?_, fun b u e _ => ?_, fun b u e n => ?_, fun b u e => ?_⟩
  · by_cases hb : b = p
    · subst hb
      show upd w.h b o b = some u
      rw [upd_same]
      have e' : upd w.g b o b = some u := e
      rw [upd_same] at e'
      exact e'
    · show upd w.h p o b = some u
      have e' : upd w.g p o b = some u := e
      rw [upd_ne hb] at e' ⊢
      exact a.sub b u e'
  · refine R.keep _ _ a.inv fun b u m e => ?_
    show upd w.h p o b = some u
    rw [upd_ne (ne_of_none e h)]
    exact e
  · have hb : b ≠ p := fun z => by
      subst z
      exact (a.apart b m).2 h
    refine ⟨?_, ?_⟩
    · show upd w.g p o b = none
      rw [upd_ne hb]
      exact (a.apart b m).1
    · show upd w.h p o b ≠ none
      rw [upd_ne hb]
      exact (a.apart b m).2
  · show upd w.g p o b = some u
    rw [upd_ne (ne_of_none e hg)]
    exact e
  · show upd w.h p o b = some u
    rw [upd_ne (ne_of_none e h)]
    exact e
  · show upd w.g p o b = none
    rw [upd_ne (ne_of_none e h)]
    exact n
  · refine ⟨u, ?_⟩
    show upd w.h p o b = some u
    rw [upd_ne (ne_of_none e h)]
    exact e
/-- a new object that may change still -/
theorem Stp.newM {p : Addr} {o : HO} (a : Ok R w) (h : w.h p = none) : Stp R w ⟨w.g, upd w.h p o⟩ := by
  have k : ∀ b u, w.h b = some u -> upd w.h p o b = some u := fun b u e => by
    rw [upd_ne (ne_of_none e h)]
    exact e
  refine ⟨⟨fun b u e => k b u (a.sub b u e), R.keep _ _ a.inv fun b u _ e => k b u e, fun b m => ?_⟩, fun b u e => e, fun b u e _ => k b u e, fun b u e n => n, fun b u e => ⟨u, k b u e⟩⟩
  obtain ⟨h1, h2⟩ := a.apart b m
  refine ⟨h1, ?_⟩
  cases q : w.h b with
  | none => exact absurd q h2
  | some u =>
    show upd w.h p o b ≠ none
    rw [k b u q]
    intro z
    cases z
/-- a region and one more list that may change -/
def Rg.add (R : Rg) (l : Addr) : Rg := ⟨fun b => R.mu b ∨ b = l, fun H => R.inv H ∧ ∃ xs, H l = some (.lst xs), fun H H' h k => ⟨R.keep H H' h.1 fun b o m e => k b o (.inl m) e, by
  obtain ⟨xs, e⟩ := h.2
  exact ⟨xs, k l _ (.inr rfl) e⟩⟩⟩
theorem Ok.add {l : Addr} {xs : List V} (a : Ok R w) (h : w.h l = some (.lst xs)) (g : w.g l = none) : Ok (R.add l) w := by
  refine ⟨a.sub, ⟨a.inv, xs, h⟩, fun b m => ?_⟩
  rcases m with m | rfl
  · exact a.apart b m
  · refine ⟨g, ?_⟩
    rw [h]
    intro z
    cases z
theorem Stp.of_add {l : Addr} {w0 : Wd} (a : Stp (R.add l) w1 w2) (s : Stp R w0 w1) (h : w0.h l = none) : Stp R w0 w2 := by
  refine ⟨⟨a.ok.sub, a.ok.inv.1, fun b m => a.ok.apart b (.inl m)⟩, fun b o e => a.sg b o (s.sg b o e), fun b o e n => a.keep b o (s.keep b o e n) fun m => ?_, fun b o e n => ?_, fun b o e => ?_⟩
  · rcases m with m | rfl
    · exact n m
    · rw [h] at e
      cases e
  · obtain ⟨o', e'⟩ := s.there b o e
    exact a.hid b o' e' (s.hid b o e n)
  · obtain ⟨o', e'⟩ := s.there b o e
    exact a.there b o' e'
/-- a step that changes nothing but new things, within any region -/
theorem Stp.lift (a : Stp R0 w w1) (h : Ok R w) : Stp R w w1 :=
  ⟨⟨a.ok.sub, R.keep _ _ h.inv fun b o _ e => a.keep b o e fun z => z, fun b m => by
    obtain ⟨h1, h2⟩ := h.apart b m
    cases e : w.h b with
    | none => exact absurd e h2
    | some o =>
      refine ⟨a.hid b o e h1, ?_⟩
      rw [a.keep b o e fun z => z]
      intro z
      cases z⟩, a.sg, fun b o e _ => a.keep b o e fun z => z, a.hid, a.there⟩
theorem Ok.low (h : Ok R w) : Ok R0 w := ⟨h.sub, trivial, fun _ m => m.elim⟩
/-- the list at l changes -/
theorem Stp.set {l : Addr} {xs ys : List V} (a : Ok (R.add l) w) (n : ¬ R.mu l) (h : w.h l = some (.lst xs)) : Stp (R.add l) w ⟨w.g, upd w.h l (.lst ys)⟩ := by
  have hg := (a.apart l (.inr rfl)).1
  have k : ∀ b u, b ≠ l -> w.h b = some u -> upd w.h l (.lst ys) b = some u := fun b u hb e => by
    rw [upd_ne hb]
    exact e
  refine ⟨⟨fun b u e => k b u (fun z => by subst z; rw [hg] at e; cases e) (a.sub b u e), ⟨R.keep _ _ a.inv.1 fun b u m e => k b u (fun z => by subst z; exact n m) e, ys, upd_same⟩, fun b m => ?_⟩, fun b u e => e, fun b u e m => k b u (fun z => m (.inr z)) e, fun b u e n => n, fun b u e => ?_⟩
  · obtain ⟨h1, h2⟩ := a.apart b m
    refine ⟨h1, ?_⟩
    by_cases hb : b = l
    · subst hb
      show upd w.h b (.lst ys) b ≠ none
      rw [upd_same]
      intro z
      cases z
    · show upd w.h l (.lst ys) b ≠ none
      rw [upd_ne hb]
      exact h2
  · by_cases hb : b = l
    · subst hb
      exact ⟨_, upd_same⟩
    · exact ⟨u, k b u hb e⟩
/-- the list at l stands fast from now on -/
theorem Stp.freeze {l : Addr} {xs : List V} {w0 : Wd} (a : Stp R w0 w) (h : w.h l = some (.lst xs)) (n : w0.h l = none) (g : w.g l = none) (nm : ¬ R.mu l) : Stp R w0 ⟨upd w.g l (.lst xs), w.h⟩ := by
  refine ⟨⟨fun b u e => ?_, a.ok.inv, fun b m => ⟨?_, (a.ok.apart b m).2⟩⟩, fun b u e => ?_, a.keep, fun b u e z => ?_, a.there⟩
  · by_cases hb : b = l
    · subst hb
      have e' : upd w.g b (.lst xs) b = some u := e
      rw [upd_same] at e'
      show w.h b = some u
      rw [h]
      exact e'
    · have e' : upd w.g l (.lst xs) b = some u := e
      rw [upd_ne hb] at e'
      exact a.ok.sub b u e'
  · show upd w.g l (.lst xs) b = none
    rw [upd_ne (fun z => by subst z; exact nm m)]
    exact (a.ok.apart b m).1
  · show upd w.g l (.lst xs) b = some u
    have e1 := a.sg b u e
    rw [upd_ne (ne_of_none e1 g)]
    exact e1
  · show upd w.g l (.lst xs) b = none
    rw [upd_ne (ne_of_none e n)]
    exact a.hid b u e z
end
/-! ### what is said of a value, over the fast part -/
structure Pd where
  P : V -> Hp -> Prop
  st : ∀ v (G G' : Hp), (∀ b o, G b = some o -> G' b = some o) -> P v G -> P v G'
section
variable (K : Fr)
theorem sqL_mono {G G' : Hp} {a : Addr} {xs : List V} (k : ∀ b o, G b = some o -> G' b = some o) (h : SqL K G a xs) : SqL K G' a xs := Same.seq (K := K) k h
theorem sqT_mono {G G' : Hp} {a : Addr} {xs : List V} (k : ∀ b o, G b = some o -> G' b = some o) (h : SqT K G a xs) : SqT K G' a xs := by
  rcases h with (h | ⟨o, h⟩) | h
  · exact .inl (.inl (k _ _ h))
  · exact .inl (.inr ⟨o, k _ _ h⟩)
  · exact .inr h
mutual
theorem dp_mono {G G' : Hp} (k : ∀ b o, G b = some o -> G' b = some o) : ∀ (d : PyData) (v : V), Dp K G v d -> Dp K G' v d
  | .none, _, h => by cases h; exact .non
  | .bool b, _, h => by cases h; exact .bl b
  | .int i, _, h => by cases h; exact .int i
  | .str x, _, h => by cases h; exact .str x
  | .list ds, _, h => by
    cases h with
    | lst hs ha => exact .lst (sqL_mono K k hs) (dpAll_mono k ds _ ha)
  | .tuple ds, _, h => by
    cases h with
    | tup hs ha => exact .tup (sqT_mono K k hs) (dpAll_mono k ds _ ha)
  | .dict _, _, h => by cases h
theorem dpAll_mono {G G' : Hp} (k : ∀ b o, G b = some o -> G' b = some o) : ∀ (ds : List PyData) (vs : List V), DpAll K G vs ds -> DpAll K G' vs ds
  | [], _, h => by cases h; exact .nil
  | d :: ds, _, h => by
    cases h with
    | cons h1 h2 => exact .cons (dp_mono k d _ h1) (dpAll_mono k ds _ h2)
end
theorem dpAll_len {G : Hp} : ∀ {vs : List V} {ds : List PyData}, DpAll K G vs ds -> vs.length = ds.length
  | _, _, .nil => rfl
  | _, _, .cons _ t => by rw [List.length_cons, List.length_cons, dpAll_len t]
theorem dpAll_get {G : Hp} : ∀ {vs : List V} {ds : List PyData} {i : Nat} {v : V} {d : PyData}, DpAll K G vs ds -> vs[i]? = some v -> ds[i]? = some d -> Dp K G v d
  | _, _, _, _, _, .nil, e, _ => by simp at e
  | _, _, 0, _, _, .cons h _, e, e' => by
    simp at e e'
    subst e e'
    exact h
  | _, _, i + 1, _, _, .cons _ t, e, e' => dpAll_get (i := i) t (by simpa using e) (by simpa using e')
theorem dpAll_get' {G : Hp} {vs : List V} {ds : List PyData} {i : Nat} {d : PyData} (h : DpAll K G vs ds) (e : ds[i]? = some d) : ∃ v, vs[i]? = some v ∧ Dp K G v d := by
  have hi : i < vs.length := by rw [dpAll_len K h]; exact (List.getElem?_eq_some_iff.mp e).1
  exact ⟨vs[i], List.getElem?_eq_getElem hi, dpAll_get K h (List.getElem?_eq_getElem hi) e⟩
theorem dpAll_app {G : Hp} : ∀ {vs us : List V} {ds es : List PyData}, DpAll K G vs ds -> DpAll K G us es -> DpAll K G (vs ++ us) (ds ++ es)
  | _, _, _, _, .nil, h => h
  | _, _, _, _, .cons h t, h' => .cons h (dpAll_app t h')
theorem dpAll_take {G : Hp} : ∀ {vs : List V} {ds : List PyData} (n : Nat), DpAll K G vs ds -> DpAll K G (vs.take n) (ds.take n)
  | _, _, 0, _ => by simp; exact .nil
  | _, _, _ + 1, .nil => by simp; exact .nil
  | _, _, n + 1, .cons h t => .cons h (dpAll_take n t)
theorem dpAll_drop {G : Hp} : ∀ {vs : List V} {ds : List PyData} (n : Nat), DpAll K G vs ds -> DpAll K G (vs.drop n) (ds.drop n)
  | _, _, 0, h => h
  | _, _, _ + 1, .nil => by simp; exact .nil
  | _, _, n + 1, .cons _ t => dpAll_drop n t
def dat (d : PyData) : Pd := ⟨fun v G => Dp K G v d, fun v _ _ k h => dp_mono K k d v h⟩
end
def Pd.ex {α : Type} (f : α -> Pd) : Pd := ⟨fun v G => ∃ a, (f a).P v G, fun v G G' k ⟨a, h⟩ => ⟨a, (f a).st v G G' k h⟩⟩
def Pd.both (p : Pd) (q : Prop) : Pd := ⟨fun v G => p.P v G ∧ q, fun v G G' k h => ⟨p.st v G G' k h.1, h.2⟩⟩
def own (l : Addr) : Pd := ⟨fun v _ => v = .ref l, fun _ _ _ _ h => h⟩
def anyP : Pd := ⟨fun _ _ => True, fun _ _ _ _ _ => trivial⟩
/-- slots -/
abbrev Sl := List (Option Pd)
inductive EnvOk (G : Hp) : Sl -> St -> Prop
  | nil : EnvOk G [] []
  | hole {s : Option V} {Γ : Sl} {σ : St} : EnvOk G Γ σ -> EnvOk G (Option.none :: Γ) (s :: σ)
  | full {p : Pd} {v : V} {Γ : Sl} {σ : St} : p.P v G -> EnvOk G Γ σ -> EnvOk G (Option.some p :: Γ) (Option.some v :: σ)
theorem EnvOk.get {G : Hp} : ∀ {Γ : Sl} {σ : St} {i : Nat} {p : Pd}, EnvOk G Γ σ -> Γ[i]? = some (some p) -> ∃ v, σ[i]? = some (some v) ∧ p.P v G
  | _, _, _, _, .nil, e => by simp at e
  | _, _, 0, _, .hole _, e => by simp at e
  | _, _, 0, _, .full h _, e => by
    simp at e
    subst e
    exact ⟨_, rfl, h⟩
  | _, _, i + 1, _, .hole t, e => by
    obtain ⟨v, h⟩ := EnvOk.get (i := i) t (by simpa using e)
    exact ⟨v, by simpa using h⟩
  | _, _, i + 1, _, .full _ t, e => by
    obtain ⟨v, h⟩ := EnvOk.get (i := i) t (by simpa using e)
    exact ⟨v, by simpa using h⟩
theorem EnvOk.set {G : Hp} {p : Pd} {v : V} (h : p.P v G) : ∀ {Γ : Sl} {σ : St} (i : Nat), EnvOk G Γ σ -> EnvOk G (Γ.set i (some p)) (σ.set i (some v))
  | _, _, _, .nil => by simp; exact .nil
  | _, _, 0, .hole t => .full h t
  | _, _, 0, .full _ t => .full h t
  | _, _, i + 1, .hole t => .hole (EnvOk.set h i t)
  | _, _, i + 1, .full q t => .full q (EnvOk.set h i t)
theorem EnvOk.wipe {G : Hp} : ∀ {Γ : Sl} {σ : St} (i : Nat), EnvOk G Γ σ -> EnvOk G (Γ.set i none) (σ.set i none)
  | _, _, _, .nil => by simp; exact .nil
  | _, _, 0, .hole t => .hole t
  | _, _, 0, .full _ t => .hole t
  | _, _, i + 1, .hole t => .hole (EnvOk.wipe i t)
  | _, _, i + 1, .full q t => .full q (EnvOk.wipe i t)
theorem EnvOk.mono {G G' : Hp} (k : ∀ b o, G b = some o -> G' b = some o) : ∀ {Γ : Sl} {σ : St}, EnvOk G Γ σ -> EnvOk G' Γ σ
  | _, _, .nil => .nil
  | _, _, .hole t => .hole (EnvOk.mono k t)
  | _, _, .full (p := p) (v := v) h t => .full (p.st v G G' k h) (EnvOk.mono k t)
theorem EnvOk.put {G : Hp} {p : Pd} : ∀ {Γ : Sl} {σ : St} (i : Nat) {v : V}, EnvOk G Γ σ -> σ[i]? = some (some v) -> p.P v G -> EnvOk G (Γ.set i (some p)) σ
  | _, _, _, _, .nil, e, _ => by simp at e
  | _, _, 0, _, .hole t, e, h => by
    simp at e
    subst e
    exact .full h t
  | _, _, 0, _, .full _ t, e, h => by
    simp at e
    subst e
    exact .full h t
  | _, _, i + 1, _, .hole t, e, h => .hole (EnvOk.put i t (by simpa using e) h)
  | _, _, i + 1, _, .full q t, e, h => .full q (EnvOk.put i t (by simpa using e) h)
/-- .. of what stands in a slot, the witness is taken out -/
theorem EnvOk.wit {α : Type} {G : Hp} {f : α -> Pd} {Γ : Sl} {σ : St} (i : Nat) (h : EnvOk G Γ σ) (e : Γ[i]? = some (some (Pd.ex f))) : ∃ a, EnvOk G (Γ.set i (some (f a))) σ := by
  obtain ⟨v, hv, a, hp⟩ := h.get e
  exact ⟨a, h.put i hv hp⟩
theorem EnvOk.prop {G : Hp} {p : Pd} {q : Prop} {Γ : Sl} {σ : St} (i : Nat) (h : EnvOk G Γ σ) (e : Γ[i]? = some (some (Pd.both p q))) : q ∧ EnvOk G (Γ.set i (some p)) σ := by
  obtain ⟨v, hv, hp, hq⟩ := h.get e
  exact ⟨hq, h.put i hv hp⟩
end Tf
/-! what a reading evaluates to, over a state in two parts -/
namespace Tf
open PySem L2
inductive AllP (G : Hp) : List Pd -> List V -> Prop
  | nil : AllP G [] []
  | cons {p : Pd} {v : V} {ps : List Pd} {vs : List V} : p.P v G -> AllP G ps vs -> AllP G (p :: ps) (v :: vs)
theorem AllP.mono {G G' : Hp} (k : ∀ b o, G b = some o -> G' b = some o) : ∀ {ps : List Pd} {vs : List V}, AllP G ps vs -> AllP G' ps vs
  | _, _, .nil => .nil
  | _, _, .cons (p := p) (v := v) h t => .cons (p.st v G G' k h) (AllP.mono k t)
def Ev (R : Rg) (Γ : Sl) (w : Wd) (te : TE) (p : Pd) : Prop := ∀ (σ : L2.St) (w1 : Wd), EnvOk w1.g Γ σ -> Stp R w w1 -> ∀ Q : VK, (∀ v w2, Stp R w1 w2 -> p.P v w2.g -> Q v w2.h) -> te σ w1.h Q
def EvT (R : Rg) (Γ : Sl) (w : Wd) (tt : TT) (b : Bool) : Prop := ∀ (σ : L2.St) (w1 : Wd), EnvOk w1.g Γ σ -> Stp R w w1 -> ∀ Q : Bool -> Hp -> Prop, (∀ w2, Stp R w1 w2 -> Q b w2.h) -> tt σ w1.h Q
def EvA (R : Rg) (Γ : Sl) (w : Wd) (ta : TA) (ps : List Pd) : Prop := ∀ (σ : L2.St) (w1 : Wd), EnvOk w1.g Γ σ -> Stp R w w1 -> ∀ Q : List V -> Hp -> Prop, (∀ vs w2, Stp R w1 w2 -> AllP w2.g ps vs -> Q vs w2.h) -> ta σ w1.h Q
def EvO (R : Rg) (Γ : Sl) (w : Wd) (to : TO) (o : Option Int) : Prop := ∀ (σ : L2.St) (w1 : Wd), EnvOk w1.g Γ σ -> Stp R w w1 -> ∀ Q : Option Int -> Hp -> Prop, (∀ w2, Stp R w1 w2 -> Q o w2.h) -> to σ w1.h Q
def RV (R : Rg) (w : Wd) (r : R2) (p q s : Pd) : Prop := ∀ (x y : V) (w1 : Wd), Stp R w w1 -> p.P x w1.g -> q.P y w1.g -> ∀ Q : VK, (∀ v w2, Stp R w1 w2 -> s.P v w2.g -> Q v w2.h) -> r x y w1.h Q
def RU (R : Rg) (w : Wd) (r : V -> Hp -> VK -> Prop) (p s : Pd) : Prop := ∀ (x : V) (w1 : Wd), Stp R w w1 -> p.P x w1.g -> ∀ Q : VK, (∀ v w2, Stp R w1 w2 -> s.P v w2.g -> Q v w2.h) -> r x w1.h Q
def RC (R : Rg) (w : Wd) (r : List V -> Hp -> VK -> Prop) (ps : List Pd) (s : Pd) : Prop := ∀ (xs : List V) (w1 : Wd), Stp R w w1 -> AllP w1.g ps xs -> ∀ Q : VK, (∀ v w2, Stp R w1 w2 -> s.P v w2.g -> Q v w2.h) -> r xs w1.h Q
def RS (R : Rg) (w : Wd) (sp : Sp) (ps : List Pd) (s : Pd) : Prop := ∀ (xs : List V) (w1 : Wd), Stp R w w1 -> AllP w1.g ps xs -> ∀ Q : VK, (∀ v w2, Stp R w1 w2 -> s.P v w2.g -> Q v w2.h) -> ∀ E : XK, sp xs w1.h Q E
section
variable {K : Fr} {R : Rg} {Γ : Sl} {w w' : Wd} {ta tb te : TE} {t u : TT} {p q s : Pd} {tr : TA}
theorem Ev.up (h : Ev R Γ w te p) (a : Stp R w w') : Ev R Γ w' te p := fun σ w1 e b Q k => h σ w1 e (a.trans b) Q k
theorem EvT.up {b : Bool} (h : EvT R Γ w t b) (a : Stp R w w') : EvT R Γ w' t b := fun σ w1 e c Q k => h σ w1 e (a.trans c) Q k
theorem Ev.weak (h : Ev R Γ w te p) (k : ∀ v G, p.P v G -> q.P v G) : Ev R Γ w te q := fun σ w1 e a Q n => h σ w1 e a Q fun v w2 s hv => n v w2 s (k v _ hv)
theorem Ev.to {d d' : PyData} (h : Ev R Γ w te (dat K d)) (e : d = d') : Ev R Γ w te (dat K d') := e ▸ h
theorem EvT.to {b b' : Bool} (h : EvT R Γ w t b) (e : b = b') : EvT R Γ w t b' := e ▸ h
theorem ev_var {i : Nat} (h : Γ[i]? = some (some p)) : Ev R Γ w (tVar i) p := fun σ w1 e a Q k => by
  obtain ⟨v, hv, hp⟩ := e.get h
  exact ⟨v, hv, k v w1 (Stp.refl a.ok) hp⟩
theorem ev_c {v : V} {d : PyData} (h : ∀ G, Dp K G v d) : Ev R Γ w (tC v) (dat K d) := fun σ w1 e a Q k => k v w1 (Stp.refl a.ok) (h _)
theorem ev_int {n : Int} : Ev R Γ w (tC (.int n)) (dat K (.int n)) := ev_c fun _ => .int n
theorem ev_str {x : Str} : Ev R Γ w (tC (.str x)) (dat K (.str x)) := ev_c fun _ => .str x
theorem ev_bl {b : Bool} : Ev R Γ w (tC (.bl b)) (dat K (.bool b)) := ev_c fun _ => .bl b
theorem ev_non : Ev R Γ w (tC .non) (dat K .none) := ev_c fun _ => .non
theorem ev_cp {v : V} (h : ∀ G, p.P v G) : Ev R Γ w (tC v) p := fun σ w1 e a Q k => k v w1 (Stp.refl a.ok) (h _)
theorem ev_op {r : R2} (ha : Ev R Γ w ta p) (hb : Ev R Γ w tb q) (hr : RV R w r p q s) : Ev R Γ w (tOp r ta tb) s := fun σ w1 e a Q k =>
  ha σ w1 e a _ fun x w2 s2 hx => hb σ w2 (e.mono s2.sg) (a.trans s2) _ fun y w3 s3 hy =>
    hr x y w3 ((a.trans s2).trans s3) (p.st x _ _ s3.sg hx) hy Q fun v w4 s4 hv => k v w4 ((s2.trans s3).trans s4) hv
theorem ev_un {r : V -> Hp -> VK -> Prop} (ha : Ev R Γ w ta p) (hr : RU R w r p s) : Ev R Γ w (tUn r ta) s := fun σ w1 e a Q k =>
  ha σ w1 e a _ fun x w2 s2 hx => hr x w2 (a.trans s2) hx Q fun v w4 s4 hv => k v w4 (s2.trans s4) hv
theorem ea_nil : EvA R Γ w tNil [] := fun σ w1 e a Q k => k [] w1 (Stp.refl a.ok) .nil
theorem ea_cons {ps : List Pd} (h : Ev R Γ w ta p) (hr : EvA R Γ w tr ps) : EvA R Γ w (tCons ta tr) (p :: ps) := fun σ w1 e a Q k =>
  h σ w1 e a _ fun x w2 s2 hx => hr σ w2 (e.mono s2.sg) (a.trans s2) _ fun xs w3 s3 hxs => k _ w3 (s2.trans s3) (.cons (p.st x _ _ s3.sg hx) hxs)
theorem allP_dat {G : Hp} : ∀ {ds : List PyData} {vs : List V}, AllP G (ds.map (dat K)) vs -> DpAll K G vs ds
  | [], _, h => by cases h; exact .nil
  | d :: ds, _, h => by
    cases h with
    | cons h1 h2 => exact .cons h1 (allP_dat h2)
theorem allP_of {G : Hp} : ∀ {ds : List PyData} {vs : List V}, DpAll K G vs ds -> AllP G (ds.map (dat K)) vs
  | [], _, h => by cases h; exact .nil
  | d :: ds, _, h => by
    cases h with
    | cons h1 h2 => exact .cons h1 (allP_of h2)
/-- (a, b, ..) of data -/
theorem ev_tup (ds : List PyData) (h : EvA R Γ w tr (ds.map (dat K))) (hl : ds.length ≤ 100000 := by decide) : Ev R Γ w (tTup tr) (dat K (.tuple ds)) := fun σ w1 e a Q k =>
  h σ w1 e a _ fun vs w2 s2 hv => by
    have hd := allP_dat hv
    have el := dpAll_len K hd
    refine ⟨by rw [el]; exact Nat.le_trans hl (by decide), fun p hp => ?_⟩
    have st := Stp.new (o := .tup vs) s2.ok hp
    exact k (.ref p) _ (s2.trans st) (.tup (SqT.of upd_same) (dpAll_mono K st.sg ds vs hd))
theorem ev_lst (ds : List PyData) (h : EvA R Γ w tr (ds.map (dat K))) (hl : ds.length ≤ 100000 := by decide) : Ev R Γ w (tLst tr) (dat K (.list ds)) := fun σ w1 e a Q k =>
  h σ w1 e a _ fun vs w2 s2 hv => by
    have hd := allP_dat hv
    have el := dpAll_len K hd
    refine ⟨by rw [el]; exact Nat.le_trans hl (by decide), fun p hp => ?_⟩
    have st := Stp.new (o := .lst vs) s2.ok hp
    exact k (.ref p) _ (s2.trans st) (.lst (SqL.of upd_same) (dpAll_mono K st.sg ds vs hd))
/-! ### operators -/
theorem rv_I0 {g : Int -> Int -> V} {i j : Int} {d : PyData} (h : ∀ G, Dp K G (g i j) d) : RV R w (rI0 g) (dat K (.int i)) (dat K (.int j)) (dat K d) := fun x y w1 a hx hy Q k => by
  cases hx
  cases hy
  exact ⟨i, j, rfl, rfl, k _ w1 (Stp.refl a.ok) (h _)⟩
theorem rv_I {C : Int -> Int -> Prop} {g : Int -> Int -> V} {i j : Int} {d : PyData} (hc : C i j) (h : ∀ G, Dp K G (g i j) d) : RV R w (rI C g) (dat K (.int i)) (dat K (.int j)) (dat K d) := fun x y w1 a hx hy Q k => by
  cases hx
  cases hy
  exact ⟨i, j, rfl, rfl, hc, k _ w1 (Stp.refl a.ok) (h _)⟩
theorem ru_U {g : Int -> V} {i : Int} {d : PyData} (h : ∀ G, Dp K G (g i) d) : RU R w (rU g) (dat K (.int i)) (dat K d) := fun x w1 a hx Q k => by
  cases hx
  exact ⟨i, rfl, k _ w1 (Stp.refl a.ok) (h _)⟩
/-- flat data -/
def fl : V -> PyData
  | .bl b => .bool b
  | .int i => .int i
  | .str x => .str x
  | _ => .none
theorem dp_low {G H : Hp} (k : ∀ b o, G b = some o -> H b = some o) {d : PyData} {v : V} (h : Dp K G v d) : Dp K H v d := dp_mono K k d v h
theorem rv_eqD {d e : PyData} (h1 : SeqAt.shaped d = true) (h2 : SeqAt.shaped e = true) : RV R w (rEqD K) (dat K d) (dat K e) (dat K (.bool (PyData.eqv d e))) := fun x y w1 a hx hy Q k =>
  ⟨d, e, dp_low a.ok.sub hx, dp_low a.ok.sub hy, h1, h2, k _ w1 (Stp.refl a.ok) (.bl _)⟩
theorem rv_neD {d e : PyData} (h1 : SeqAt.shaped d = true) (h2 : SeqAt.shaped e = true) : RV R w (rNeD K) (dat K d) (dat K e) (dat K (.bool (!PyData.eqv d e))) := fun x y w1 a hx hy Q k =>
  ⟨d, e, dp_low a.ok.sub hx, dp_low a.ok.sub hy, h1, h2, k _ w1 (Stp.refl a.ok) (.bl _)⟩
/-- ==, != where scalars meet -/
def sq : PyData -> PyData -> Bool
  | .none, .none => true
  | .bool a, .bool b => decide (a = b)
  | .int a, .int b => decide (a = b)
  | .str a, .str b => decide (a = b)
  | _, _ => false
def scl : PyData -> PyData -> Bool
  | .none, .none => true
  | .bool _, .bool _ => true
  | .int _, .int _ => true
  | .str _, .str _ => true
  | .none, .int _ => true
  | .none, .str _ => true
  | .int _, .none => true
  | .str _, .none => true
  | .none, .bool _ => true
  | .bool _, .none => true
  | .int _, .str _ => true
  | .str _, .int _ => true
  | .bool _, .str _ => true
  | .str _, .bool _ => true
  | _, _ => false
theorem scl_of {G : Hp} {d e : PyData} {x y : V} (h : scl d e = true) (hx : Dp K G x d) (hy : Dp K G y e) : scal x y = true ∧ decide (x = y) = sq d e := by
  cases hx <;> cases hy <;> first | (simp [scal, sq]; done) | (exfalso; revert h; simp [scl]; done)
theorem rv_eq {d e : PyData} (h : scl d e = true) : RV R w rEq (dat K d) (dat K e) (dat K (.bool (sq d e))) := fun x y w1 a hx hy Q k => by
  obtain ⟨h1, h2⟩ := scl_of h hx hy
  exact ⟨h1, by rw [h2]; exact k _ w1 (Stp.refl a.ok) (.bl _)⟩
theorem rv_ne {d e : PyData} (h : scl d e = true) : RV R w rNe (dat K d) (dat K e) (dat K (.bool (!sq d e))) := fun x y w1 a hx hy Q k => by
  obtain ⟨h1, h2⟩ := scl_of h hx hy
  exact ⟨h1, by rw [h2]; exact k _ w1 (Stp.refl a.ok) (.bl _)⟩
/-- in, not in over a list or a tuple of data -/
def rInA (K : Fr) (neg : Bool) : R2 := fun x y H Q => ∃ d ds, Dp K H x d ∧ (Dp K H y (.list ds) ∨ Dp K H y (.tuple ds)) ∧ SeqAt.shaped d = true ∧ SeqAt.shaped (.list ds) = true ∧ Q (.bl (if neg then !(ds.any fun z => PyData.eqv z d) else ds.any fun z => PyData.eqv z d)) H
section
variable {X : Cx}
theorem op_inA (hu : X.A.units + 65 < cLine) : OpR X (compareOp .In) (rInA X.K false) := by
  intro pins s σ H x y v u Q I rx ry h
  obtain ⟨d, ds, hd, he, sd, se, q⟩ := h
  obtain ⟨as, r1⟩ := Dp.reads I d x v hd rx
  have hr := PyProof.Rows.room_in_shaped (xs := ds) sd hu
  rcases he with he | he
  · obtain ⟨bs, r2⟩ := Dp.reads I (.list ds) y u he ry
    exact SeqAt.in_list_reads r2 r1 (SeqAt.canLay_of_shaped se) (SeqAt.canLay_of_shaped sd) hr ⟨.bl _, H, I, rfl, q⟩
  · obtain ⟨bs, r2⟩ := Dp.reads I (.tuple ds) y u he ry
    exact SeqAt.in_tuple_reads r2 r1 (SeqAt.canLay_of_shaped se) (SeqAt.canLay_of_shaped sd) hr ⟨.bl _, H, I, rfl, q⟩
theorem op_notInA (hu : X.A.units + 65 < cLine) : OpR X (compareOp .NotIn) (rInA X.K true) := by
  intro pins s σ H x y v u Q I rx ry h
  obtain ⟨d, ds, hd, he, sd, se, q⟩ := h
  obtain ⟨as, r1⟩ := Dp.reads I d x v hd rx
  have hr := PyProof.Rows.room_in_shaped (xs := ds) sd hu
  rcases he with he | he
  · obtain ⟨bs, r2⟩ := Dp.reads I (.list ds) y u he ry
    exact SeqAt.notIn_list_reads r2 r1 (SeqAt.canLay_of_shaped se) (SeqAt.canLay_of_shaped sd) hr ⟨.bl _, H, I, rfl, q⟩
  · obtain ⟨bs, r2⟩ := Dp.reads I (.tuple ds) y u he ry
    exact SeqAt.notIn_tuple_reads r2 r1 (SeqAt.canLay_of_shaped se) (SeqAt.canLay_of_shaped sd) hr ⟨.bl _, H, I, rfl, q⟩
end
theorem rv_inL {neg : Bool} {d : PyData} {ds : List PyData} (h1 : SeqAt.shaped d = true) (h2 : SeqAt.shaped (.list ds) = true) : RV R w (rInA K neg) (dat K d) (dat K (.list ds)) (dat K (.bool (if neg then !(ds.any fun z => PyData.eqv z d) else ds.any fun z => PyData.eqv z d))) := fun x y w1 a hx hy Q k =>
  ⟨d, ds, dp_low a.ok.sub hx, .inl (dp_low a.ok.sub hy), h1, h2, k _ w1 (Stp.refl a.ok) (.bl _)⟩
theorem rv_inT {neg : Bool} {d : PyData} {ds : List PyData} (h1 : SeqAt.shaped d = true) (h2 : SeqAt.shaped (.list ds) = true) : RV R w (rInA K neg) (dat K d) (dat K (.tuple ds)) (dat K (.bool (if neg then !(ds.any fun z => PyData.eqv z d) else ds.any fun z => PyData.eqv z d))) := fun x y w1 a hx hy Q k =>
  ⟨d, ds, dp_low a.ok.sub hx, .inr (dp_low a.ok.sub hy), h1, h2, k _ w1 (Stp.refl a.ok) (.bl _)⟩
/-- items -/
theorem atI_of {α β : Type} {xs : List α} {ys : List β} (hl : xs.length = ys.length) {i : Int} {y : β} (h : atI ys i = some y) : ∃ (j : Nat) (x : α), ys[j]? = some y ∧ xs[j]? = some x ∧ atI xs i = some x := by
  unfold atI at h ⊢
  rw [hl]
  cases e : ixN ys.length i with
  | none =>
    rw [e] at h
    cases h
  | some j =>
    rw [e] at h
    have h' : ys[j]? = some y := h
    have hj : j < xs.length := by rw [hl]; exact (List.getElem?_eq_some_iff.mp h').1
    exact ⟨j, xs[j], h', List.getElem?_eq_getElem hj, List.getElem?_eq_getElem hj⟩
theorem rv_ixL {ds : List PyData} {i : Int} {d : PyData} (h : atI ds i = some d) : RV R w (rIx K) (dat K (.list ds)) (dat K (.int i)) (dat K d) := fun x y w1 a hx hy Q k => by
  cases hx with
  | lst hs ha =>
    cases hy
    obtain ⟨j, v, e1, e2, e3⟩ := atI_of (dpAll_len K ha) h
    exact .inl ⟨_, _, i, v, rfl, rfl, sqL_mono K a.ok.sub hs, e3, k v w1 (Stp.refl a.ok) (dpAll_get K ha e2 e1)⟩
theorem rv_ixT {ds : List PyData} {i : Int} {d : PyData} (h : atI ds i = some d) : RV R w (rIx K) (dat K (.tuple ds)) (dat K (.int i)) (dat K d) := fun x y w1 a hx hy Q k => by
  cases hx with
  | tup hs ha =>
    cases hy
    obtain ⟨j, v, e1, e2, e3⟩ := atI_of (dpAll_len K ha) h
    exact .inr (.inl ⟨_, _, i, v, rfl, rfl, sqT_mono K a.ok.sub hs, e3, k v w1 (Stp.refl a.ok) (dpAll_get K ha e2 e1)⟩)
theorem rv_ixS {z : Str} {i : Int} {c : Nat} (hl : z.length ≤ 100000) (h : atI z.cps.toList i = some c) : RV R w (rIx K) (dat K (.str z)) (dat K (.int i)) (dat K (.str ⟨#[c]⟩)) := fun x y w1 a hx hy Q k => by
  cases hx
  cases hy
  exact .inr (.inr ⟨z, i, c, rfl, rfl, Nat.le_trans hl (by decide), h, k _ w1 (Stp.refl a.ok) (.str _)⟩)
theorem rv_catS {x y : Str} (h : x.length + y.length ≤ 100000) : RV R w (fun x y H Q => ∃ i j, x = .str i ∧ y = .str j ∧ i.length + j.length ≤ sizeLine ∧ Q (.str (i ++ j)) H) (dat K (.str x)) (dat K (.str y)) (dat K (.str (x ++ y))) := fun v u w1 a hx hy Q k => by
  cases hx
  cases hy
  exact ⟨x, y, rfl, rfl, Nat.le_trans h (by decide), k _ w1 (Stp.refl a.ok) (.str _)⟩
/-- tuple + tuple -/
theorem rv_catT {xs ys : List PyData} (h : xs.length + ys.length ≤ 100000) : RV R w (rCatA K) (dat K (.tuple xs)) (dat K (.tuple ys)) (dat K (.tuple (xs ++ ys))) := fun v u w1 a hx hy Q k => by
  cases hx with
  | @tup ad vx _ hs ha =>
    cases hy with
    | @tup bd vy _ ht hb =>
      have l1 := dpAll_len K ha
      have l2 := dpAll_len K hb
      refine ⟨_, _, _, _, rfl, rfl, sqT_mono K a.ok.sub hs, sqT_mono K a.ok.sub ht, by rw [l1, l2]; exact Nat.le_trans h (by decide), fun e => ?_, fun _ e => ?_, fun _ _ p hp => ?_⟩
      · subst e
        cases ha
        exact k _ w1 (Stp.refl a.ok) (.tup ht hb)
      · subst e
        cases hb
        rw [List.append_nil] at k
        exact k _ w1 (Stp.refl a.ok) (.tup hs ha)
      · have st := Stp.new (o := .tup (vx ++ vy)) a.ok hp
        exact k _ _ st (.tup (SqT.of upd_same) (dpAll_mono K st.sg _ _ (dpAll_app K ha hb)))
/-! ### tests, conditional values -/
theorem et_test {b : Bool} (h : Ev R Γ w te (dat K (.bool b))) : EvT R Γ w (tTest te) b := fun σ w1 e a Q k => h σ w1 e a _ fun v w2 s2 hv => by
  cases hv
  exact ⟨b, rfl, k w2 s2⟩
theorem et_B {b : Bool} (h : Ev R Γ w te (dat K (.bool b))) : EvT R Γ w (tB te) b := fun σ w1 e a Q k => h σ w1 e a _ fun v w2 s2 hv => by
  cases hv
  exact ⟨b, rfl, k w2 s2⟩
theorem et_and {a b : Bool} (h1 : EvT R Γ w t a) (h2 : a = true -> EvT R Γ w u b) : EvT R Γ w (tAnd t u) (a && b) := fun σ w1 e s Q k => h1 σ w1 e s _ fun w2 s2 => by
  cases a with
  | true =>
    show u σ w2.h Q
    exact h2 rfl σ w2 (e.mono s2.sg) (s.trans s2) Q fun w3 s3 => k w3 (s2.trans s3)
  | false =>
    show Q false w2.h
    exact k w2 s2
theorem et_or {a b : Bool} (h1 : EvT R Γ w t a) (h2 : a = false -> EvT R Γ w u b) : EvT R Γ w (tOr t u) (a || b) := fun σ w1 e s Q k => h1 σ w1 e s _ fun w2 s2 => by
  cases a with
  | true =>
    show Q true w2.h
    exact k w2 s2
  | false =>
    show u σ w2.h Q
    exact h2 rfl σ w2 (e.mono s2.sg) (s.trans s2) Q fun w3 s3 => k w3 (s2.trans s3)
theorem et_not {a : Bool} (h1 : EvT R Γ w t a) : EvT R Γ w (tNot t) (!a) := fun σ w1 e s Q k => h1 σ w1 e s _ fun w2 s2 => k w2 s2
theorem ev_andV {a b : Bool} (h1 : Ev R Γ w ta (dat K (.bool a))) (h2 : a = true -> Ev R Γ w tb (dat K (.bool b))) : Ev R Γ w (tAndV ta tb) (dat K (.bool (a && b))) := fun σ w1 e s Q k => h1 σ w1 e s _ fun v w2 s2 hv => by
  cases hv
  refine ⟨a, rfl, ?_⟩
  cases a with
  | true =>
    show tb σ w2.h Q
    exact h2 rfl σ w2 (e.mono s2.sg) (s.trans s2) Q fun v w3 s3 => k v w3 (s2.trans s3)
  | false =>
    show Q (.bl false) w2.h
    exact k _ w2 s2 (.bl _)
theorem ev_orV {a b : Bool} (h1 : Ev R Γ w ta (dat K (.bool a))) (h2 : a = false -> Ev R Γ w tb (dat K (.bool b))) : Ev R Γ w (tOrV ta tb) (dat K (.bool (a || b))) := fun σ w1 e s Q k => h1 σ w1 e s _ fun v w2 s2 hv => by
  cases hv
  refine ⟨a, rfl, ?_⟩
  cases a with
  | true =>
    show Q (.bl true) w2.h
    exact k _ w2 s2 (.bl _)
  | false =>
    show tb σ w2.h Q
    exact h2 rfl σ w2 (e.mono s2.sg) (s.trans s2) Q fun v w3 s3 => k v w3 (s2.trans s3)
theorem ev_notV {a : Bool} (h1 : Ev R Γ w ta (dat K (.bool a))) : Ev R Γ w (tNotV ta) (dat K (.bool (!a))) := fun σ w1 e s Q k => h1 σ w1 e s _ fun v w2 s2 hv => by
  cases hv
  exact ⟨a, rfl, k _ w2 s2 (.bl _)⟩
theorem ev_ifE {b : Bool} (h : EvT R Γ w t b) (h1 : b = true -> Ev R Γ w ta p) (h2 : b = false -> Ev R Γ w tb p) : Ev R Γ w (tIf t ta tb) p := fun σ w1 e s Q k => h σ w1 e s _ fun w2 s2 => by
  cases b with
  | true =>
    show ta σ w2.h Q
    exact h1 rfl σ w2 (e.mono s2.sg) (s.trans s2) Q fun v w3 s3 => k v w3 (s2.trans s3)
  | false =>
    show tb σ w2.h Q
    exact h2 rfl σ w2 (e.mono s2.sg) (s.trans s2) Q fun v w3 s3 => k v w3 (s2.trans s3)
def isNo : PyData -> Bool
  | .none => true
  | _ => false
theorem isNo_of {G : Hp} {d : PyData} {x : V} (h : Dp K G x d) : decide (x = V.non) = isNo d := by cases h <;> simp [isNo]
theorem ev_isN {d : PyData} : RV R w (fun x y H Q => y = .non ∧ Q (.bl (decide (x = .non))) H) (dat K d) (dat K .none) (dat K (.bool (isNo d))) := fun x y w1 a hx hy Q k => by
  cases hy
  refine ⟨rfl, ?_⟩
  rw [isNo_of hx]
  exact k _ w1 (Stp.refl a.ok) (.bl _)
theorem ev_notN {d : PyData} : RV R w (fun x y H Q => y = .non ∧ Q (.bl (!decide (x = .non))) H) (dat K d) (dat K .none) (dat K (.bool (!isNo d))) := fun x y w1 a hx hy Q k => by
  cases hy
  refine ⟨rfl, ?_⟩
  rw [isNo_of hx]
  exact k _ w1 (Stp.refl a.ok) (.bl _)
/-! ### calls -/
theorem ev_cb {r : List V -> Hp -> VK -> Prop} {ps : List Pd} (h : EvA R Γ w tr ps) (hr : RC R w r ps s) : Ev R Γ w (tCB r tr) s := fun σ w1 e a Q k =>
  h σ w1 e a _ fun xs w2 s2 hx => hr xs w2 (a.trans s2) hx Q fun v w3 s3 hv => k v w3 (s2.trans s3) hv
theorem ev_call {sp : Sp} {E : XK} {ps : List Pd} (h : EvA R Γ w tr ps) (hr : RS R w sp ps s) : Ev R Γ w (tCall sp [] E tr) s := fun σ w1 e a Q k =>
  h σ w1 e a _ fun xs w2 s2 hx => by
    show sp (xs ++ []) w2.h Q E
    rw [List.append_nil]
    exact hr xs w2 (a.trans s2) hx Q (fun v w3 s3 hv => k v w3 (s2.trans s3) hv) E
/-- a pure def over data: what it asks, what it gives -/
def spD (K : Fr) (pre : List PyData -> Prop) (F : List PyData -> PyData) : Sp := fun vs H Q _ => ∃ (w : Wd) (ds : List PyData), w.h = H ∧ Ok R0 w ∧ DpAll K w.g vs ds ∧ pre ds ∧ ∀ v w', Stp R0 w w' -> Dp K w'.g v (F ds) -> Q v w'.h
theorem rs_D {pre : List PyData -> Prop} {F : List PyData -> PyData} {ds : List PyData} (hp : pre ds) : RS R w (spD K pre F) (ds.map (dat K)) (dat K (F ds)) := fun xs w1 a hx Q k E =>
  ⟨w1, ds, rfl, a.ok.low, allP_dat hx, hp, fun v w2 s2 hv => k v w2 (s2.lift a.ok) hv⟩
/-- f(..) of data -/
theorem ev_callD {pre : List PyData -> Prop} {F : List PyData -> PyData} {E : XK} {ds : List PyData} (h : EvA R Γ w tr (ds.map (dat K))) (hp : pre ds) : Ev R Γ w (tCall (spD K pre F) [] E tr) (dat K (F ds)) := ev_call h (rs_D hp)
theorem spD_len {n : Nat} {pre : List PyData -> Prop} {F : List PyData -> PyData} (hn : ∀ ds, pre ds -> ds.length = n) : ∀ vs H Q E, spD K pre F vs H Q E -> vs.length = n := fun vs H Q E h => by
  obtain ⟨w, ds, _, _, hd, hp, _⟩ := h
  rw [dpAll_len K hd]
  exact hn ds hp
/-! ### statements -/
variable {D : Ends} {σ : L2.St} {tu tv : TS} {g : TG}
theorem q_seq (h : tu { D with nx := tv D } σ w.h) : tSeq tu tv D σ w.h := h
theorem q_asg {i : Nat} (h : Ev R Γ w te p) (e : EnvOk w.g Γ σ) (a : Ok R w) (k : ∀ σ' w', Stp R w w' -> EnvOk w'.g (Γ.set i (some p)) σ' -> D.nx σ' w'.h) : tAsg te (gName i) D σ w.h :=
  h σ w e (Stp.refl a) _ fun v w2 s2 hv => k _ w2 s2 ((e.mono s2.sg).set hv i)
theorem q_ret (h : Ev R Γ w te p) (e : EnvOk w.g Γ σ) (a : Ok R w) (k : ∀ v w', Stp R w w' -> p.P v w'.g -> D.rt v w'.h) : tRet te D σ w.h := h σ w e (Stp.refl a) _ k
theorem q_drop (h : Ev R Γ w te p) (e : EnvOk w.g Γ σ) (a : Ok R w) (k : ∀ w', Stp R w w' -> EnvOk w'.g Γ σ -> D.nx σ w'.h) : tDrop te D σ w.h := h σ w e (Stp.refl a) _ fun v w2 s2 hv => k w2 s2 (e.mono s2.sg)
theorem q_if {b : Bool} (h : EvT R Γ w t b) (e : EnvOk w.g Γ σ) (a : Ok R w) (h1 : b = true -> ∀ w', Stp R w w' -> EnvOk w'.g Γ σ -> tu D σ w'.h) (h2 : b = false -> ∀ w', Stp R w w' -> EnvOk w'.g Γ σ -> tv D σ w'.h) : tIfS t tu tv D σ w.h :=
  h σ w e (Stp.refl a) _ fun w2 s2 => by
    cases b with
    | true =>
      show tu D σ w2.h
      exact h1 rfl w2 s2 (e.mono s2.sg)
    | false =>
      show tv D σ w2.h
      exact h2 rfl w2 s2 (e.mono s2.sg)
theorem q_next (h : D.nx σ w.h) : tNext D σ w.h := h
theorem q_aug {i : Nat} {f : Int -> Int -> Int} {a b : Int} (hx : Γ[i]? = some (some (dat K (.int a)))) (h : Ev R Γ w te (dat K (.int b))) (e : EnvOk w.g Γ σ) (ok : Ok R w) (k : ∀ σ' w', Stp R w w' -> EnvOk w'.g (Γ.set i (some (dat K (.int (f a b))))) σ' -> D.nx σ' w'.h) : tAug i te (ipI f) D σ w.h := by
  obtain ⟨v, hv, hp⟩ := e.get hx
  cases hp
  exact ⟨.int a, hv, h σ w e (Stp.refl ok) _ fun y w2 s2 hy => by
    cases hy
    exact ⟨a, b, rfl, rfl, k _ w2 s2 ((e.mono s2.sg).set (show (dat K (.int (f a b))).P (.int (f a b)) w2.g from .int _) i)⟩⟩
/-! ### loops -/
structure Fst (w w' : Wd) : Prop where
  sg : ∀ b o, w.g b = some o -> w'.g b = some o
  sub : ∀ b o, w'.g b = some o -> w'.h b = some o
theorem Stp.fst {R : Rg} {w w' : Wd} (a : Stp R w w') : Fst w w' := ⟨a.sg, a.ok.sub⟩
/-- a loop's word: it holds at the start, keeps what stands fast, is kept by a turn; behind the last turn all is well -/
def Lp (D : Ends) (tu : TS) (n : Nat) (w2 : Wd) (σ : L2.St) (I : Nat -> L2.St -> Wd -> Prop) (body : Nat -> L2.St -> Wd -> (L2.St -> Hp -> Prop) -> Prop) : Prop :=
  I 0 σ w2 ∧ (∀ i σ' w', I i σ' w' -> Fst w2 w') ∧ (∀ i σ' w' (N : L2.St -> Hp -> Prop), i < n -> I i σ' w' -> (∀ σ3 w3, I (i + 1) σ3 w3 -> N σ3 w3.h) -> body i σ' w' N) ∧ ∀ σ' w', I n σ' w' -> D.nx σ' w'.h
theorem q_forT {tl : TE} {ds : List PyData} {j : Nat} (he : Ev R Γ w tl (dat K (.tuple ds))) (e : EnvOk w.g Γ σ) (a : Ok R w)
    (k : ∀ w2, Stp R w w2 -> EnvOk w2.g Γ σ -> ∃ I, Lp D tu ds.length w2 σ I fun i σ' w' N => ∀ d v, ds[i]? = some d -> Dp K w'.g v d -> tu { D with nx := N, ct := N, bk := D.nx } (σ'.set j (some v)) w'.h) : tFor (iTup K tl) (gName j) tu D σ w.h :=
  he σ w e (Stp.refl a) _ fun v w2 s2 hv => by
    obtain ⟨I, h0, hg, hs, hd⟩ := k w2 s2 (e.mono s2.sg)
    cases hv with
    | @tup ad xs _ hx ha =>
      have ll := dpAll_len K ha
      refine ⟨ad, rfl, ⟨xs, sqT_mono K s2.ok.sub hx⟩, for_tup (K := K) (a := ad) (xs := xs) (fun i σ' H' => ∃ w', w'.h = H' ∧ I i σ' w') ⟨w2, rfl, h0⟩ (fun i σ' H' _ hi => ?_) (fun i x σ' H' hi hI => ?_) fun σ' H' hI => ?_⟩
      · obtain ⟨w', rfl, hI⟩ := hi
        exact sqT_mono K (hg i σ' w' hI).sub (sqT_mono K (hg i σ' w' hI).sg hx)
      · obtain ⟨w', rfl, hI⟩ := hI
        have hi2 : i < ds.length := by rw [← ll]; exact (List.getElem?_eq_some_iff.mp hi).1
        exact hs i σ' w' _ hi2 hI (fun σ3 w3 h3 => ⟨w3, rfl, h3⟩) ds[i] x (List.getElem?_eq_getElem hi2) (dp_mono K (hg i σ' w' hI).sg _ _ (dpAll_get K ha hi (List.getElem?_eq_getElem hi2)))
      · obtain ⟨w', rfl, hI⟩ := hI
        rw [ll] at hI
        exact hd σ' w' hI
theorem q_forL {tl : TE} {ds : List PyData} {j : Nat} (he : Ev R Γ w tl (dat K (.list ds))) (e : EnvOk w.g Γ σ) (a : Ok R w)
    (k : ∀ w2, Stp R w w2 -> EnvOk w2.g Γ σ -> ∃ I, Lp D tu ds.length w2 σ I fun i σ' w' N => ∀ d v, ds[i]? = some d -> Dp K w'.g v d -> tu { D with nx := N, ct := N, bk := D.nx } (σ'.set j (some v)) w'.h) : tFor (iList K tl) (gName j) tu D σ w.h :=
  he σ w e (Stp.refl a) _ fun v w2 s2 hv => by
    obtain ⟨I, h0, hg, hs, hd⟩ := k w2 s2 (e.mono s2.sg)
    cases hv with
    | @lst ad xs _ hx ha =>
      have ll := dpAll_len K ha
      refine ⟨ad, rfl, ⟨xs, sqL_mono K s2.ok.sub hx⟩, for_list (K := K) (a := ad) (xs := xs) (fun i σ' H' => ∃ w', w'.h = H' ∧ I i σ' w') ⟨w2, rfl, h0⟩ (fun i σ' H' _ hi => ?_) (fun i x σ' H' hi hI => ?_) fun σ' H' hI => ?_⟩
      · obtain ⟨w', rfl, hI⟩ := hi
        exact sqL_mono K (hg i σ' w' hI).sub (sqL_mono K (hg i σ' w' hI).sg hx)
      · obtain ⟨w', rfl, hI⟩ := hI
        have hi2 : i < ds.length := by rw [← ll]; exact (List.getElem?_eq_some_iff.mp hi).1
        exact hs i σ' w' _ hi2 hI (fun σ3 w3 h3 => ⟨w3, rfl, h3⟩) ds[i] x (List.getElem?_eq_getElem hi2) (dp_mono K (hg i σ' w' hI).sg _ _ (dpAll_get K ha hi (List.getElem?_eq_getElem hi2)))
      · obtain ⟨w', rfl, hI⟩ := hI
        rw [ll] at hI
        exact hd σ' w' hI
theorem q_forR1 {n : Int} {j : Nat} (he : EvA R Γ w tr [dat K (.int n)]) (h0 : 0 ≤ n ∧ n ≤ 1000000) (e : EnvOk w.g Γ σ) (a : Ok R w)
    (k : ∀ w2, Stp R w w2 -> EnvOk w2.g Γ σ -> ∃ I, Lp D tu n.toNat w2 σ I fun i σ' w' N => tu { D with nx := N, ct := N, bk := D.nx } (σ'.set j (some (.int (i : Int)))) w'.h) : tFor (iRng1 tr) (gName j) tu D σ w.h :=
  he σ w e (Stp.refl a) _ fun vs w2 s2 hv => by
    obtain ⟨I, h1, hg, hs, hd⟩ := k w2 s2 (e.mono s2.sg)
    cases hv with
    | cons hx hn =>
      cases hn
      cases hx
      refine ⟨n, rfl, by omega, by omega, for_range (lo := 0) (n := n.toNat) (fun i σ' H' => ∃ w', w'.h = H' ∧ I i σ' w') ⟨w2, rfl, h1⟩ (fun i σ' H' hi hI => ?_) fun σ' H' hI => ?_⟩
      · obtain ⟨w', rfl, hI⟩ := hI
        have e0 : (0 : Int) + (i : Int) = (i : Int) := Int.zero_add _
        rw [e0]
        exact hs i σ' w' _ hi hI (fun σ3 w3 h3 => ⟨w3, rfl, h3⟩)
      · obtain ⟨w', rfl, hI⟩ := hI
        exact hd σ' w' hI
end
end Tf
/-! rules and names: products of great ints, room, named operators, a def's start, a source of draws -/
namespace Tf
open PySem L2 PyProof.Rows
theorem hu65 {k : Nat} {A : Around} (r : Room k A) : A.units + 65 < cLine := by have := r.un; omega
/-- * of two factors of together less than a hundred million bits -/
def CMulB (i j : Int) : Prop := i.natAbs.log2 + j.natAbs.log2 < 100000000
theorem CMulB.ok {i j : Int} (h : CMulB i j) : IntMulOk i j := by
  have b : ∀ x : Int, Builtin.Int.intBits x ≤ x.natAbs.log2 + 1 := fun x => by
    unfold Builtin.Int.intBits
    split <;> omega
  have h1 := b i
  have h2 := b j
  have h3 : i.natAbs.log2 + j.natAbs.log2 < 100000000 := h
  have e : bitsLine = 134217728 := by decide
  unfold IntMulOk
  intro z
  rw [Bool.and_eq_true] at z
  have z2 := z.2
  unfold Builtin.Int.intTooBig at z2
  have z3 := of_decide_eq_true z2
  rw [e] at z3
  omega
section
variable {X : Cx}
theorem op_mulB : OpR X (binaryOp .Mult) (rI CMulB fun i j => .int (i * j)) := opI fun _ _ _ _ _ _ _ hc q => PyProof.Rows.mul_int q (CMulB.ok hc)
end
theorem log2_mono {a b : Nat} (h : a ≤ b) : a.log2 ≤ b.log2 := by
  by_cases h0 : a = 0
  · subst h0
    have : Nat.log2 0 = 0 := by decide
    omega
  · exact (Nat.le_log2 (by omega)).mpr (Nat.le_trans (Nat.log2_self_le h0) h)
theorem log2_small {a : Nat} (h : a < 4294967296) : a.log2 < 32 := by
  by_cases h0 : a = 0
  · subst h0
    decide
  · exact (Nat.log2_lt h0).mpr h
section
variable {K : Fr} {R : Rg} {Γ : Sl} {w : Wd}
theorem rv_add {i j : Int} : RV R w (rI0 fun i j => .int (i + j)) (dat K (.int i)) (dat K (.int j)) (dat K (.int (i + j))) := rv_I0 fun _ => .int _
theorem rv_sub {i j : Int} : RV R w (rI0 fun i j => .int (i - j)) (dat K (.int i)) (dat K (.int j)) (dat K (.int (i - j))) := rv_I0 fun _ => .int _
theorem rv_lt {i j : Int} : RV R w (rI0 fun i j => .bl (decide (i < j))) (dat K (.int i)) (dat K (.int j)) (dat K (.bool (decide (i < j)))) := rv_I0 fun _ => .bl _
theorem rv_le {i j : Int} : RV R w (rI0 fun i j => .bl (decide (i ≤ j))) (dat K (.int i)) (dat K (.int j)) (dat K (.bool (decide (i ≤ j)))) := rv_I0 fun _ => .bl _
theorem rv_gt {i j : Int} : RV R w (rI0 fun i j => .bl (decide (j < i))) (dat K (.int i)) (dat K (.int j)) (dat K (.bool (decide (j < i)))) := rv_I0 fun _ => .bl _
theorem rv_ge {i j : Int} : RV R w (rI0 fun i j => .bl (decide (j ≤ i))) (dat K (.int i)) (dat K (.int j)) (dat K (.bool (decide (j ≤ i)))) := rv_I0 fun _ => .bl _
theorem rv_mod {i j : Int} (h : 0 < j) : RV R w (rI (fun _ j => 0 < j) fun i j => .int (i % j)) (dat K (.int i)) (dat K (.int j)) (dat K (.int (i % j))) := rv_I h fun _ => .int _
theorem rc_int {i : Int} : RC R w (fun xs H Q => (∃ i, xs = [.int i] ∧ Q (.int i) H) ∨ ∃ k, xs = [.bl k] ∧ Q (.int (if k then 1 else 0)) H) [dat K (.int i)] (dat K (.int i)) := fun xs w1 a hx Q k => by
  cases hx with
  | cons h t =>
    cases t
    cases h
    exact .inl ⟨i, rfl, k _ w1 (Stp.refl a.ok) (.int i)⟩
theorem rc_max2 {i j : Int} : RC R w (fun xs H Q => ∃ i j, xs = [.int i, .int j] ∧ Q (.int (if j > i then j else i)) H) [dat K (.int i), dat K (.int j)] (dat K (.int (if j > i then j else i))) := fun xs w1 a hx Q k => by
  cases hx with
  | cons h t =>
    cases t with
    | cons h2 t =>
      cases t
      cases h
      cases h2
      exact ⟨i, j, rfl, k _ w1 (Stp.refl a.ok) (.int _)⟩
theorem rc_min2 {i j : Int} : RC R w (fun xs H Q => ∃ i j, xs = [.int i, .int j] ∧ Q (.int (if j < i then j else i)) H) [dat K (.int i), dat K (.int j)] (dat K (.int (if j < i then j else i))) := fun xs w1 a hx Q k => by
  cases hx with
  | cons h t =>
    cases t with
    | cons h2 t =>
      cases t
      cases h
      cases h2
      exact ⟨i, j, rfl, k _ w1 (Stp.refl a.ok) (.int _)⟩
abbrev rLen (K : Fr) : List V -> Hp -> VK -> Prop := fun xs H Q => ∃ x n, xs = [x] ∧ LenV K x H n ∧ Q (.int n) H
theorem rc_lenL {ds : List PyData} : RC R w (rLen K) [dat K (.list ds)] (dat K (.int (ds.length : Int))) := fun xs w1 a hx Q k => by
  cases hx with
  | cons h t =>
    cases t
    cases h with
    | lst hs ha =>
      refine ⟨_, _, rfl, .inl ⟨_, sqL_mono K a.ok.sub hs, rfl⟩, ?_⟩
      rw [dpAll_len K ha]
      exact k _ w1 (Stp.refl a.ok) (.int _)
theorem rc_lenT {ds : List PyData} : RC R w (rLen K) [dat K (.tuple ds)] (dat K (.int (ds.length : Int))) := fun xs w1 a hx Q k => by
  cases hx with
  | cons h t =>
    cases t
    cases h with
    | tup hs ha =>
      refine ⟨_, _, rfl, .inr ⟨_, sqT_mono K a.ok.sub hs, rfl⟩, ?_⟩
      rw [dpAll_len K ha]
      exact k _ w1 (Stp.refl a.ok) (.int _)
theorem rc_lenS {x : Str} (hl : x.length ≤ 100000) : RC R w (rLen K) [dat K (.str x)] (dat K (.int (x.length : Int))) := fun xs w1 a hx Q k => by
  cases hx with
  | cons h t =>
    cases t
    cases h
    exact ⟨_, _, rfl, ⟨Nat.le_trans hl (by decide), rfl⟩, k _ w1 (Stp.refl a.ok) (.int _)⟩
end
theorem env_holes {G : Hp} : ∀ n : Nat, EnvOk G (List.replicate n none) (List.replicate n none)
  | 0 => .nil
  | n + 1 => .hole (env_holes n)
theorem env_app {G : Hp} {Γ : Sl} {σ : L2.St} (h : EnvOk G Γ σ) : ∀ {ps : List Pd} {vs : List V}, AllP G ps vs -> EnvOk G (ps.map some ++ Γ) (vs.map some ++ σ)
  | _, _, .nil => h
  | _, _, .cons q t => .full q (env_app h t)
theorem allP_len {G : Hp} : ∀ {ps : List Pd} {vs : List V}, AllP G ps vs -> vs.length = ps.length
  | _, _, .nil => rfl
  | _, _, .cons _ t => by rw [List.length_cons, List.length_cons, allP_len t]
theorem env_start {G : Hp} {N : List Str} {ps : List Pd} {vs : List V} (h : AllP G ps vs) : EnvOk G (ps.map some ++ List.replicate (N.length - ps.length) none) (L2.start N vs) := by
  unfold L2.start
  rw [allP_len h]
  exact env_app (env_holes _) h
/-! ### a source of draws: the list at p, its cells at c -/
def small (n : Int) : Prop := n.natAbs.log2 ≤ 1048580
def SrcAt (p c : Addr) (H : Hp) : Prop := ∃ (s k : Int) (ns : List Int), H p = some (.lst [.int s, .ref c, .int k]) ∧ H c = some (.lst (ns.map V.int)) ∧ p ≠ c ∧ 0 ≤ s ∧ s < 2147483647 ∧ ns.length ≤ 63 ∧ ∀ n ∈ ns, small n
def Src (p c : Addr) : Rg := ⟨fun b => b = p ∨ b = c, SrcAt p c, fun H H' ⟨s, k, ns, h1, h2, h⟩ kp => ⟨s, k, ns, kp p _ (.inl rfl) h1, kp c _ (.inr rfl) h2, h⟩⟩
theorem small_div {n d : Int} (h : small n) (h0 : 0 ≤ n) (hd : 0 < d) : small (n / d) := by
  unfold small at *
  refine Nat.le_trans (log2_mono ?_) h
  have h1 : 0 ≤ n / d := Int.ediv_nonneg h0 (by omega)
  have h2 : n / d ≤ n := Int.ediv_le_self d h0
  omega
theorem small_of {n : Int} (h : n.natAbs < 4294967296) : small n := by
  have := log2_small h
  unfold small
  omega
theorem Src.step {p c : Addr} {w w' : Wd} (a : Ok (Src p c) w) (hg : w'.g = w.g) (k : ∀ b o, b ≠ p -> b ≠ c -> w.h b = some o -> w'.h b = some o) (s : SrcAt p c w'.h) : Stp (Src p c) w w' := by
  have gp := (a.apart p (.inl rfl)).1
  have gc := (a.apart c (.inr rfl)).1
  have th : ∀ b o, w.h b = some o -> ∃ o', w'.h b = some o' := fun b o e => by
    obtain ⟨_, _, _, h1, h2, _⟩ := s
    by_cases hp : b = p
    · subst hp
      exact ⟨_, h1⟩
    · by_cases hc : b = c
      · subst hc
        exact ⟨_, h2⟩
      · exact ⟨o, k b o hp hc e⟩
  refine ⟨⟨fun b o e => ?_, s, fun b m => ?_⟩, fun b o e => by rw [hg]; exact e, fun b o e n => k b o (fun z => n (.inl z)) (fun z => n (.inr z)) e, fun b o e n => by rw [hg]; exact n, th⟩
  · rw [hg] at e
    exact k b o (fun z => by subst z; rw [gp] at e; cases e) (fun z => by subst z; rw [gc] at e; cases e) (a.sub b o e)
  · rw [hg]
    refine ⟨(a.apart b m).1, ?_⟩
    cases q : w.h b with
    | none => exact absurd q (a.apart b m).2
    | some o =>
      obtain ⟨o', e'⟩ := th b o q
      rw [e']
      intro z
      cases z
/-- a draw below n -/
def spNext : Sp := fun vs H Q _ => ∃ (w : Wd) (p c : Addr) (n : Int), w.h = H ∧ vs = [.ref p, .int n] ∧ Ok (Src p c) w ∧ 0 < n ∧ n ≤ 1000000000 ∧ ∀ z w', Stp (Src p c) w w' -> 0 ≤ z -> z < n -> Q (.int z) w'.h
/-- the source is made of the script -/
def spMix (K : Fr) : Sp := fun vs H Q _ => ∃ (w : Wd) (a : Addr) (ns : List Int) (n : Int), w.h = H ∧ vs = [.ref a, .int n] ∧ Ok R0 w ∧ SqL K w.g a (ns.map V.int) ∧ ns.length ≤ 63 ∧ (∀ z ∈ ns, small z) ∧ 0 ≤ n ∧ n ≤ 1000 ∧ ∀ p c w', Stp R0 w w' -> Ok (Src p c) w' -> Q (.ref p) w'.h
end Tf
namespace Tf
open PySem L2 PyProof.Rows
section
variable {R : Rg} {w w1 w2 : Wd}
theorem Ok.drop {l : Addr} (a : Ok (R.add l) w) : Ok R w := ⟨a.sub, a.inv.1, fun b m => a.apart b (.inl m)⟩
theorem Stp.up {l : Addr} (s : Stp R w w1) (a : Ok (R.add l) w) (n : ¬ R.mu l) : Stp (R.add l) w w1 := by
  obtain ⟨xs, hl⟩ := a.inv.2
  have gl := (a.apart l (.inr rfl)).1
  refine ⟨⟨s.ok.sub, ⟨s.ok.inv, xs, s.keep l _ hl n⟩, fun b m => ?_⟩, s.sg, fun b o e m => s.keep b o e fun z => m (.inl z), s.hid, s.there⟩
  rcases m with m | rfl
  · exact s.ok.apart b m
  · refine ⟨s.hid b _ hl gl, ?_⟩
    rw [s.keep b _ hl n]
    intro z
    cases z
theorem seqIx_nat {n j : Nat} (h : j < n) : seqIndex? (j : Int) n = some j := by
  unfold seqIndex?
  simp
  omega
end
theorem erase_map {α β : Type} (f : α -> β) : ∀ (l : List α) (j : Nat), (l.map f).eraseIdx j = (l.eraseIdx j).map f
  | [], _ => rfl
  | _ :: _, 0 => rfl
  | x :: r, j + 1 => by
    show f x :: (r.map f).eraseIdx j = f x :: (r.eraseIdx j).map f
    rw [erase_map f r j]
theorem erase_perm {α : Type} : ∀ (l : List α) (j : Nat) (h : j < l.length), (l[j] :: l.eraseIdx j).Perm l
  | x :: r, 0, _ => List.Perm.refl _
  | x :: r, j + 1, h => by
    have hj : j < r.length := Nat.lt_of_succ_lt_succ h
    have ih := erase_perm r j hj
    show (r[j] :: x :: r.eraseIdx j).Perm (x :: r)
    exact (List.Perm.swap x r[j] _).trans (List.Perm.cons x ih)
/-! ### keys -/
def K8 : List Str := ["aA", "bB", "x!", "?y", "1.", "Z-", "mn", "0;"]
structure KeysOk (n : Int) (ks : List Str) : Prop where
  nd : ks.Nodup
  sub : ∀ k ∈ ks, k ∈ K8
  lo : 2 ≤ ks.length
  hi : (ks.length : Int) ≤ n
def tS (ks : List Str) : PyData := .tuple (ks.map .str)
def spKeys (K : Fr) : Sp := fun vs H Q _ => ∃ (w : Wd) (p c : Addr) (n : Int), w.h = H ∧ vs = [.ref p, .int n] ∧ Ok (Src p c) w ∧ 2 ≤ n ∧ n ≤ 8 ∧ ∀ v w' ks, Stp (Src p c) w w' -> Dp K w'.g v (tS ks) -> KeysOk n ks -> Q v w'.h
theorem dp_strs {K : Fr} {G : Hp} : ∀ ks : List Str, DpAll K G (ks.map V.str) (ks.map .str)
  | [] => .nil
  | k :: ks => .cons (.str k) (dp_strs ks)
theorem k8_nd : K8.Nodup := by decide +kernel
end Tf
namespace Tf
open PySem L2 PyProof.Rows
/-! ### isinstance of data -/
def tyN : PyData -> String
  | .none => "NoneType"
  | .bool _ => "bool"
  | .int _ => "int"
  | .str _ => "str"
  | .list _ => "list"
  | .tuple _ => "tuple"
  | .dict _ => "dict"
def tyP (n : String) : Pd := ⟨fun v _ => v = .ty n, fun _ _ _ _ h => h⟩
def insP (p : Pd) (ps : List Pd) : Pd := ⟨fun v G => p.P v G, p.st⟩
/-- a tuple of such -/
def tupP (ps : List Pd) : Pd := ⟨fun v G => ∃ a vs, v = .ref a ∧ G a = some (.tup vs) ∧ AllP G ps vs, fun v G G' k ⟨a, vs, e, h, q⟩ => ⟨a, vs, e, k a _ h, q.mono k⟩⟩
section
variable {K : Fr} {R : Rg} {Γ : Sl} {w : Wd} {tr : TA}
theorem tyX_of {G : Hp} {v : V} {d : PyData} (h : Dp K G v d) : TyX K G v (.type (tyN d)) := by
  cases h with
  | non => exact .base .non
  | bl b => exact .base (.bl b)
  | int i => exact .base (.int i)
  | str x => exact .base (.str x)
  | lst hs _ =>
    rcases hs with (h | ⟨o, h⟩) | ⟨o, its, n, e, c, _⟩
    · exact .base (.lst h)
    · exact .base (.frz h)
    · exact .kList e c
  | tup hs _ =>
    rcases hs with (h | ⟨o, h⟩) | ⟨o, its, n, e, c, _⟩
    · exact .base (.tup h)
    · exact .fTuple h
    · exact .kTuple e c
theorem rc_isi {d : PyData} {n : String} {b : Bool} (h : kitB (tyN d) n = some b) : RC R w (rIsi K) [dat K d, tyP n] (dat K (.bool b)) := fun xs w1 a hx Q k => by
  cases hx with
  | cons h1 t =>
    cases t with
    | cons h2 t =>
      cases t
      obtain rfl := h2
      exact ⟨_, _, _, _, b, rfl, .ty n, tyX_of (dp_low a.ok.sub h1), kit_ty h, k _ w1 (Stp.refl a.ok) (.bl b)⟩
theorem ev_tupP {ps : List Pd} (h : EvA R Γ w tr ps) (hl : ps.length ≤ 100000 := by decide) : Ev R Γ w (tTup tr) (tupP ps) := fun σ w1 e a Q k =>
  h σ w1 e a _ fun vs w2 s2 hv => by
    refine ⟨by rw [allP_len hv]; exact Nat.le_trans hl (by decide), fun p hp => ?_⟩
    have st := Stp.new (o := .tup vs) s2.ok hp
    exact k (.ref p) _ (s2.trans st) ⟨p, vs, rfl, upd_same, hv.mono st.sg⟩
theorem rc_isiT2 {d : PyData} {n m : String} {b c : Bool} (h : kitB (tyN d) n = some b) (h' : kitB (tyN d) m = some c) : RC R w (rIsiT K) [dat K d, tupP [tyP n, tyP m]] (dat K (.bool (b || c))) := fun xs w1 a hx Q k => by
  cases hx with
  | cons h1 t =>
    cases t with
    | cons h2 t =>
      cases t
      obtain ⟨tp, vs, rfl, e, q⟩ := h2
      cases q with
      | cons q1 q =>
        cases q with
        | cons q2 q =>
          cases q
          obtain rfl := q1
          obtain rfl := q2
          refine ⟨_, tp, _, _, [.type n, .type m], b || c, rfl, a.ok.sub _ _ e, .cons (.ty n) (.cons (.ty m) .nil), tyX_of (dp_low a.ok.sub h1), kitAny_cons (kit_ty h) (fun e1 => ?_) (fun e1 => by rw [e1]; rfl), k _ w1 (Stp.refl a.ok) (.bl _)⟩
          refine kitAny_cons (kit_ty h') (fun e2 => ?_) (fun e2 => by rw [e2, Bool.or_true])
          rw [e1, e2]
          exact kitAny_nil
end
def isS : PyData -> Bool
  | .str _ => true
  | _ => false
def isL : PyData -> Bool
  | .list _ => true
  | _ => false
def isTp : PyData -> Bool
  | .tuple _ => true
  | _ => false
def isI : PyData -> Bool
  | .int _ => true
  | .bool _ => true
  | _ => false
def isB : PyData -> Bool
  | .bool _ => true
  | _ => false
def isDc : PyData -> Bool
  | .dict _ => true
  | _ => false
theorem kitD (d : PyData) : kitB (tyN d) "dict" = some (isDc d) := by cases d <;> simp only [tyN, isDc] <;> decide +kernel
theorem kitS (d : PyData) : kitB (tyN d) "str" = some (isS d) := by cases d <;> simp only [tyN, isS] <;> decide +kernel
theorem kitL (d : PyData) : kitB (tyN d) "list" = some (isL d) := by cases d <;> simp only [tyN, isL] <;> decide +kernel
theorem kitT (d : PyData) : kitB (tyN d) "tuple" = some (isTp d) := by cases d <;> simp only [tyN, isTp] <;> decide +kernel
theorem kitI (d : PyData) : kitB (tyN d) "int" = some (isI d) := by cases d <;> simp only [tyN, isI] <;> decide +kernel
theorem kitBl (d : PyData) : kitB (tyN d) "bool" = some (isB d) := by cases d <;> simp only [tyN, isB] <;> decide +kernel
/-! ### lists by comprehension over data, without draws -/
section
variable {K : Fr} {R : Rg} {Γ : Sl} {w : Wd} {tl te : TE} {tt : TT}
/-- what a comprehension gives: fs of the items taken that pass -/
def picked (f : PyData -> Bool) (v : PyData -> PyData) (ds : List PyData) : List PyData := (ds.filter f).map v
theorem picked_len (f : PyData -> Bool) (v : PyData -> PyData) (ds : List PyData) : (picked f v ds).length ≤ ds.length := by
  unfold picked
  rw [List.length_map]
  exact List.length_filter_le _ _
theorem picked_snoc (f : PyData -> Bool) (v : PyData -> PyData) (ds : List PyData) (d : PyData) : picked f v (ds ++ [d]) = if f d = true then picked f v ds ++ [v d] else picked f v ds := by
  unfold picked
  rw [List.filter_append, List.map_append]
  by_cases h : f d = true
  · rw [if_pos h, List.filter_cons_of_pos h]
    rfl
  · rw [if_neg h, List.filter_cons_of_neg h]
    simp
theorem take_snoc {α : Type} {l : List α} {i : Nat} {x : α} (h : l[i]? = some x) : l.take (i + 1) = l.take i ++ [x] := by
  rw [List.take_add_one, h]
  rfl
structure LcI (K : Fr) (R : Rg) (w2 : Wd) (D : Addr) (out : List PyData) (H : Hp) : Prop where
  ex : ∃ (w3 : Wd) (xs : List V), w3.h = H ∧ Stp (R.add D) w2 w3 ∧ w3.h D = some (.lst xs) ∧ DpAll K w3.g xs out
theorem wipe1 {σ : L2.St} {j : Nat} {x : Option V} : L2.wipe ((L2.wipe σ [j]).set j x) [j] = L2.wipe σ [j] := by
  simp [L2.wipe]
/-- one turn -/
theorem lc_turn {w1 w2 : Wd} {D : Addr} {σ : L2.St} {j : Nat} {v : V} {d : PyData} {H : Hp} {f : PyData -> Bool} {g : PyData -> PyData} {ds : List PyData} {i : Nat}
    (hsz : ds.length ≤ 100000) (hi : ds[i]? = some d) (nD : ¬ R.mu D) (n1 : w1.h D = none) (s12 : Stp R w1 w2) (e : EnvOk w1.g Γ σ) (a : Stp R w w1)
    (I : LcI K R w2 D (picked f g (ds.take i)) H) (hv : ∀ w3, Stp R w1 w3 -> Stp (R.add D) w2 w3 -> Dp K w3.g v d)
    (ht : ∀ w3, Stp R w w3 -> EvT R ((Γ.set j none).set j (some (dat K d))) w3 tt (f d)) (he : ∀ w3, Stp R w w3 -> f d = true -> Ev R ((Γ.set j none).set j (some (dat K d))) w3 te (dat K (g d))) :
    tt ((L2.wipe σ [j]).set j (some v)) H fun b H3 => if b = true then te ((L2.wipe σ [j]).set j (some v)) H3 fun y H4 => ∃ acc, H4 D = some (.lst acc) ∧ acc.length < sizeLine ∧ LcI K R w2 D (picked f g (ds.take (i + 1))) (upd H4 D (.lst (acc ++ [y]))) else LcI K R w2 D (picked f g (ds.take (i + 1))) H3 := by
  obtain ⟨w3, xs, rfl, s3, hD, hx⟩ := I.ex
  have s13 : Stp R w1 w3 := Stp.of_add s3 s12 n1
  have e3 : EnvOk w3.g ((Γ.set j none).set j (some (dat K d))) ((L2.wipe σ [j]).set j (some v)) := ((e.mono s13.sg).wipe j).set (hv w3 s13 s3) j
  refine ht w3 (a.trans s13) _ w3 e3 (Stp.refl s13.ok) _ fun w4 s4 => ?_
  have hD4 := s4.keep D _ hD nD
  have s34 := Stp.up s4 s3.ok nD
  rw [take_snoc hi, picked_snoc]
  cases hf : f d with
  | false =>
    rw [if_neg Bool.false_ne_true, if_neg Bool.false_ne_true]
    exact ⟨w4, xs, rfl, s3.trans s34, hD4, dpAll_mono K s4.sg _ _ hx⟩
  | true =>
    rw [if_pos rfl, if_pos rfl]
    refine he w3 (a.trans s13) hf _ w4 (e3.mono s4.sg) s4 _ fun y w5 s5 hy => ?_
    have hD5 := s5.keep D _ hD4 nD
    have s45 := Stp.up s5 s34.ok nD
    have hx5 := dpAll_mono K (s4.trans s5).sg _ _ hx
    have hl : xs.length ≤ ds.length := by
      rw [dpAll_len K hx]
      exact Nat.le_trans (picked_len _ _ _) (by rw [List.length_take]; exact Nat.min_le_right _ _)
    refine ⟨xs, hD5, Nat.lt_of_le_of_lt (Nat.le_trans hl hsz) (by decide), ⟨⟨w5.g, upd w5.h D (.lst (xs ++ [y]))⟩, xs ++ [y], rfl, ((s3.trans s34).trans s45).trans (Stp.set s45.ok nD hD5), upd_same, dpAll_app K hx5 (.cons hy .nil)⟩⟩
theorem ev_lcT {ds : List PyData} {j : Nat} (f : PyData -> Bool) (g : PyData -> PyData) (hsz : ds.length ≤ 100000) (hl : Ev R Γ w tl (dat K (.tuple ds)))
    (ht : ∀ (i : Nat) d, ds[i]? = some d -> ∀ w3, Stp R w w3 -> EvT R ((Γ.set j none).set j (some (dat K d))) w3 tt (f d)) (he : ∀ (i : Nat) d, ds[i]? = some d -> ∀ w3, Stp R w w3 -> f d = true -> Ev R ((Γ.set j none).set j (some (dat K d))) w3 te (dat K (g d))) :
    Ev R Γ w (tLc (iTup K tl) (gName j) tt te [j]) (dat K (.list (picked f g ds))) := fun σ w0 e a Q k => hl σ w0 e a _ fun v w1 s1 hv => by
  cases hv with
  | @tup ad vs _ hs ha =>
    refine ⟨ad, rfl, ⟨vs, sqT_mono K s1.ok.sub hs⟩, fun D hD => ?_⟩
    have ll := dpAll_len K ha
    have gD := s1.ok.gnone hD
    have nD := s1.ok.notmut hD
    have s2 : Stp R w1 ⟨w1.g, upd w1.h D (.lst [])⟩ := Stp.newM s1.ok hD
    have ok2 : Ok (R.add D) ⟨w1.g, upd w1.h D (.lst [])⟩ := Ok.add s2.ok upd_same gD
    refine lc_tup (K := K) (a := ad) (xs := vs) (fun i H => LcI K R ⟨w1.g, upd w1.h D (.lst [])⟩ D (picked f g (ds.take i)) H) ⟨_, [], rfl, Stp.refl ok2, upd_same, .nil⟩ (fun i H _ I => ?_) (fun i x H hi I => ?_) fun H I => ?_
    · obtain ⟨w3, xs, rfl, s3, _⟩ := I.ex
      exact sqT_mono K s3.ok.sub (sqT_mono K s3.sg hs)
    · have hi2 : i < ds.length := by rw [← ll]; exact (List.getElem?_eq_some_iff.mp hi).1
      refine ⟨wipe1, lc_turn hsz (List.getElem?_eq_getElem hi2) nD hD s2 (e.mono s1.sg) (a.trans s1) I (fun w3 q _ => dp_mono K q.sg _ _ (dpAll_get K ha hi (List.getElem?_eq_getElem hi2))) (ht i _ (List.getElem?_eq_getElem hi2)) (he i _ (List.getElem?_eq_getElem hi2))⟩
    · obtain ⟨w3, xs, rfl, s3, e3, h3⟩ := I.ex
      rw [ll, List.take_length] at h3
      have s13 : Stp R w1 w3 := Stp.of_add s3 s2 hD
      have gD3 := s3.hid D _ upd_same gD
      have s14 := Stp.freeze s13 e3 hD gD3 nD
      have fz : ∀ b o, w3.g b = some o -> upd w3.g D (.lst xs) b = some o := fun b o z => by
        rw [upd_ne (ne_of_none z gD3)]
        exact z
      exact k (.ref D) ⟨upd w3.g D (.lst xs), w3.h⟩ (s1.trans s14) (.lst (SqL.of upd_same) (dpAll_mono K fz _ _ h3))
theorem ev_lcL {ds : List PyData} {j : Nat} (f : PyData -> Bool) (g : PyData -> PyData) (hsz : ds.length ≤ 100000) (hl : Ev R Γ w tl (dat K (.list ds)))
    (ht : ∀ (i : Nat) d, ds[i]? = some d -> ∀ w3, Stp R w w3 -> EvT R ((Γ.set j none).set j (some (dat K d))) w3 tt (f d)) (he : ∀ (i : Nat) d, ds[i]? = some d -> ∀ w3, Stp R w w3 -> f d = true -> Ev R ((Γ.set j none).set j (some (dat K d))) w3 te (dat K (g d))) :
    Ev R Γ w (tLc (iList K tl) (gName j) tt te [j]) (dat K (.list (picked f g ds))) := fun σ w0 e a Q k => hl σ w0 e a _ fun v w1 s1 hv => by
  cases hv with
  | @lst ad vs _ hs ha =>
    refine ⟨ad, rfl, ⟨vs, sqL_mono K s1.ok.sub hs⟩, fun D hD => ?_⟩
    have ll := dpAll_len K ha
    have gD := s1.ok.gnone hD
    have nD := s1.ok.notmut hD
    have s2 : Stp R w1 ⟨w1.g, upd w1.h D (.lst [])⟩ := Stp.newM s1.ok hD
    have ok2 : Ok (R.add D) ⟨w1.g, upd w1.h D (.lst [])⟩ := Ok.add s2.ok upd_same gD
    refine lc_list (K := K) (a := ad) (xs := vs) (fun i H => LcI K R ⟨w1.g, upd w1.h D (.lst [])⟩ D (picked f g (ds.take i)) H) ⟨_, [], rfl, Stp.refl ok2, upd_same, .nil⟩ (fun i H _ I => ?_) (fun i x H hi I => ?_) fun H I => ?_
    · obtain ⟨w3, xs, rfl, s3, _⟩ := I.ex
      exact sqL_mono K s3.ok.sub (sqL_mono K s3.sg hs)
    · have hi2 : i < ds.length := by rw [← ll]; exact (List.getElem?_eq_some_iff.mp hi).1
      refine ⟨wipe1, lc_turn hsz (List.getElem?_eq_getElem hi2) nD hD s2 (e.mono s1.sg) (a.trans s1) I (fun w3 q _ => dp_mono K q.sg _ _ (dpAll_get K ha hi (List.getElem?_eq_getElem hi2))) (ht i _ (List.getElem?_eq_getElem hi2)) (he i _ (List.getElem?_eq_getElem hi2))⟩
    · obtain ⟨w3, xs, rfl, s3, e3, h3⟩ := I.ex
      rw [ll, List.take_length] at h3
      have s13 : Stp R w1 w3 := Stp.of_add s3 s2 hD
      have gD3 := s3.hid D _ upd_same gD
      have s14 := Stp.freeze s13 e3 hD gD3 nD
      have fz : ∀ b o, w3.g b = some o -> upd w3.g D (.lst xs) b = some o := fun b o z => by
        rw [upd_ne (ne_of_none z gD3)]
        exact z
      exact k (.ref D) ⟨upd w3.g D (.lst xs), w3.h⟩ (s1.trans s14) (.lst (SqL.of upd_same) (dpAll_mono K fz _ _ h3))
/-- over range(n): the items are the intsD below n -/
def intsD (n : Nat) : List PyData := (List.range n).map fun (i : Nat) => .int (i : Int)
theorem ints_len (n : Nat) : (intsD n).length = n := by unfold intsD; rw [List.length_map, List.length_range]
theorem ints_get {n i : Nat} (h : i < n) : (intsD n)[i]? = some (.int (i : Int)) := by
  unfold intsD
  rw [List.getElem?_map, List.getElem?_range h]
  rfl
theorem ev_lcR {tr : TA} {n : Int} {j : Nat} (f : PyData -> Bool) (g : PyData -> PyData) (h0 : 0 ≤ n) (h1 : n ≤ 100000) (hl : EvA R Γ w tr [dat K (.int n)])
    (ht : ∀ i : Nat, (i : Int) < n -> ∀ w3, Stp R w w3 -> EvT R ((Γ.set j none).set j (some (dat K (.int i)))) w3 tt (f (.int i))) (he : ∀ i : Nat, (i : Int) < n -> ∀ w3, Stp R w w3 -> f (.int i) = true -> Ev R ((Γ.set j none).set j (some (dat K (.int i)))) w3 te (dat K (g (.int i)))) :
    Ev R Γ w (tLc (iRng1 tr) (gName j) tt te [j]) (dat K (.list (picked f g (intsD n.toNat)))) := fun σ w0 e a Q k => hl σ w0 e a _ fun vs w1 s1 hv => by
  cases hv with
  | cons hx hn =>
    cases hn
    cases hx
    refine ⟨n, rfl, by omega, by omega, fun D hD => ?_⟩
    have gD := s1.ok.gnone hD
    have nD := s1.ok.notmut hD
    have s2 : Stp R w1 ⟨w1.g, upd w1.h D (.lst [])⟩ := Stp.newM s1.ok hD
    have ok2 : Ok (R.add D) ⟨w1.g, upd w1.h D (.lst [])⟩ := Ok.add s2.ok upd_same gD
    refine lc_range (lo := 0) (n := n.toNat) (fun i H => LcI K R ⟨w1.g, upd w1.h D (.lst [])⟩ D (picked f g ((intsD n.toNat).take i)) H) ⟨_, [], rfl, Stp.refl ok2, upd_same, .nil⟩ (fun i H hi I => ?_) fun H I => ?_
    · have e0 : (0 : Int) + (i : Int) = (i : Int) := Int.zero_add _
      rw [e0]
      exact ⟨wipe1, lc_turn (by rw [ints_len]; omega) (ints_get hi) nD hD s2 (e.mono s1.sg) (a.trans s1) I (fun w3 q _ => .int _) (ht i (by omega)) (he i (by omega))⟩
    · obtain ⟨w3, xs, rfl, s3, e3, h3⟩ := I.ex
      have et : (intsD n.toNat).take n.toNat = intsD n.toNat := List.take_of_length_le (by rw [ints_len]; exact Nat.le_refl _)
      rw [et] at h3
      have s13 : Stp R w1 w3 := Stp.of_add s3 s2 hD
      have gD3 := s3.hid D _ upd_same gD
      have s14 := Stp.freeze s13 e3 hD gD3 nD
      have fz : ∀ b o, w3.g b = some o -> upd w3.g D (.lst xs) b = some o := fun b o z => by
        rw [upd_ne (ne_of_none z gD3)]
        exact z
      exact k (.ref D) ⟨upd w3.g D (.lst xs), w3.h⟩ (s1.trans s14) (.lst (SqL.of upd_same) (dpAll_mono K fz _ _ h3))
end
end Tf
/-! enumerate of a tuple -/
namespace PySem
theorem meets_enumerate_newTu (l : Addr) (items : Array Value) (n : Nat) (dct : Option Addr) (sl : Array (Option Value)) :
    Meets (Builtin.«enumerate.__new__» ⟨[.type "enumerate", .ref l], []⟩) (fun _ R s => s.heap.get? l = some { cls := .type "tuple", dict := dct, data := .seq items n, slots := sl } ∧
      R (.ok (.ret (.ref (s.heap.push { cls := .type "tuple_iterator", data := .fields #[.ref l, .int 0 0] }).objs.size)))
        { s with heap := (s.heap.push { cls := .type "tuple_iterator", data := .fields #[.ref l, .int 0 0] }).push { cls := .type "enumerate", data := .fields #[.none, .bool false, .ref s.heap.objs.size, rawInt 0, .none, .none] } }) :=
  .of_wp fun prog w A R s h => by
    obtain ⟨hp, g, d, tk, os⟩ := s; obtain ⟨hl, h⟩ := h
    have hsub := sub_enumerate
    have hL : Heap.IsTuple (Shared.heap ⟨hp, g, d, tk, os⟩) l items := ⟨_, hl, rfl, n, rfl⟩
    wp_walk using AutoSeq1.wpAny_loadPart' hl
    refine wpAny_stack_any fun st => wpAny_pure ?_
    split
    · rename_i c _ _ _ _ _
      cases (c == Value.type "enumerate")
      · wp_walk using AutoSeq1.wpAny_loadPart' hl, wpAny_pyIter_tuple hL
        exact ⟨_, rfl, h⟩
      · wp_walk using AutoSeq1.wpAny_loadPart' hl, wpAny_pyIter_tuple hL
        exact ⟨_, rfl, h⟩
    · wp_walk using AutoSeq1.wpAny_loadPart' hl, wpAny_pyIter_tuple hL
      exact ⟨_, rfl, h⟩
section
variable {prog : Program} {w : World} {A : Around} {E : Value → Shared → Prop} {s : Shared}
theorem call_enumerate_tuple {l : Addr} {items : Array Value} {Q : Value → Shared → Prop} (hL : s.heap.IsTuple l items)
    (h : ∀ h', IsEnum h' (s.heap.objs.size + 1) s.heap.objs.size 0 .none → h'.IsTupleIter s.heap.objs.size l 0 → h'.objs.size = s.heap.objs.size + 2 →
      (∀ b o, s.heap.get? b = some o → h'.get? b = some o) → Q (.ref (s.heap.objs.size + 1)) { s with heap := h' }) :
    wpAny (model prog w) A (call (.type "enumerate") [.ref l]) Q E s := by
  obtain ⟨⟨c, dct, dt, sl⟩, hl, hc, n, hd⟩ := hL
  replace hc : c = .type "tuple" := hc
  replace hd : dt = .seq items n := hd
  subst hc hd
  refine callType_new F.called_enumerate (by decide) (F.typeCall_enumerate_1 _) (F.newCall_enumerate_1 _) (fun obj => F.args_object_init_2 obj _) F.entry_enumerate_new
    (meets_enumerate_newTu l items n dct sl) ⟨hl, ?_⟩
  have hz : (s.heap.push { cls := .type "tuple_iterator", data := .fields #[.ref l, .int 0 0] }).objs.size = s.heap.objs.size + 1 := Heap.size_push ..
  show _ ∧ _
  rw [hz]
  have he : IsEnum ((s.heap.push { cls := .type "tuple_iterator", data := .fields #[.ref l, .int 0 0] }).push
      { cls := .type "enumerate", data := .fields #[.none, .bool false, .ref s.heap.objs.size, rawInt 0, .none, .none] }) (s.heap.objs.size + 1) s.heap.objs.size 0 .none := by
    have := Heap.get?_push_size (s.heap.push { cls := .type "tuple_iterator", data := .fields #[.ref l, .int 0 0] })
      (o := { cls := .type "enumerate", data := .fields #[.none, .bool false, .ref s.heap.objs.size, rawInt 0, .none, .none] }) rfl
    rw [hz] at this; exact this
  refine ⟨⟨_, he, rfl⟩, h _ he ⟨_, Heap.get?_push_of_some _ (Heap.get?_push_size _ rfl), rfl, rfl⟩ (by rw [Heap.size_push, hz]) fun b o x => Heap.get?_push_of_some _ (Heap.get?_push_of_some _ x)⟩
end
end PySem
namespace Tf
open PySem L2 PySem.Spec PyProof.Rows
def IteT (K : PySem.W.Frag) (a : Addr) : It :=
  ⟨fun i H => ∃ (xs : List V) (x : V), SqT K H a xs ∧ xs[i]? = some x, fun i H v H' => ∃ T x, v = .ref T ∧ H T = none ∧ H' = upd H T (.tup [.int (i : Nat), x]) ∧ ∀ xs, SqT K H a xs → xs[i]? = some x, fun i H => ∃ xs : List V, SqT K H a xs ∧ xs.length = i⟩
theorem turn_enumT {P : Program} {w : World} {K : PySem.W.Frag} {elts : List Expr} {kk : Nat} {tpos : Pos} (a e it : Addr) :
    Turn P w K (.Tuple elts kk tpos) (IteT K a) [e, it] e (fun i h => (∃ old, IsEnum h e it ((i : Nat) : Int) old) ∧ h.IsTupleIter it a i ∧ e ≠ it) where
  mem := by simp
  obj := fun i h st b hb => by
    obtain ⟨⟨old, he⟩, ⟨o, ho, hc, hd⟩, _⟩ := st
    have e' : b = e ∨ b = it := by simpa using hb
    rcases e' with z | z
    · rw [z]; exact ⟨_, he, fun v q => nomatch q⟩
    · rw [z]; exact ⟨o, ho, fun v q => by rw [hd] at q; cases q⟩
  keep := fun i h h' st k => let ⟨⟨old, he⟩, hi, hne⟩ := st; ⟨⟨old, k e (by simp) _ he⟩, hi.at fun o q => k it (by simp) o q, hne⟩
  item := by
    intro X hP hw hK hc i pins s σ H E I hf st hg
    subst hP hw hK
    obtain ⟨⟨old, he⟩, hit, hne⟩ := st
    obtain ⟨xs, x, hq, hx⟩ := hg
    obtain ⟨its, rv, p, hz⟩ := I.tuple hq
    obtain ⟨u, hu, ru⟩ := rv.get hx
    have hel : e < s.heap.objs.size := Heap.lt_size he
    have hil : it < s.heap.objs.size := by obtain ⟨_, q, _⟩ := hit; exact Heap.lt_size q
    have hae : e ≠ a := fun z => by
      obtain ⟨o, ho, hcl, _⟩ := p
      rw [← z, he] at ho
      cases ho
      simp at hcl
    have hai : a ≠ it := fun z => by
      obtain ⟨o, ho, hcl, _⟩ := p
      obtain ⟨o2, ho2, hc2, _⟩ := hit
      rw [z, ho2] at ho
      cases ho
      rw [hcl] at hc2
      simp at hc2
    have hlt : i < its.toArray.size := by
      have := rv.length
      have := (List.getElem?_eq_some_iff.mp hx).1
      simp
      omega
    refine wpAny_pyNext_enum_itemD (i := i) (Draws.tuple (A := X.A.in1) (I.ok.hd hc) it a hai its.toArray) he ⟨hit, p⟩ hlt hne (by simp [hne, hae]) fun x' h' tk hx' ho hst' hT hsz hk => ?_
    have eu : x' = u := by
      have hx2 : its.toArray[i]? = some u := by simpa using hu
      rw [hx2] at hx'
      exact (Option.some.inj hx').symm
    subst eu
    refine ⟨_, rfl, wpAny_letOwnedTupleGo_enum (s := { s with heap := h', toks := tk + 1 }) ho fun h'' he' sb => ?_⟩
    have hT2 : h''.get? s.heap.objs.size = some { cls := .type "tuple", data := .seq #[.int i tk, x'] } := (sb.2 _ (Nat.ne_of_gt hel)).trans hT
    have new : ObjOk X.prog X.w (upd H s.heap.objs.size (.tup [.int (i : Nat), x])) h'' s.heap.objs.size (.tup [.int (i : Nat), x]) :=
      ⟨by show 2 ≤ sizeLine; decide, [.int i tk, x'], .cons ⟨_, rfl⟩ (.cons ru .nil), ⟨_, hT2, rfl, _, rfl⟩⟩
    have I1 : Inv X pins σ (upd H s.heap.objs.size (.tup [.int (i : Nat), x])) { s with heap := h'', toks := tk + 1 } :=
      I.turnedNew (ch := [e, it]) (fun b ob hb q => (sb.2 b (fun z => hb (by simp [z]))).trans (hk b ob (fun z => hb (by simp [z])) (fun z => hb (by simp [z])) q)) hf (Nat.le_refl _) new
    refine ⟨.ref s.heap.objs.size, _, I1, rfl, ⟨_, x, rfl, I.hok.fresh (Nat.le_refl _), rfl, fun ys hy => by rw [I.tuple_inj hy hq]; exact hx⟩, ⟨⟨x', ?_⟩, hst'.1.at fun o q => (sb.2 it (Ne.symm hne)).trans q, hne⟩, fun b hb => ?_⟩
    · have e1 : ((i + 1 : Nat) : Int) = (i : Int) + 1 := by omega
      rw [e1]; exact he'
    · have hb' : b < s.heap.objs.size := by
        have e' : b = e ∨ b = it := by simpa using hb
        rcases e' with z | z
        · rw [z]; exact hel
        · rw [z]; exact hil
      rw [upd_ne (Nat.ne_of_lt hb')]
      exact (hf b hb).1
  done := by
    intro X hP hw hK hc i pins s σ H E I hf st hg
    subst hP hw hK
    obtain ⟨⟨old, he⟩, hit, hne⟩ := st
    obtain ⟨xs, hq, hx⟩ := hg
    obtain ⟨its, rv, p, hz⟩ := I.tuple hq
    obtain ⟨f0, f1, f2, f3, f4, f5⟩ := hf it (by simp)
    have hl := rv.length
    have hai : a ≠ it := fun z => by
      obtain ⟨o, ho, hcl, _⟩ := p
      obtain ⟨o2, ho2, hc2, _⟩ := hit
      rw [z, ho2] at ho
      cases ho
      rw [hcl] at hc2
      simp at hc2
    have hi : i = its.toArray.size := by simp; omega
    exact wpAny_pyNext_enum_endD (Draws.tuple (A := X.A.in1) (I.ok.hd hc) it a hai its.toArray) he ⟨by rw [← hi]; exact hit, p⟩ fun h' eb => ⟨rfl, I.turned (t' := s.toks) (fun b o hb q => eb b o hb q) f0 f1 f3 f4 f5⟩
  self := fun A i s Q E st h => let ⟨⟨_, he⟩, _⟩ := st; wpAny_pyIter_enum he h
def iEnumT (K : PySem.W.Frag) (ta : TA) : TI := fun σ H R => ta σ H fun vs H1 => ∃ a xs, vs = [.ref a] ∧ SqT K H1 a xs ∧ R (IteT K a) H1
theorem pi_enumT {X : Cx} {e : Expr} {ta : TA} {p pos tpos : Pos} {elts : List Expr} {kk : Nat} (hg : Gl X "enumerate") (hm : X.mg "enumerate" = none) (ha : PA X [e] ta) (hs : starEach [e] X.env = [(false, eval e X.env)] := by rfl) :
    PI X (.Tuple elts kk tpos) (.Call (.Name "enumerate" p) [e] [] pos) (iEnumT X.K ta) := by
  refine ⟨fun pins s σ H R I h => ?_⟩
  refine Call_ (ld_blt I hg hm boot_enumerate (PyProof.Rows.callWith_type1 (thn (ha.run pos pins s σ H _ I h) fun us s1 ⟨vs, H1, I1, r1, q1⟩ => ?_) hs rfl))
  obtain ⟨a, xs, ex, hq, q⟩ := q1
  subst ex
  cases r1 with
  | cons r rr =>
    cases rr
    cases r
    obtain ⟨its, rv, p', hz⟩ := I1.tuple hq
    refine call_enumerate_tuple (show s1.heap.IsTuple a its.toArray from p') fun h' he hit hsz hk => wpAny_pyIter_enum he ?_
    have I2 : Inv X pins σ H1 { s1 with heap := h' } := I1.kept (t' := s1.toks) hk
    refine ⟨s1.heap.objs.size + 1, [s1.heap.objs.size + 1, s1.heap.objs.size], _, _, H1, rfl, I2, turn_enumT a (s1.heap.objs.size + 1) s1.heap.objs.size, ⟨⟨.none, he⟩, hit, Nat.succ_ne_self _⟩, fun b hb => ?_, q⟩
    have e' : b = s1.heap.objs.size + 1 ∨ b = s1.heap.objs.size := by simpa using hb
    have hle : s1.heap.objs.size ≤ b := by
      rcases e' with z | z
      · rw [z]; exact Nat.le_add_right _ _
      · rw [z]; exact Nat.le_refl _
    exact I1.fpOk hle (I1.hok.fresh hle)
section
variable {K : Fr} {R : Rg} {Γ : Sl} {w : Wd} {tr : TA} {D : Ends} {σ : L2.St} {tu : TS}
theorem q_forEnT {ds : List PyData} {i1 i2 : Nat} (he : EvA R Γ w tr [dat K (.tuple ds)]) (e : EnvOk w.g Γ σ) (a : Ok R w)
    (k : ∀ w2, Stp R w w2 -> EnvOk w2.g Γ σ -> ∃ I, Lp D tu ds.length w2 σ I fun i σ' w' N => ∀ d v T, ds[i]? = some d -> Dp K w'.g v d -> w'.h T = none -> tu { D with nx := N, ct := N, bk := D.nx } ((σ'.set i1 (some (.int (i : Int)))).set i2 (some v)) (upd w'.h T (.tup [.int (i : Int), v]))) :
    tFor (iEnumT K tr) (gTup K 2 (gCons (gName i1) (gCons (gName i2) gNil))) tu D σ w.h :=
  he σ w e (Stp.refl a) _ fun vs w2 s2 hv => by
    obtain ⟨I, h0, hg, hs, hd⟩ := k w2 s2 (e.mono s2.sg)
    cases hv with
    | cons hx hn =>
      cases hn
      cases hx with
      | @tup ad xs _ hx ha =>
        have ll := dpAll_len K ha
        have at_ : ∀ {i σ' w'}, I i σ' w' -> SqT K w'.h ad xs := fun {i σ' w'} h => sqT_mono K (hg i σ' w' h).sub (sqT_mono K (hg i σ' w' h).sg hx)
        refine ⟨ad, xs, rfl, sqT_mono K s2.ok.sub hx, fun i m σ' H' => m = ds.length - i ∧ i ≤ ds.length ∧ ∃ w', w'.h = H' ∧ I i σ' w', ⟨ds.length, by simp, Nat.zero_le _, w2, rfl, h0⟩, fun i m σ' H' hW => ?_⟩
        obtain ⟨rfl, hi, w', rfl, hI⟩ := hW
        by_cases hlt : i < ds.length
        · have hx2 : xs[i]? = some xs[i] := List.getElem?_eq_getElem (by rw [ll]; exact hlt)
          refine .inr ⟨⟨xs, _, at_ hI, hx2⟩, fun σ3 H3 => ∃ w3, w3.h = H3 ∧ I (i + 1) σ3 w3, fun σ3 H3 q => ⟨ds.length - (i + 1), by omega, rfl, hlt, q⟩, fun x H4 y => ?_⟩
          obtain ⟨T, z, rfl, hT, rfl, hz⟩ := y
          have ez := Option.some.inj ((hz xs (at_ hI)).symm.trans hx2)
          subst ez
          refine ⟨T, _, rfl, SqT.of upd_same, rfl, _, _, rfl, _, _, rfl, rfl, ?_⟩
          exact hs i σ' w' _ hlt hI (fun σ3 w3 h3 => ⟨w3, rfl, h3⟩) ds[i] _ T (List.getElem?_eq_getElem hlt) (dp_mono K (hg i σ' w' hI).sg _ _ (dpAll_get K ha hx2 (List.getElem?_eq_getElem hlt))) hT
        · have e : i = ds.length := by omega
          subst e
          exact .inl ⟨⟨xs, at_ hI, ll⟩, hd σ' w' hI⟩
end
/-- a pure def by a relation of what it is given and gives -/
def spR (K : Fr) (rel : List PyData -> PyData -> Prop) : Sp := fun vs H Q _ => ∃ (w : Wd) (ds : List PyData) (r : PyData), w.h = H ∧ Ok R0 w ∧ DpAll K w.g vs ds ∧ rel ds r ∧ ∀ v w', Stp R0 w w' -> Dp K w'.g v r -> Q v w'.h
section
variable {K : Fr} {R : Rg} {Γ : Sl} {w : Wd} {tr : TA}
theorem rs_R {rel : List PyData -> PyData -> Prop} {ds : List PyData} {r : PyData} (h : rel ds r) : RS R w (spR K rel) (ds.map (dat K)) (dat K r) := fun xs w1 a hx Q k E =>
  ⟨w1, ds, r, rfl, a.ok.low, allP_dat hx, h, fun v w2 s2 hv => k v w2 (s2.lift a.ok) hv⟩
theorem ev_callR {rel : List PyData -> PyData -> Prop} {E : XK} {ds : List PyData} {r : PyData} (h : EvA R Γ w tr (ds.map (dat K))) (hp : rel ds r) : Ev R Γ w (tCall (spR K rel) [] E tr) (dat K r) := ev_call h (rs_R hp)
theorem spR_len {n : Nat} {rel : List PyData -> PyData -> Prop} (hn : ∀ ds r, rel ds r -> ds.length = n) : ∀ vs H Q E, spR K rel vs H Q E -> vs.length = n := fun vs H Q E h => by
  obtain ⟨w, ds, r, _, _, hd, hp, _⟩ := h
  rw [dpAll_len K hd]
  exact hn ds r hp
theorem dpAll_allP {G : Hp} {ds : List PyData} {vs : List V} (h : DpAll K G vs ds) : AllP G (ds.map (dat K)) vs := allP_of h
/-- a op b op c -/
theorem ev_chain {r r' : R2} {ta tb tc : TE} {p q s : Pd} {b c : Bool} (ha : Ev R Γ w ta p) (hb : Ev R Γ w tb q) (hr : RV R w r p q (dat K (.bool b))) (hc : b = true -> Ev R Γ w tc s) (hr' : b = true -> RV R w r' q s (dat K (.bool c))) :
    Ev R Γ w (tChain r r' ta tb tc) (dat K (.bool (b && c))) := fun σ w1 e a Q k =>
  ha σ w1 e a _ fun x w2 s2 hx => hb σ w2 (e.mono s2.sg) (a.trans s2) _ fun y w3 s3 hy => hr x y w3 ((a.trans s2).trans s3) (p.st x _ _ s3.sg hx) hy _ fun z w4 s4 hz => by
    cases hz
    refine ⟨b, rfl, ?_⟩
    have s24 := (s2.trans s3).trans s4
    cases b with
    | false =>
      show Q (.bl false) w4.h
      exact k _ w4 s24 (.bl _)
    | true =>
      show tc σ w4.h _
      exact hc rfl σ w4 (e.mono s24.sg) (a.trans s24) _ fun u w5 s5 hu => hr' rfl y u w5 ((a.trans s24).trans s5) (q.st y _ _ (s4.trans s5).sg hy) hu Q fun v w6 s6 hv => k v w6 ((s24.trans s5).trans s6) hv
theorem bools_of {G : Hp} : ∀ {bs : List Bool} {vs : List V}, DpAll K G vs (bs.map .bool) -> vs = bs.map V.bl
  | [], _, h => by cases h; rfl
  | b :: bs, _, h => by
    cases h with
    | cons h1 h2 =>
      cases h1
      rw [bools_of h2]
      rfl
theorem rc_any {bs : List Bool} : RC R w (rAny K) [dat K (.list (bs.map .bool))] (dat K (.bool (bs.any id))) := fun xs w1 a hx Q k => by
  cases hx with
  | cons h t =>
    cases t
    cases h with
    | @lst ad vs _ hs ha =>
      have hv : vs = bs.map V.bl := bools_of ha
      subst hv
      exact ⟨ad, bs, rfl, sqL_mono K a.ok.sub hs, k _ w1 (Stp.refl a.ok) (.bl _)⟩
/-- slices of tuples -/
theorem cut_dp {G : Hp} {vs : List V} {ds : List PyData} (h : DpAll K G vs ds) (lo hi : Option Int) : DpAll K G (cutV vs lo hi) ((ds.drop (HT.sIx ds.length 0 lo)).take (HT.sIx ds.length ds.length hi - HT.sIx ds.length 0 lo)) := by
  have l := dpAll_len K h
  unfold cutV
  rw [l]
  exact dpAll_take K _ (dpAll_drop K _ h)
def cutD (ds : List PyData) (lo hi : Option Int) : List PyData := (ds.drop (HT.sIx ds.length 0 lo)).take (HT.sIx ds.length ds.length hi - HT.sIx ds.length 0 lo)
theorem ev_slT {te : TE} {tl th : TO} {ds : List PyData} {lo hi : Option Int} (h : Ev R Γ w te (dat K (.tuple ds))) (h1 : EvO R Γ w tl lo) (h2 : EvO R Γ w th hi) : Ev R Γ w (tSl (rSlA K) te tl th) (dat K (.tuple (cutD ds lo hi))) := fun σ w1 e a Q k =>
  h σ w1 e a _ fun x w2 s2 hx => h1 σ w2 (e.mono s2.sg) (a.trans s2) _ fun w3 s3 => h2 σ w3 (e.mono (s2.trans s3).sg) ((a.trans s2).trans s3) _ fun w4 s4 => by
    cases hx with
    | @tup ad vs _ hs ha =>
      have s24 := s3.trans s4
      have hs4 := sqT_mono K s24.sg hs
      have ha4 := dpAll_mono K s24.sg _ _ ha
      have l := dpAll_len K ha
      refine ⟨ad, vs, rfl, sqT_mono K s4.ok.sub hs4, fun hw => ?_, fun _ p hp => ?_⟩
      · have ec : cutD ds lo hi = ds := by
          unfold cutD
          rw [l] at hw
          rw [hw.1, hw.2]
          simp
        rw [ec] at k
        exact k _ w4 (s2.trans s24) (.tup hs4 ha4)
      · have st := Stp.new (o := .tup (cutV vs lo hi)) s4.ok hp
        exact k _ _ ((s2.trans s24).trans st) (.tup (SqT.of upd_same) (dpAll_mono K st.sg _ _ (cut_dp ha4 lo hi)))
theorem eo_none : EvO R Γ w tNoPart none := fun σ w1 e a Q k => k w1 (Stp.refl a.ok)
theorem eo_some {te : TE} {i : Int} (h : Ev R Γ w te (dat K (.int i))) : EvO R Γ w (tPart te) (some i) := fun σ w1 e a Q k => h σ w1 e a _ fun v w2 s2 hv => by
  cases hv
  exact ⟨i, rfl, k w2 s2⟩
end
end Tf
/-! len(o), o == p, o != p by own methods -/
namespace Tf
open PySem L2 PySem.Spec PyProof.Rows
section
variable {X : Cx} {CX : CXT} {k : Nat} {f : Addr} {fd : FuncData} {ps : List Str} {sp : Sp} {E : XK} {pins : List (Addr × Obj)} {σ : L2.St} {H : Hp} {s : Shared} {Q : VK} {us : List Value} {vs : List V}
/-- an own def called somewhere below the body -/
theorem own_run {A : Around} (F : FnOk X.prog X.w X.K X.mg X.base CX k f fd ps sp) (hr : Room k A) (hfr : A.frames = X.A.frames) (hb : Binds X.K fd ps []) (hx : Passes CX X E)
    (I : L2.Inv X pins σ H s) (r : Vals vs us) (h : sp vs H Q E) : wpAny (model X.prog X.w) A (call (.ref f) us) (EP X pins σ Q) X.xe s := by
  have e0 : Env0 X.prog X.w X.K X.mg X.base A X.stack s H := by
    have e := I.env0
    exact ⟨by rw [hfr]; exact e.frames, e.mod, e.bs, e.bsz, e.funs, e.frf, e.hok, e.bare⟩
  have hl := F.len _ _ _ _ h
  have hul : us.length = ps.length := by rw [← r.length]; exact hl
  have b := hb s us I.kIn (by rw [List.append_nil]; exact hul)
  rw [List.append_nil] at b
  refine wpAny_call (codeAny_mono (F.run A X.stack s H ⟨us, []⟩ us vs Q E hr e0 b r h) fun r s' hq => ?_)
  cases r with
  | error e => exact hx pins σ H s e s' I hq
  | ok fl =>
    cases fl with
    | ret u => exact I.after hq
    | next => exact False.elim hq
    | brk => exact False.elim hq
    | cont => exact False.elim hq
/-- len(o) by its own __len__ -/
def rLenO (C : Addr) (sp : Sp) (E : XK) : List V -> Hp -> VK -> Prop := fun xs H Q => ∃ x dx fs, xs = [.ref x] ∧ H x = some (.ins C dx fs) ∧ sp [.ref x] H (fun v H' => ∃ n : Int, v = .int n ∧ 0 ≤ n ∧ n < 2 ^ 62 ∧ Q (.int n) H') E
theorem call_lenO {C : Addr} (F : FnOk X.prog X.w X.K X.mg X.base CX k f fd ps sp) (hr : Room (k + 1) X.A) (hs : PySem.W.findIn X.K (.ref C) "__len__" = some (some (.ref f))) (hf : PySem.W.isFn X.K (.ref f) = true) (hb : Binds X.K fd ps []) (hx : Passes CX X E) :
    CallR X (.builtin "len") (rLenO C sp E) := by
  intro pins s σ H xs us Q I r h
  obtain ⟨x, dx, fs, rfl, ha, h⟩ := h
  obtain ⟨u, rfl, rx⟩ := vals1 r
  obtain rfl : u = Value.ref x := rx
  obtain ⟨mA, J, _⟩ := ins_get I.hok ha
  obtain ⟨od, J, _⟩ := J.look
  obtain ⟨m, hF⟩ := I.fr
  refine PySem.W.len_K hF I.ok.mod.kin J hs hf (thn (own_run F hr.in1 rfl hb hx I (show Vals [V.ref x] [Value.ref x] from .cons rfl .nil) h) fun u s1 hq => ?_)
  obtain ⟨v, H1, I1, r1, n, rfl, h0, h1, q⟩ := hq
  obtain ⟨t, rfl⟩ := r1
  exact ⟨⟨h0, by omega⟩, ⟨.int n, H1, I1.tok _, ⟨_, rfl⟩, q⟩⟩
/-- o == p by o's own __eq__, p of the same class -/
def rEqO (C : Addr) (sp : Sp) (E : XK) : R2 := fun x y H Q => ∃ a b dx dy fs gs, x = .ref a ∧ y = .ref b ∧ H a = some (.ins C dx fs) ∧ H b = some (.ins C dy gs) ∧ sp [.ref a, .ref b] H (fun v H' => ∃ c : Bool, v = .bl c ∧ Q (.bl c) H') E
theorem op_eqO {C : Addr} (F : FnOk X.prog X.w X.K X.mg X.base CX k f fd ps sp) (hr : Room k X.A) (hs : PySem.W.findIn X.K (.ref C) "__eq__" = some (some (.ref f))) (hf : PySem.W.isFn X.K (.ref f) = true) (hb : Binds X.K fd ps []) (hx : Passes CX X E) :
    OpR X (compareOp .Eq) (rEqO C sp E) := by
  intro pins s σ H x y v u Q I rx ry h
  obtain ⟨a, b, dx, dy, fs, gs, rfl, rfl, ha, hb', h⟩ := h
  cases rx
  cases ry
  obtain ⟨mA, J, _⟩ := ins_get I.hok ha
  obtain ⟨mB, J', _⟩ := ins_get I.hok hb'
  obtain ⟨od, J, _⟩ := J.look
  obtain ⟨od', J', _⟩ := J'.look
  obtain ⟨m, hF⟩ := I.fr
  show wpAny (model X.prog X.w) X.A (richCompare .Eq (.ref a) (.ref b)) (EP X pins σ Q) X.xe s
  refine PySem.W.cmp_K (op := .Eq) (tb := .ref C) hr.units0 hF I.ok.mod.kin J J'.type (by simp [PySem.W.notFirst]) hs hf (thn (own_run F hr rfl hb hx I (show Vals [V.ref a, V.ref b] [Value.ref a, Value.ref b] from .cons rfl (.cons rfl .nil)) h) fun u s1 hq => ?_)
  obtain ⟨v, H1, I1, r1, c, rfl, q⟩ := hq
  cases r1
  exact ⟨.bl c, H1, I1, rfl, q⟩
/-- the class at C has its own __eq__ at f and no __ne__ -/
def NeIn (K : Fr) (C f : Addr) : Prop := ∀ (h : Heap), K.In h → ∀ x o, h.get? x = some o → o.cls = .ref C → h.OwnEqNoNe x C f "object" [.type "object"]
def rNeO (C : Addr) (sp : Sp) (E : XK) : R2 := fun x y H Q => ∃ a b dx dy fs gs, x = .ref a ∧ y = .ref b ∧ H a = some (.ins C dx fs) ∧ H b = some (.ins C dy gs) ∧ sp [.ref a, .ref b] H (fun v H' => ∃ c : Bool, v = .bl c ∧ Q (.bl (!c)) H') E
theorem op_neO {C : Addr} (F : FnOk X.prog X.w X.K X.mg X.base CX k f fd ps sp) (hr : Room (k + 1) X.A) (hN : NeIn X.K C f) (hb : Binds X.K fd ps []) (hx : Passes CX X E) :
    OpR X (compareOp .NotEq) (rNeO C sp E) := by
  intro pins s σ H x y v u Q I rx ry h
  obtain ⟨a, b, dx, dy, fs, gs, rfl, rfl, ha, hb', h⟩ := h
  cases rx
  cases ry
  obtain ⟨mA, J, _⟩ := ins_get I.hok ha
  obtain ⟨mB, J', _⟩ := ins_get I.hok hb'
  obtain ⟨oa, _, _⟩ := J
  obtain ⟨ob, _, _⟩ := J'
  have hu : X.A.units + 1 < cLine := hu_of hr
  obtain ⟨hp, g, d, t, os⟩ := s
  refine compareOp_ne_ownEq PySem.F.cmp_object (hN _ I.kIn a _ oa rfl) ob rfl hu (thn (own_run F hr.in1 rfl hb hx I (show Vals [V.ref a, V.ref b] [Value.ref a, Value.ref b] from .cons rfl (.cons rfl .nil)) h) fun u s1 hq => ?_)
  obtain ⟨v, H1, I1, r1, c, rfl, q⟩ := hq
  cases r1
  exact ⟨c, rfl, .bl (!c), H1, I1, rfl, q⟩
theorem ns_some_of {K : Fr} {h : Heap} {N : Addr} {mg : Str → Option Value} {n : Str} {v : Value} (X : K.In h) (G : h.Ns N mg) (e : PySem.W.nsIn K N n = some (some v)) : mg n = some v := by
  obtain ⟨o, es, ep, ho, hd, _, hf⟩ := G
  unfold PySem.W.nsIn at e
  split at e
  · rename_i c d es' n' sl q
    have := X _ _ q
    rw [ho] at this
    cases this
    cases hd
    split at e
    · rename_i en he
      cases e
      rw [← hf]
      unfold nsFind findBy
      rw [← Array.find?_toList, he]
      rfl
    · split at e <;> cases e
  · cases e
theorem neIn_of {K : Fr} {C f N : Addr} {nm q : Str} {bs : List Value} {hdct : Bool} {sn : List Str} {sub : List Value} {ab : Bool} {col : Option Bool} {dd : Option Addr} {k0 k1 k2 k3 k5 : Option Value} {newId : String} {oN : Value} {dN : Option Addr} {es : Array DictEntry} {nN : Nat} {slN : Array (Option Value)}
    (xL : K.lookup C = some (excClassObj nm q C N bs [.type "object"] hdct sn sub ab col dd k0 k1 k2 k3 k5 newId)) (hf : PySem.W.isFn K (.ref f) = true) (lN : K.lookup N = some ⟨oN, dN, .dict es nN, slN⟩) (okN : (es.all fun e => match e.key with | .str _ _ => true | _ => false) = true)
    (nq : PySem.W.nsIn K N "__eq__" = some (some (.ref f))) (nn : PySem.W.nsIn K N "__ne__" = some none) : NeIn K C f := fun h X x o hx hc => by
  have hok : PySem.W.nsOkIn K N = true := by
    unfold PySem.W.nsOkIn
    rw [lN]
    exact okN
  have hns : h.Ns N (h.nsMap N) := .of_isNs (PySem.W.isNs_of_in X hok)
  have hft : PySem.W.typeIn K (.ref f) = some (.type "function") := beq_iff_eq.mp hf
  obtain ⟨of, hof, hofc⟩ : ∃ of, h.get? f = some of ∧ of.cls = .type "function" := by
    have hft' : (K.lookup f).map (·.cls) = some (.type "function") := hft
    cases z : K.lookup f with
    | none => rw [z] at hft'; cases hft'
    | some of => rw [z] at hft'; exact ⟨of, X _ _ z, Option.some.inj hft'⟩
  have hq : h.nsMap N "__eq__" = some (.ref f) := ns_some_of X hns nq
  exact ⟨o, of, nm, q, N, bs, hdct, sn, sub, ab, col, dd, k0, k1, k2, k3, k5, newId, h.nsMap N, _, hx, hc, X _ _ xL, hns, hq, hof, hofc, PySem.F.cmp_object.mro, PySem.F.cmp_object.eq.lookup, PySem.W.nsMap_none_of_in X hok nn⟩
end
end Tf
/-! sorted of data: a list, a tuple, a text -/
namespace Tf
open PySem L2 PySem.Spec PyProof.Rows
open PySem.W (EachIs AllAlike Sortable dataLe SortsAt sortVals sortingHeap dataKind)
/-- data in order -/
def srt (ds : List PyData) : List PyData := ds.mergeSort (dataLe false id)
theorem srt_len (ds : List PyData) : (srt ds).length = ds.length := (List.mergeSort_perm ds _).length_eq
def signsD (x : Str) : List PyData := x.cps.toList.map fun c => .str ⟨#[c]⟩
def rSortA (K : Fr) : List V → Hp → VK → Prop := fun xs H Q => ∃ (G : Hp) (x : V) (ds : List PyData), (∀ b o, G b = some o → H b = some o) ∧ xs = [x] ∧ (Dp K G x (.list ds) ∨ Dp K G x (.tuple ds) ∨ ∃ z, x = .str z ∧ ds = signsD z) ∧ AllAlike ds ∧ Sortable ds ∧ (∀ d ∈ ds, d.depth ≤ 100) ∧ ds.length ≤ 100000 ∧
  ∀ vs p, DpAll K G vs (srt ds) → H p = none → Q (.ref p) (upd H p (.lst vs))
theorem each_ix {α β : Type} {R : α → β → Prop} : ∀ {l : List α} {m : List β}, l.length = m.length → (∀ (i : Nat) a b, l[i]? = some a → m[i]? = some b → R a b) → EachIs R l m
  | [], [], _, _ => .nil
  | [], _ :: _, h, _ => absurd h (by simp)
  | _ :: _, [], h, _ => absurd h (by simp)
  | x :: l, y :: m, h, k => .cons (k 0 x y rfl rfl) (each_ix (by simpa using h) fun i a b e1 e2 => k (i + 1) a b (by simpa using e1) (by simpa using e2))
section
variable {X : Cx} {pins : List (Addr × Obj)} {σ : L2.St} {H G : Hp} {s : Shared}
def Rdv (K : Fr) (H : Hp) (u : Value) (d : PyData) : Prop := ∃ v, RelV v u ∧ Dp K H v d
theorem each_of : ∀ {vs : List V} {us : List Value} {ds : List PyData}, Vals vs us → DpAll X.K G vs ds → EachIs (Rdv X.K G) us ds
  | _, _, _, .nil, h => by cases h; exact .nil
  | _, _, _, .cons r t, h => by
    cases h with
    | cons h1 h2 => exact .cons ⟨_, r, h1⟩ (each_of t h2)
theorem of_each : ∀ {us : List Value} {ds : List PyData}, EachIs (Rdv X.K G) us ds → ∃ vs, Vals vs us ∧ DpAll X.K G vs ds
  | _, _, .nil => ⟨[], .nil, .nil⟩
  | _, _, .cons h t => by
    obtain ⟨v, r, d⟩ := h
    obtain ⟨vs, r', d'⟩ := of_each t
    exact ⟨v :: vs, .cons r r', .cons d d'⟩
/-- behind the collecting -/
theorem sort_behind {A : Around} {us : List Value} {ds : List PyData} {Q : VK} (hu : A.units + 150 < cLine) (I : L2.Inv X pins σ H s) (hG : ∀ b o, G b = some o → H b = some o) (e : EachIs (Rdv X.K G) us ds) (hal : AllAlike ds) (hk : Sortable ds) (hd : ∀ d ∈ ds, d.depth ≤ 100) (hl : ds.length ≤ 100000)
    (q : ∀ vs p, DpAll X.K G vs (srt ds) → H p = none → Q (.ref p) (upd H p (.lst vs))) {E : Value → Shared → Prop} :
    wpAny (model X.prog X.w) A (Builtin.«list.sort» ⟨[.ref s.heap.objs.size], []⟩) (fun f s' => f = .done (.ret .none) ∧ EP X pins σ Q (.ref s.heap.objs.size) s') E { s with heap := s.heap.push (PyProof.Rows.seqObj "list" us.toArray 0) } := by
  obtain ⟨hp, g, dr, tk, os⟩ := s
  have ho : (hp.push (PyProof.Rows.seqObj "list" us.toArray 0)).get? hp.objs.size = some (PyProof.Rows.seqObj "list" us.toArray 0) := Heap.get?_push_size _ rfl
  have kp : ∀ b o, hp.get? b = some o → (sortingHeap (hp.push (PyProof.Rows.seqObj "list" us.toArray 0)) hp.objs.size us).get? b = some o := fun b o e =>
    PySem.W.sortingHeap_old (Nat.ne_of_lt (Heap.lt_size e)) (Heap.get?_push_of_some _ e)
  have er : EachIs (fun v d => ∃ as, Reads (sortingHeap (hp.push (PyProof.Rows.seqObj "list" us.toArray 0)) hp.objs.size us) v d as) us ds := e.mono fun u d ⟨v, r, h⟩ => by
    obtain ⟨as, z⟩ := Dp.reads I d v u (dp_mono X.K hG d v h) r
    exact ⟨as, PyProof.Rows.Reads.keeps kp z⟩
  have el := e.length
  have ed : ds.map id = ds := List.map_id ds
  have er2 : EachIs (fun v d => ∃ as, Reads (sortingHeap (hp.push (PyProof.Rows.seqObj "list" us.toArray 0)) hp.objs.size us) v (id d) as) us ds := er
  have S := SortsAt.data (prog := X.prog) (w := X.w) (A := A) (s := ⟨sortingHeap (hp.push (PyProof.Rows.seqObj "list" us.toArray 0)) hp.objs.size us, g, dr, tk, os⟩) er hal hk (fun d m => by have := hd d m; omega)
  refine PySem.W.list_sort_vals (s := ⟨hp.push (PyProof.Rows.seqObj "list" us.toArray 0), g, dr, tk, os⟩) ho S (by rw [el, sizeLine_eq]; omega) ⟨rfl, ?_⟩
  have ev := PySem.W.sortVals_data (h' := sortingHeap (hp.push (PyProof.Rows.seqObj "list" us.toArray 0)) hp.objs.size us) (R := Rdv X.K G) (enc := id) false e er2 (by rw [ed]; exact hal)
  obtain ⟨vs, rv, dv⟩ := of_each ev
  obtain ⟨n, hn⟩ := PyProof.Rows.sortedHeap_at (vs := us) (out := (sortVals (dataKind (sortingHeap (hp.push (PyProof.Rows.seqObj "list" us.toArray 0)) hp.objs.size us) (ds.map id)) false us us).toArray) ho
  have dv' : DpAll X.K G vs (srt ds) := dv
  have hlv : vs.length = ds.length := by rw [dpAll_len X.K dv', srt_len]
  have hnp : H hp.objs.size = none := I.hok.fresh (Nat.le_refl _)
  rw [ed] at hn
  refine ⟨.ref hp.objs.size, upd H hp.objs.size (.lst vs), I.laid (t' := tk) (fun b o z => ?_) (Nat.le_refl _) ⟨by show vs.length ≤ sizeLine; rw [hlv]; exact Nat.le_trans hl (by decide), _, n, rv, ?_⟩, rfl, q vs _ dv' hnp⟩
  · have hb := Heap.lt_size z
    rw [PyProof.Rows.sortedHeap_old (Nat.ne_of_lt hb) (by rw [PyProof.Rows.size_push']; exact Nat.lt_succ_of_lt hb)]
    exact Heap.get?_push_of_some _ z
  · rw [ed]
    exact hn
theorem cr_sortA {k : Nat} (hc : X.calm = true) (hr : Room k X.A) : CallR X (.builtin "sorted") (rSortA X.K) := by
  intro pins s σ H xs us Q I r h
  obtain ⟨G, x, ds, hG, rfl, hx, hal, hk, hd, hl, q⟩ := h
  obtain ⟨u, rfl, rx⟩ := vals1 r
  refine Calls.call_function_entry PyProof.Rows.kind_sorted PyProof.Rows.plain_sorted PyProof.Rows.entry_sorted (PyProof.Rows.args_sorted1 _) ?_
  unfold Builtin.«sorted»
  refine wpAny_bind (m := checkCount "sorted" 1 1 _) (wpAny_pure ?_)
  have fin : ∀ (s1 : Shared) (us : List Value), L2.Inv X pins σ H s1 → EachIs (Rdv X.K G) us ds → wpAny (model X.prog X.w) X.A.in1 (do
      let l ← newList us
      let _ ← holding [l] (call (.builtin "list.sort") [l])
      ret l) (fun f s' => ∃ v, f = .done (.ret v) ∧ EP X pins σ Q v s') X.xe s1 := fun s1 us I1 e => by
    have el := e.length
    refine wpAny_bind (wpAny_newList ?_ (by rw [el, sizeLine_eq]; omega))
    refine wpAny_bind (wpAny_holding (wpAny_call_entry PyProof.Rows.slot_list_sort ⟨_, Heap.get?_push_size _ rfl, rfl⟩ PyProof.Rows.entry_list_sort ?body (PyProof.Rows.args_list_sort _)))
    case body =>
      refine wpAny_mono (sort_behind (A := X.A.in1.in1) (by have := hr.un; show X.A.units + 1 + 1 + 150 < cLine; omega) I1 hG e hal hk hd hl q) (fun f s' hf => ?_) fun _ _ e => e
      obtain ⟨rfl, hq⟩ := hf
      exact ⟨_, rfl, wpAny_pure ⟨_, rfl, hq⟩⟩
  rcases hx with hx | hx | ⟨z, rfl, rfl⟩
  · cases hx with
    | lst hs ha =>
      cases rx
      obtain ⟨its, rv, ⟨o, n, ho, hc, _, hdt⟩, hz⟩ := I.list (sqL_mono X.K hG hs)
      refine wpAny_bind (wpAny_collect_seq _ (.inl rfl) ho hc hdt (fun h' kp => ?_) (by rw [List.size_toArray, ← rv.length]; exact hz))
      exact fin _ _ (I.kept (t' := s.toks) kp) (each_of rv ha)
  · cases hx with
    | tup hs ha =>
      cases rx
      obtain ⟨its, rv, ⟨o, ho, hc, n, hdt⟩, hz⟩ := I.tuple (sqT_mono X.K hG hs)
      refine wpAny_bind (wpAny_collect_seq _ (.inr rfl) ho hc hdt (fun h' kp => ?_) (by rw [List.size_toArray, ← rv.length]; exact hz))
      exact fin _ _ (I.kept (t' := s.toks) kp) (each_of rv ha)
  · obtain ⟨t, rfl⟩ := rx
    have hsz : z.cps.size ≤ 100000 := by
      have : (signsD z).length = z.cps.size := by unfold signsD; rw [List.length_map, Array.length_toList]
      omega
    refine wpAny_bind (wpAny_collect_str (A := X.A.in1) (I.ok.hd hc) z t (fun s' acc kp hg hdr hos hacc => ?_) (by rw [sizeLine_eq]; omega))
    obtain ⟨h', g', d', tk', os'⟩ := s'
    obtain rfl : g' = s.gens := hg
    obtain rfl : d' = s.drawn := hdr
    obtain rfl : os' = s.os := hos
    refine fin _ _ (I.kept (t' := tk') kp) ?_
    have sz : acc.toList.length = (signsD z).length := by
      unfold signsD
      rw [Array.length_toList, hacc.1, List.length_map, Array.length_toList]
    refine each_ix sz fun i u d e1 e2 => ?_
    obtain ⟨c, t2, hc2, rfl⟩ := hacc.2 i u (by rw [← Array.getElem?_toList]; exact e1)
    have e3 : (signsD z)[i]? = some (.str ⟨#[c]⟩) := by
      unfold signsD
      rw [List.getElem?_map, Array.getElem?_toList, hc2]
      rfl
    rw [e3] at e2
    cases e2
    exact ⟨.str ⟨#[c]⟩, ⟨t2, rfl⟩, .str _⟩
end
end Tf
namespace Tf
open PySem L2 PySem.Spec PyProof.Rows
open PySem.W (AllAlike Sortable)
section
variable {K : Fr} {R : Rg} {Γ : Sl} {w : Wd} {tr : TA}
theorem rc_sort {d : PyData} {ds : List PyData} (hd : d = .list ds ∨ d = .tuple ds ∨ ∃ z, d = .str z ∧ ds = signsD z) (hal : AllAlike ds) (hk : Sortable ds) (hdp : ∀ d ∈ ds, d.depth ≤ 100) (hl : ds.length ≤ 100000) : RC R w (rSortA K) [dat K d] (dat K (.list (srt ds))) := fun xs w1 a hx Q k => by
  cases hx with
  | @cons _ x _ _ h t =>
    cases t
    have h' : Dp K w1.g x d := h
    refine ⟨w1.g, x, ds, a.ok.sub, rfl, ?_, hal, hk, hdp, hl, fun vs p hv hp => ?_⟩
    · rcases hd with rfl | rfl | ⟨z, rfl, rfl⟩
      · exact .inl h'
      · exact .inr (.inl h')
      · cases h'
        exact .inr (.inr ⟨z, rfl, rfl⟩)
    · have st := Stp.new (o := .lst vs) a.ok hp
      exact k (.ref p) ⟨upd w1.g p (.lst vs), upd w1.h p (.lst vs)⟩ st (.lst (SqL.of upd_same) (dpAll_mono K st.sg _ _ hv))
end
end Tf
/-! enumerate of a list, slices of lists, signs in texts, objects being made -/
namespace Tf
open PySem L2 PySem.Spec PyProof.Rows
section
variable {K : Fr} {R : Rg} {Γ : Sl} {w : Wd} {tr : TA} {D : Ends} {σ : L2.St} {tu : TS} {te : TE}
theorem q_forEnL {ds : List PyData} {i1 i2 : Nat} (he : EvA R Γ w tr [dat K (.list ds)]) (e : EnvOk w.g Γ σ) (a : Ok R w)
    (k : ∀ w2, Stp R w w2 -> EnvOk w2.g Γ σ -> ∃ I, Lp D tu ds.length w2 σ I fun i σ' w' N => ∀ d v T, ds[i]? = some d -> Dp K w'.g v d -> w'.h T = none -> tu { D with nx := N, ct := N, bk := D.nx } ((σ'.set i1 (some (.int (i : Int)))).set i2 (some v)) (upd w'.h T (.tup [.int (i : Int), v]))) :
    tFor (iEnum K tr) (gTup K 2 (gCons (gName i1) (gCons (gName i2) gNil))) tu D σ w.h :=
  he σ w e (Stp.refl a) _ fun vs w2 s2 hv => by
    obtain ⟨I, h0, hg, hs, hd⟩ := k w2 s2 (e.mono s2.sg)
    cases hv with
    | cons hx hn =>
      cases hn
      cases hx with
      | @lst ad xs _ hx ha =>
        have ll := dpAll_len K ha
        have at_ : ∀ {i σ' w'}, I i σ' w' -> SqL K w'.h ad xs := fun {i σ' w'} h => sqL_mono K (hg i σ' w' h).sub (sqL_mono K (hg i σ' w' h).sg hx)
        refine ⟨ad, xs, rfl, sqL_mono K s2.ok.sub hx, fun i m σ' H' => m = ds.length - i ∧ i ≤ ds.length ∧ ∃ w', w'.h = H' ∧ I i σ' w', ⟨ds.length, by simp, Nat.zero_le _, w2, rfl, h0⟩, fun i m σ' H' hW => ?_⟩
        obtain ⟨rfl, hi, w', rfl, hI⟩ := hW
        by_cases hlt : i < ds.length
        · have hx2 : xs[i]? = some xs[i] := List.getElem?_eq_getElem (by rw [ll]; exact hlt)
          refine .inr ⟨⟨xs, _, at_ hI, hx2⟩, fun σ3 H3 => ∃ w3, w3.h = H3 ∧ I (i + 1) σ3 w3, fun σ3 H3 q => ⟨ds.length - (i + 1), by omega, rfl, hlt, q⟩, fun x H4 y => ?_⟩
          obtain ⟨T, z, rfl, hT, rfl, hz⟩ := y
          have ez := Option.some.inj ((hz xs (at_ hI)).symm.trans hx2)
          subst ez
          refine ⟨T, _, rfl, SqT.of upd_same, rfl, _, _, rfl, _, _, rfl, rfl, ?_⟩
          exact hs i σ' w' _ hlt hI (fun σ3 w3 h3 => ⟨w3, rfl, h3⟩) ds[i] _ T (List.getElem?_eq_getElem hlt) (dp_mono K (hg i σ' w' hI).sg _ _ (dpAll_get K ha hx2 (List.getElem?_eq_getElem hlt))) hT
        · have e : i = ds.length := by omega
          subst e
          exact .inl ⟨⟨xs, at_ hI, Nat.le_of_eq ll⟩, hd σ' w' hI⟩
theorem ev_slL {tl th : TO} {ds : List PyData} {lo hi : Option Int} (h : Ev R Γ w te (dat K (.list ds))) (h1 : EvO R Γ w tl lo) (h2 : EvO R Γ w th hi) : Ev R Γ w (tSl (rSlL K) te tl th) (dat K (.list (cutD ds lo hi))) := fun σ w1 e a Q k =>
  h σ w1 e a _ fun x w2 s2 hx => h1 σ w2 (e.mono s2.sg) (a.trans s2) _ fun w3 s3 => h2 σ w3 (e.mono (s2.trans s3).sg) ((a.trans s2).trans s3) _ fun w4 s4 => by
    cases hx with
    | @lst ad vs _ hs ha =>
      have s24 := s3.trans s4
      have ha4 := dpAll_mono K s24.sg _ _ ha
      refine ⟨ad, vs, rfl, sqL_mono K s4.ok.sub (sqL_mono K s24.sg hs), fun p hp => ?_⟩
      have st := Stp.new (o := .lst (cutV vs lo hi)) s4.ok hp
      exact k _ _ ((s2.trans s24).trans st) (.lst (SqL.of upd_same) (dpAll_mono K st.sg _ _ (cut_dp ha4 lo hi)))
theorem cut_to (ds : List PyData) (i : Nat) : cutD ds none (some (i : Int)) = ds.take i := by
  unfold cutD
  have e1 : HT.sIx ds.length 0 none = 0 := rfl
  rw [e1, HT.sIx_nat, Nat.sub_zero, List.drop_zero]
  by_cases h : i ≤ ds.length
  · rw [Nat.min_eq_left h]
  · rw [Nat.min_eq_right (by omega), List.take_length, List.take_of_length_le (by omega)]
theorem cut_from (ds : List PyData) (i : Nat) : cutD ds (some (i : Int)) none = ds.drop i := by
  unfold cutD
  have e2 : HT.sIx ds.length ds.length none = ds.length := rfl
  rw [e2, HT.sIx_nat]
  by_cases h : i ≤ ds.length
  · rw [Nat.min_eq_left h, List.take_of_length_le (by rw [List.length_drop]; exact Nat.le_refl _)]
  · rw [Nat.min_eq_right (by omega), List.drop_length, List.drop_of_length_le (by omega), List.take_nil]
/-- a sign in a text -/
abbrev rInSg : R2 := fun x y H Q => ∃ (c : Nat) (z : Str), x = .str ⟨#[c]⟩ ∧ y = .str z ∧ Q (.bl (decide (c ∈ z.cps.toList))) H
theorem rv_inSg {c : Nat} {z : Str} : RV R w rInSg (dat K (.str ⟨#[c]⟩)) (dat K (.str z)) (dat K (.bool (decide (c ∈ z.cps.toList)))) := fun x y w1 a hx hy Q k => by
  cases hx
  cases hy
  exact ⟨c, z, rfl, rfl, k _ w1 (Stp.refl a.ok) (.bl _)⟩
/-! ### what is being made -/
/-- a hidden new thing changes -/
theorem Stp.sto {w0 : Wd} {l : Addr} {o : HO} (s : Stp R w0 w) (h0 : w0.h l = none) (hg : w.g l = none) (nm : ¬ R.mu l) (th : ∃ o', w.h l = some o') : Stp R w0 ⟨w.g, upd w.h l o⟩ := by
  have k : ∀ b u, b ≠ l -> w.h b = some u -> upd w.h l o b = some u := fun b u hb e => by
    rw [upd_ne hb]
    exact e
  have nl : ∀ b u, w0.h b = some u -> b ≠ l := fun b u e z => by
    subst z
    rw [h0] at e
    cases e
  have inv : R.inv (upd w.h l o) := R.keep _ _ s.ok.inv fun b u m e => k b u (fun z => by subst z; exact nm m) e
  refine ⟨⟨fun b u e => k b u (fun z => by subst z; rw [hg] at e; cases e) (s.ok.sub b u e), inv, fun b m => ?_⟩, s.sg, fun b u e m => k b u (nl b u e) (s.keep b u e m), s.hid, fun b u e => ?_⟩
  · obtain ⟨h1, h2⟩ := s.ok.apart b m
    refine ⟨h1, ?_⟩
    show upd w.h l o b ≠ none
    rw [upd_ne (fun z => by subst z; exact nm m)]
    exact h2
  · obtain ⟨u', e'⟩ := s.there b u e
    exact ⟨u', k b u' (nl b u e) e'⟩
/-- it stands fast from now on -/
theorem Stp.fix {w0 : Wd} {l : Addr} {o : HO} (a : Stp R w0 w) (h : w.h l = some o) (n : w0.h l = none) (g : w.g l = none) (nm : ¬ R.mu l) : Stp R w0 ⟨upd w.g l o, w.h⟩ := by
  refine ⟨⟨fun b u e => ?_, a.ok.inv, fun b m => ⟨?_, (a.ok.apart b m).2⟩⟩, fun b u e => ?_, a.keep, fun b u e z => ?_, a.there⟩
  · by_cases hb : b = l
    · subst hb
      have e' : upd w.g b o b = some u := e
      rw [upd_same] at e'
      show w.h b = some u
      rw [h]
      exact e'
    · have e' : upd w.g l o b = some u := e
      rw [upd_ne hb] at e'
      exact a.ok.sub b u e'
  · show upd w.g l o b = none
    rw [upd_ne (fun z => by subst z; exact nm m)]
    exact (a.ok.apart b m).1
  · show upd w.g l o b = some u
    have e1 := a.sg b u e
    rw [upd_ne (ne_of_none e1 g)]
    exact e1
  · show upd w.g l o b = none
    rw [upd_ne (ne_of_none e n)]
    exact a.hid b u e z
theorem fixg {g : Hp} {l : Addr} {o : HO} (h : g l = none) : ∀ b u, g b = some u -> upd g l o b = some u := fun b u e => by
  rw [upd_ne (ne_of_none e h)]
  exact e
/-- C(..) by an own __init__: behind it what is made stands fast -/
theorem ev_make {C : Addr} {sp : Sp} {E : XK} {ps : List Pd} {p : Pd} (h : EvA R Γ w tr ps)
    (k : ∀ (w1 : Wd) (x dx : Addr) (vs : List V), Ok R0 w1 -> w1.h x = none -> w1.h dx = none -> dx ≠ x -> AllP w1.g ps vs -> ∀ (Q : VK) (E : XK),
      (∀ fs w2, Stp R0 w1 w2 -> w2.g x = none -> w2.h x = some (.ins C dx fs) -> (∀ G, (∀ b u, w2.g b = some u -> G b = some u) -> G x = some (.ins C dx fs) -> p.P (.ref x) G) -> Q .non w2.h) ->
      sp (.ref x :: vs) (upd (upd w1.h dx (.own x)) x (.ins C dx [])) Q E) : Ev R Γ w (tMake C sp [] E tr) p := fun σ w0 e a Q q => h σ w0 e a _ fun vs w1 s1 hv => by
  intro x dx hx hdx hne
  rw [List.append_nil]
  refine k w1 x dx vs s1.ok.low hx hdx hne hv _ _ fun fs w2 s2 gx hx2 hp => ⟨rfl, ?_⟩
  have s12 := s2.lift s1.ok
  have nm := s1.ok.notmut hx
  have s3 := Stp.fix s12 hx2 hx gx nm
  exact q (.ref x) ⟨upd w2.g x (.ins C dx fs), w2.h⟩ (s1.trans s3) (hp _ (fixg gx) upd_same)
/-- the new instance and its dict -/
theorem Stp.made {C x dx : Addr} (a : Ok R0 w) (hx : w.h x = none) (hdx : w.h dx = none) (hne : dx ≠ x) : Stp R0 w ⟨w.g, upd (upd w.h dx (.own x)) x (.ins C dx [])⟩ := by
  have s1 := Stp.newM (o := .own x) a hdx
  have hx' : (⟨w.g, upd w.h dx (.own x)⟩ : Wd).h x = none := by
    show upd w.h dx (.own x) x = none
    rw [upd_ne (Ne.symm hne)]
    exact hx
  exact s1.trans (Stp.newM s1.ok hx')
end
end Tf
/-! texts, joined and sorted; tuple(..); dicts being filled -/
namespace Tf
open PySem L2 PySem.Spec PyProof.Rows
open PySem.W (AllAlike Sortable dataLe)
section
variable {K : Fr} {R : Rg} {Γ : Sl} {w : Wd} {tr : TA} {D : Ends} {σ : L2.St} {tu : TS} {te td ty tv : TE}
theorem rc_tupT {ds : List PyData} : RC R w (fun xs H Q => ∃ p ys, xs = [.ref p] ∧ ((SqL K H p ys ∧ ∀ l, H l = none → Q (.ref l) (upd H l (.tup ys))) ∨ (SqT K H p ys ∧ Q (.ref p) H))) [dat K (.tuple ds)] (dat K (.tuple ds)) := fun xs w1 a hx Q k => by
  cases hx with
  | cons h t =>
    cases t
    cases h with
    | @tup ad vs _ hs ha => exact ⟨ad, vs, rfl, .inr ⟨sqT_mono K a.ok.sub hs, k _ w1 (Stp.refl a.ok) (.tup hs ha)⟩⟩
theorem rc_tupL {ds : List PyData} : RC R w (fun xs H Q => ∃ p ys, xs = [.ref p] ∧ ((SqL K H p ys ∧ ∀ l, H l = none → Q (.ref l) (upd H l (.tup ys))) ∨ (SqT K H p ys ∧ Q (.ref p) H))) [dat K (.list ds)] (dat K (.tuple ds)) := fun xs w1 a hx Q k => by
  cases hx with
  | cons h t =>
    cases t
    cases h with
    | @lst ad vs _ hs ha =>
      refine ⟨ad, vs, rfl, .inl ⟨sqL_mono K a.ok.sub hs, fun l hl => ?_⟩⟩
      have st := Stp.new (o := .tup vs) a.ok hl
      exact k _ _ st (.tup (SqT.of upd_same) (dpAll_mono K st.sg _ _ ha))
theorem rc_lstL {ds : List PyData} : RC R w (fun xs H Q => ∃ p ys, xs = [.ref p] ∧ (SqL K H p ys ∨ SqT K H p ys) ∧ ∀ l, H l = none → Q (.ref l) (upd H l (.lst ys))) [dat K (.list ds)] (dat K (.list ds)) := fun xs w1 a hx Q k => by
  cases hx with
  | cons h t =>
    cases t
    cases h with
    | @lst ad vs _ hs ha =>
      refine ⟨ad, vs, rfl, .inl (sqL_mono K a.ok.sub hs), fun l hl => ?_⟩
      have st := Stp.new (o := .lst vs) a.ok hl
      exact k _ _ st (.lst (SqL.of upd_same) (dpAll_mono K st.sg _ _ ha))
theorem rc_lstT {ds : List PyData} : RC R w (fun xs H Q => ∃ p ys, xs = [.ref p] ∧ (SqL K H p ys ∨ SqT K H p ys) ∧ ∀ l, H l = none → Q (.ref l) (upd H l (.lst ys))) [dat K (.tuple ds)] (dat K (.list ds)) := fun xs w1 a hx Q k => by
  cases hx with
  | cons h t =>
    cases t
    cases h with
    | @tup ad vs _ hs ha =>
      refine ⟨ad, vs, rfl, .inr (sqT_mono K a.ok.sub hs), fun l hl => ?_⟩
      have st := Stp.new (o := .lst vs) a.ok hl
      exact k _ _ st (.lst (SqL.of upd_same) (dpAll_mono K st.sg _ _ ha))
theorem strs_of {G : Hp} : ∀ {ys : List Str} {vs : List V}, DpAll K G vs (ys.map .str) -> vs = ys.map V.str
  | [], _, h => by cases h; rfl
  | y :: ys, _, h => by
    cases h with
    | cons h1 h2 =>
      cases h1
      rw [strs_of h2]
      rfl
abbrev rJoin (K : Fr) : V → List V → Hp → VK → Prop := fun x xs H Q => ∃ a p, ∃ ys : List Str, x = .str a ∧ xs = [.ref p] ∧ (SqL K H p (ys.map V.str) ∨ SqT K H p (ys.map V.str)) ∧
  (ys.map (·.length)).sum + ys.length * a.length ≤ 16777216 ∧ Q (.str (Txt.join a ys)) H
theorem ev_join {to : TE} {a : Str} {d : PyData} {ys : List Str} (hd : d = .list (ys.map .str) ∨ d = .tuple (ys.map .str)) (ho : Ev R Γ w to (dat K (.str a))) (he : Ev R Γ w te (dat K d)) (hl : (ys.map (·.length)).sum + ys.length * a.length ≤ 100000) :
    Ev R Γ w (tM1 (rJoin K) to te) (dat K (.str (Txt.join a ys))) := fun σ w1 e s Q k =>
  ho σ w1 e s _ fun x w2 s2 hx => by
    cases hx
    refine ⟨⟨a, rfl⟩, he σ w2 (e.mono s2.sg) (s.trans s2) _ fun y w3 s3 hy => ?_⟩
    rcases hd with rfl | rfl
    · cases hy with
      | @lst ad vs _ hs ha =>
        have := strs_of ha
        subst this
        exact ⟨a, ad, ys, rfl, rfl, .inl (sqL_mono K s3.ok.sub hs), Nat.le_trans hl (by decide), k _ w3 (s2.trans s3) (.str _)⟩
    · cases hy with
      | @tup ad vs _ hs ha =>
        have := strs_of ha
        subst this
        exact ⟨a, ad, ys, rfl, rfl, .inr (sqT_mono K s3.ok.sub hs), Nat.le_trans hl (by decide), k _ w3 (s2.trans s3) (.str _)⟩
/-! ### signs, sorted -/
def toS : PyData → Str
  | .str x => x
  | _ => Str.empty
theorem signs_ok (x : Str) : AllAlike (signsD x) ∧ Sortable (signsD x) ∧ (∀ d ∈ signsD x, d.depth ≤ 100) := by
  refine ⟨fun d hd d' hd' => ?_, .inr fun d hd => ?_, fun d hd => ?_⟩
  · obtain ⟨c, _, rfl⟩ := List.mem_map.mp hd
    obtain ⟨c', _, rfl⟩ := List.mem_map.mp hd'
    simp [PySem.W.alike]
  · obtain ⟨c, _, rfl⟩ := List.mem_map.mp hd
    exact ⟨(fun h => by cases h), (fun _ h => by cases h)⟩
  · obtain ⟨c, _, rfl⟩ := List.mem_map.mp hd
    exact Nat.zero_le _
theorem signs_len (x : Str) : (signsD x).length = x.length := by
  unfold signsD
  rw [List.length_map, Array.length_toList]
  rfl
/-- the sorted signs as texts -/
def sgs (x : Str) : List Str := (srt (signsD x)).map toS
theorem sgs_mem {x : Str} {d : PyData} (h : d ∈ srt (signsD x)) : ∃ c, d = .str ⟨#[c]⟩ := by
  have h2 := (List.mergeSort_perm (signsD x) _).mem_iff.mp h
  obtain ⟨c, _, rfl⟩ := List.mem_map.mp h2
  exact ⟨c, rfl⟩
theorem sgs_eq (x : Str) : srt (signsD x) = (sgs x).map .str := by
  unfold sgs
  rw [List.map_map]
  have : ∀ l : List PyData, (∀ d ∈ l, ∃ c, d = .str ⟨#[c]⟩) → l = l.map (PyData.str ∘ toS) := fun l => by
    induction l with
    | nil => intro _; rfl
    | cons d l ih =>
      intro h
      obtain ⟨c, rfl⟩ := h d List.mem_cons_self
      rw [List.map_cons, ← ih fun d m => h d (List.mem_cons_of_mem _ m)]
      rfl
  exact this _ fun d h => sgs_mem h
theorem sgs_len (x : Str) : (sgs x).length = x.length := by
  unfold sgs
  rw [List.length_map, srt_len, signs_len]
theorem sgs_sum (x : Str) : ((sgs x).map (·.length)).sum = x.length := by
  have : ∀ l : List PyData, (∀ d ∈ l, ∃ c, d = .str ⟨#[c]⟩) → ((l.map toS).map (·.length)).sum = l.length := fun l => by
    induction l with
    | nil => intro _; rfl
    | cons d l ih =>
      intro h
      obtain ⟨c, rfl⟩ := h d List.mem_cons_self
      rw [List.map_cons, List.map_cons, List.sum_cons, ih fun d m => h d (List.mem_cons_of_mem _ m), List.length_cons]
      show 1 + l.length = l.length + 1
      omega
  unfold sgs
  rw [this _ fun d h => sgs_mem h, srt_len, signs_len]
/-- ''.join(sorted(''.join(ys))) -/
def signsOf (ys : List Str) : Str := Txt.join "" (sgs (Txt.join "" ys))
theorem ev_signs {d : PyData} {ys : List Str} (hd : d = .list (ys.map .str) ∨ d = .tuple (ys.map .str)) (he : Ev R Γ w te (dat K d)) (hl : (ys.map (·.length)).sum ≤ 10000) (hj : (Txt.join "" ys).length ≤ 10000) :
    Ev R Γ w (tM1 (rJoin K) (tC (.str "")) (tCB (rSortA K) (tCons (tM1 (rJoin K) (tC (.str "")) te) tNil))) (dat K (.str (signsOf ys))) := by
  have e0 : (("" : Str)).length = 0 := by decide +kernel
  obtain ⟨h1, h2, h3⟩ := signs_ok (Txt.join "" ys)
  refine ev_join (d := .list ((sgs (Txt.join "" ys)).map .str)) (.inl rfl) ev_str (Ev.to (ev_cb (ea_cons (ev_join hd ev_str he (by rw [e0]; omega)) ea_nil) (rc_sort (.inr (.inr ⟨_, rfl, rfl⟩)) h1 h2 h3 (by rw [signs_len]; omega))) (congrArg PyData.list (sgs_eq _))) ?_
  rw [e0, sgs_sum]
  omega
/-! ### a dict being filled -/
theorem q_dput {w0 : Wd} {l : Addr} {kvs : List (Key × V)} {x : Str} {p : Pd} (ht : Ev R0 Γ w tv p) (ho : Ev R0 Γ w td (own l)) (hy : Ev R0 Γ w ty (dat K (.str x))) (e : EnvOk w.g Γ σ) (s : Stp R0 w0 w) (h0 : w0.h l = none) (hg : w.g l = none) (hl : w.h l = some (.dK kvs)) (hk : kvs.length ≤ 10000)
    (k : ∀ w' kvs', Stp R0 w0 w' -> EnvOk w'.g Γ σ -> w'.g l = none -> w'.h l = some (.dK kvs') -> kvs'.length ≤ kvs.length + 1 -> (∀ b o, w.g b = some o -> w'.g b = some o) -> D.nx σ w'.h) : sDPut td ty tv D σ w.h :=
  ht σ w e (Stp.refl s.ok) _ fun v w1 s1 hv => ho σ w1 (e.mono s1.sg) s1 _ fun z w2 s2 hz => hy σ w2 (e.mono (s1.trans s2).sg) (s1.trans s2) _ fun y w3 s3 hy => by
    cases hy
    have hz' : z = .ref l := hz
    subst hz'
    have s13 := (s1.trans s2).trans s3
    have hl3 := s13.keep l _ hl fun z => z
    have hg3 := s13.hid l _ hl hg
    refine ⟨l, _, rfl, DPut.k (k := .inr x) (v := v) hl3 (Nat.lt_of_le_of_lt hk (by decide)), ?_⟩
    have s4 := Stp.sto (o := .dK (putK kvs (.inr x) v)) (s.trans s13) h0 hg3 (fun z => z) ⟨_, hl3⟩
    refine k ⟨w3.g, upd w3.h l (.dK (putK kvs (.inr x) v))⟩ _ s4 (e.mono s13.sg) hg3 upd_same ?_ s13.sg
    unfold putK
    split
    · rw [List.length_map]
      omega
    · rw [List.length_append]
      exact Nat.le_refl _
/-- o.f = v where o is being made -/
theorem q_fld {w0 : Wd} {x C dx : Addr} {f : Str} {fs : List (Str × V)} {p : Pd} (c : Cls K C) (n : NoAttr K C f) (ht : Ev R0 Γ w tv p) (ho : Ev R0 Γ w td (own x)) (e : EnvOk w.g Γ σ) (s : Stp R0 w0 w) (h0 : w0.h x = none) (hg : w.g x = none) (hl : w.h x = some (.ins C dx fs)) (hk : fs.length ≤ 100)
    (k : ∀ v w', Stp R0 w0 w' -> EnvOk w'.g Γ σ -> w'.g x = none -> w'.h x = some (.ins C dx (putF f v fs)) -> p.P v w'.g -> (∀ b o, w.g b = some o -> w'.g b = some o) -> D.nx σ w'.h) : sFld K td tv f D σ w.h :=
  ht σ w e (Stp.refl s.ok) _ fun v w1 s1 hv => ho σ w1 (e.mono s1.sg) s1 _ fun z w2 s2 hz => by
    have hz' : z = .ref x := hz
    subst hz'
    have s12 := s1.trans s2
    have hl2 := s12.keep x _ hl fun z => z
    have hg2 := s12.hid x _ hl hg
    refine ⟨x, C, dx, fs, rfl, hl2, c, n, by omega, ?_⟩
    have s3 := Stp.sto (o := .ins C dx (putF f v fs)) (s.trans s12) h0 hg2 (fun z => z) ⟨_, hl2⟩
    exact k v ⟨w2.g, upd w2.h x (.ins C dx (putF f v fs))⟩ s3 (e.mono s12.sg) hg2 upd_same (p.st v _ _ s2.sg hv) s12.sg
end
end Tf
/-! keys as texts -/
namespace Tf
open PySem L2
def SG : Str := "!,-.0123456789:;?ABCDEFGHIJKLMNOPQRSTUVWXYZabcdefghijklmnopqrstuvwxyz"
def hts (k : Str) : Bool := match k.cps.toList with
  | [c, d] => decide (c ∈ SG.cps.toList) && decide (d ∈ SG.cps.toList)
  | _ => false
def early (ks : List Str) : List Nat := ks.flatMap fun k => k.cps.toList
def kwrong (ks : List Str) (i : Nat) : Bool := match ks[i]? with
  | none => false
  | some k => (decide (i = 10) || !hts k) || match k.cps.toList with
    | [c, d] => decide (c = d) || (decide (c ∈ early (ks.take i)) || decide (d ∈ early (ks.take i)))
    | _ => false
/-- the first wrong key -/
def fwk (ks : List Str) : Option Nat := match (List.range ks.length).find? (kwrong ks) with
  | some i => some i
  | none => if ks.length < 2 then some ks.length else none
theorem hts_two {k : Str} (h : hts k = true) : ∃ c d, k.cps.toList = [c, d] ∧ k = ⟨#[c, d]⟩ ∧ k.length = 2 := by
  unfold hts at h
  split at h
  · rename_i c d e
    refine ⟨c, d, e, ?_, ?_⟩
    · cases k with
      | mk a =>
        congr 1
        exact Array.toList_inj.mp e
    · have := congrArg List.length e
      simpa [Str.length] using this
  · cases h
theorem early_snoc (ks : List Str) (k : Str) : early (ks ++ [k]) = early ks ++ k.cps.toList := by
  unfold early
  rw [List.flatMap_append]
  simp
/-- a keyboard's keys -/
structure KG (ks : List Str) : Prop where
  two : ∀ k ∈ ks, hts k = true
  nd : (early ks).Nodup
  lo : 2 ≤ ks.length
  hi : ks.length ≤ 10
theorem early_split {ks : List Str} {i : Nat} {k : Str} (h : ks[i]? = some k) : early ks = early (ks.take i) ++ (k.cps.toList ++ early (ks.drop (i + 1))) := by
  have hi : i < ks.length := (List.getElem?_eq_some_iff.mp h).1
  have e1 : ks = ks.take i ++ (k :: ks.drop (i + 1)) := by
    have := List.take_append_drop i ks
    rw [List.drop_eq_getElem_cons hi, (List.getElem?_eq_some_iff.mp h).2] at this
    exact this.symm
  conv => lhs; rw [e1]
  unfold early
  rw [List.flatMap_append, List.flatMap_cons]
theorem KG.right {ks : List Str} (h : KG ks) : ∀ i, kwrong ks i = false := fun i => by
  unfold kwrong
  cases e : ks[i]? with
  | none => rfl
  | some k =>
    have hi : i < ks.length := (List.getElem?_eq_some_iff.mp e).1
    have h2 := h.two k (List.mem_of_getElem? e)
    obtain ⟨c, d, e2, _, _⟩ := hts_two h2
    have nd := h.nd
    rw [early_split e, e2] at nd
    have := h.hi
    have hn : decide (i = 10) = false := decide_eq_false (by omega)
    simp only [h2, hn, e2, Bool.not_true, Bool.or_false, Bool.false_or]
    rw [List.nodup_append] at nd
    obtain ⟨_, n2, n3⟩ := nd
    have hcd : ¬ c = d := fun z => by
      subst z
      simp at n2
    have hc : ¬ c ∈ early (ks.take i) := fun m => n3 c m c (by simp) rfl
    have hd : ¬ d ∈ early (ks.take i) := fun m => n3 d m d (by simp) rfl
    rw [decide_eq_false hcd, decide_eq_false hc, decide_eq_false hd]
    rfl
theorem KG.none {ks : List Str} (h : KG ks) : fwk ks = none := by
  unfold fwk
  have : (List.range ks.length).find? (kwrong ks) = Option.none := by
    rw [List.find?_eq_none]
    intro j _ z
    rw [h.right j] at z
    cases z
  rw [this]
  have := h.lo
  simp only
  rw [if_neg (by omega)]
theorem early_len : ∀ (ks : List Str), (∀ k ∈ ks, hts k = true) -> (early ks).length = 2 * ks.length ∧ (ks.map (·.length)).sum = 2 * ks.length
  | [], _ => ⟨rfl, rfl⟩
  | k :: ks, h => by
    obtain ⟨h1, h2⟩ := early_len ks fun x m => h x (List.mem_cons_of_mem _ m)
    obtain ⟨c, d, e, _, l⟩ := hts_two (h k List.mem_cons_self)
    have e1 : early (k :: ks) = k.cps.toList ++ early ks := by unfold early; rw [List.flatMap_cons]
    refine ⟨?_, ?_⟩
    · rw [e1, e, List.length_append, h1]
      show 2 + 2 * ks.length = 2 * (ks.length + 1)
      omega
    · rw [List.map_cons, List.sum_cons, h2, l]
      show 2 + 2 * ks.length = 2 * (ks.length + 1)
      omega
theorem join_cps (ks : List Str) : (Txt.join "" ks).cps.toList = early ks := by
  have h : ∀ (l : List Str) (acc : Array Nat), (l.foldl (fun acc p => acc ++ ("" : Str).cps ++ p.cps) acc).toList = acc.toList ++ early l := fun l => by
    induction l with
    | nil => intro acc; simp [early]
    | cons k l ih =>
      intro acc
      rw [List.foldl_cons, ih]
      have e0 : ("" : Str).cps = #[] := by decide +kernel
      rw [e0]
      unfold early
      simp
  cases ks with
  | nil => decide +kernel
  | cons k l =>
    show (List.foldl _ _ _ : Array Nat).toList = _
    have := h l k.cps
    unfold early at this ⊢
    rw [List.flatMap_cons]
    exact this
theorem join_len (ks : List Str) : (Txt.join "" ks).length = (early ks).length := by
  rw [← join_cps]
  unfold Str.length
  simp
theorem k8_hts : ∀ k ∈ K8, hts k = true := by decide +kernel
theorem k8_apart : ∀ k ∈ K8, ∀ k' ∈ K8, k ≠ k' -> ∀ c ∈ k.cps.toList, c ∉ k'.cps.toList := by decide +kernel
theorem k8_one : ∀ k ∈ K8, k.cps.toList.Nodup := by decide +kernel
theorem early_nd : ∀ (ks : List Str), ks.Nodup -> (∀ k ∈ ks, k ∈ K8) -> (early ks).Nodup
  | [], _, _ => by simp [early]
  | k :: ks, h, s => by
    rw [List.nodup_cons] at h
    have e1 : early (k :: ks) = k.cps.toList ++ early ks := by unfold early; rw [List.flatMap_cons]
    rw [e1, List.nodup_append]
    refine ⟨k8_one k (s k List.mem_cons_self), early_nd ks h.2 fun x m => s x (List.mem_cons_of_mem _ m), fun a ha b hb e => ?_⟩
    subst e
    unfold early at hb
    obtain ⟨k', hk', hb⟩ := List.mem_flatMap.mp hb
    exact k8_apart k (s k List.mem_cons_self) k' (s k' (List.mem_cons_of_mem _ hk')) (fun z => h.1 (z ▸ hk')) a ha hb
theorem KeysOk.kg {n : Int} {ks : List Str} (h : KeysOk n ks) (hn : n ≤ 10) : KG ks :=
  ⟨fun k m => k8_hts k (h.sub k m), early_nd ks h.nd h.sub, h.lo, by have := h.hi; omega⟩
theorem KeysOk.rev {n : Int} {ks : List Str} (h : KeysOk n ks) : KeysOk n ks.reverse :=
  ⟨(List.reverse_perm ks).nodup_iff.mpr h.nd, fun k m => h.sub k (List.mem_reverse.mp m), by rw [List.length_reverse]; exact h.lo, by rw [List.length_reverse]; exact h.hi⟩
end Tf
/-! t[::-1] of lists and tuples -/
namespace Tf
open PySem PySem.Spec PyProof.Rows
section
variable {prog : Program} {w : World} {A : Around} {E : Value → Shared → Prop} {s : Shared}
theorem adjust_back (n : Nat) : Builtin.Slice.sliceAdjust none none (-1) (n : Int) = ((n : Int) - 1, -1) := by
  unfold Builtin.Slice.sliceAdjust
  simp
theorem places_back (n : Nat) : Builtin.Slice.slicePlaces ((n : Int) - 1) (-1) (-1) = n := by
  unfold Builtin.Slice.slicePlaces
  have h1 : ¬ ((-1 : Int) > 0) := by omega
  rw [if_neg h1]
  by_cases h : (n : Int) - 1 > -1
  · rw [if_pos h]
    have e : ((n : Int) - 1 - -1 - 1) / (- -1) = (n : Int) - 1 := by
      rw [show (- -1 : Int) = 1 by decide, Int.ediv_one]
      omega
    rw [e]
    omega
  · rw [if_neg h]
    omega
theorem applied_back {sl : Addr} {vl vu vs : Value} {n : Nat} {Q : Int × Int × Nat → Shared → Prop} (hs : s.heap.IsSliceOf sl vl vu vs) (pl : IsPart vl none) (pu : IsPart vu none) (ps : IsPart vs (some (-1)))
    (h : Q ((n : Int) - 1, -1, n) s) : wpAny (model prog w) A (Builtin.Slice.sliceApplied (.ref sl) (pure (n : Int))) Q E s := by
  obtain ⟨os, hos, hcs, hds⟩ := id hs
  unfold Builtin.Slice.sliceApplied Builtin.Slice.sliceFields
  refine wpAny_bind (wpAny_bind (wpAny_field hos hds (x := vl) rfl (wpAny_bind (wpAny_field hos hds (x := vu) rfl (wpAny_bind (wpAny_field hos hds (x := vs) rfl (wpAny_pure ?_)))))))
  refine wpAny_bind (HT.slicePart_ ps ?_)
  show wpAny _ _ (if ((-1 : Int) == 0) = true then _ else _) _ _ s
  rw [if_neg (by decide)]
  refine wpAny_bind (HT.slicePart_ pl (wpAny_bind (HT.slicePart_ pu (wpAny_bind (wpAny_pure ?_)))))
  show wpAny _ _ (match Builtin.Slice.sliceAdjust none none (-1) (n : Int) with | (lo, hi) => pure (lo, (-1 : Int), Builtin.Slice.slicePlaces lo hi (-1))) _ _ s
  rw [adjust_back n]
  show wpAny _ _ (pure ((n : Int) - 1, (-1 : Int), Builtin.Slice.slicePlaces ((n : Int) - 1) (-1) (-1))) _ _ s
  rw [places_back]
  exact wpAny_pure h
theorem fm_congr {α β : Type} {f g : α → Option β} : ∀ {l : List α}, (∀ a ∈ l, f a = g a) → l.filterMap f = l.filterMap g
  | [], _ => rfl
  | a :: l, h => by
    rw [List.filterMap_cons, List.filterMap_cons, h a List.mem_cons_self, fm_congr fun b m => h b (List.mem_cons_of_mem _ m)]
theorem pick_back (xs : Array Value) : ((List.range xs.size).filterMap fun (k : Nat) => xs[((xs.size : Int) - 1 + (k : Int) * -1).toNat]?).toArray = xs.toList.reverse.toArray := by
  have e : ∀ k ∈ List.range xs.size, xs[((xs.size : Int) - 1 + (k : Int) * -1).toNat]? = xs[xs.size - 1 - k]? := fun k hk => by
    have := List.mem_range.mp hk
    congr 1
    omega
  have e2 : (List.range xs.size).filterMap (fun (k : Nat) => xs[((xs.size : Int) - 1 + (k : Int) * -1).toNat]?) = ((List.range xs.size).map fun k => xs.size - 1 - k).filterMap (xs[·]?) := by
    rw [List.filterMap_map]
    exact fm_congr e
  rw [e2, PySem.W.krv_range, List.filterMap_reverse, PySem.W.krv_all]
theorem getItem_tuple_back {t sl : Addr} {items : Array Value} {vl vu vs : Value} {Q : Value → Shared → Prop} (ht : IsTup s.heap t items) (hs : s.heap.IsSliceOf sl vl vu vs) (pl : IsPart vl none) (pu : IsPart vu none) (ps : IsPart vs (some (-1)))
    (h : Q (.ref s.heap.objs.size) { s with heap := s.heap.push { cls := .type "tuple", data := .seq items.toList.reverse.toArray } }) (hsz : items.size ≤ sizeLine) : wpAny (model prog w) A (getItem (.ref t) (.ref sl)) Q E s := by
  have hfit : sizeOk (.seq items.toList.reverse.toArray) := by
    show items.toList.reverse.toArray.size ≤ sizeLine
    rw [List.size_toArray, List.length_reverse, Array.length_toList]
    exact hsz
  obtain ⟨os, hos, hcs, hds⟩ := id hs
  have hTs : s.TypeIs (.ref sl) "slice" := ⟨os, hos, hcs⟩
  unfold getItem
  try with_reducible refine wpAny_holding ?_
  first | refine wpAny_bind (wpAny_pure ?_) | skip
  refine wpAny_bind (wpAny_sequenceKey ht.typeIs (by decide) ?_)
  refine wpAny_bind (wpAny_callSpecial?_slot (name := Str.ofString "__getitem__") ht.typeIs PyProof.Rows.slot_tuple_getitem (wpAny_call_entry PyProof.Rows.slot_tuple_getitem ht.typeIs entry_tuple_getitem ?_ (args_tuple_getitem _ _)))
  show wpAny _ _ (Builtin.Tuple.tupleItemsOf (.ref t) >>= _) _ _ s
  refine wpAny_bind (tupleItemsOf_ ht ?_)
  refine wpAny_bind (wpAny_typeOf hTs ?_)
  rw [if_pos (by decide)]
  refine wpAny_bind (applied_back hs pl pu ps ?_)
  have hno : ¬ (((((items.size : Int) - 1) == 0) && ((-1 : Int) == 1) && (items.size == items.size)) = true) := by
    intro q
    rw [Bool.and_eq_true, Bool.and_eq_true] at q
    exact absurd q.1.2 (by decide)
  show wpAny _ _ (if ((((items.size : Int) - 1) == 0) && ((-1 : Int) == 1) && (items.size == items.size)) = true then _ else _) _ _ s
  rw [if_neg hno, pick_back]
  first
    | exact wpAny_bind (m := Builtin.Tuple.tupleExact _) (wpAny_newObj_type (wpAny_pure ⟨_, rfl, wpAny_pure h⟩) hfit)
    | exact wpAny_bind (m := Builtin.Tuple.tupleExact _) (wpAny_newObj_type (wpAny_bind (wpAny_pure (wpAny_pure ⟨_, rfl, wpAny_pure h⟩))) hfit)
    | exact wpAny_bind (wpAny_bind (m := Builtin.Tuple.tupleExact _) (wpAny_newObj_type (wpAny_pure (wpAny_pure ⟨_, rfl, wpAny_pure h⟩)) hfit))
    | exact wpAny_bind (wpAny_bind (m := Builtin.Tuple.tupleExact _) (wpAny_newObj_type (wpAny_pure ⟨_, rfl, wpAny_pure h⟩) hfit))
end
open L2
section
variable {X : Cx}
def tRevT (K : PySem.W.Frag) (te : TE) : TE := fun σ H Q => te σ H fun x H1 => ∃ a xs, x = .ref a ∧ SqT K H1 a xs ∧ ∀ p, H1 p = none → Q (.ref p) (upd H1 p (.tup xs.reverse))
theorem pe_revT {e : Expr} {te : TE} {k : Nat} {p1 p2 p3 pos : Pos} (he : PE X e te) : PE X (.Subscript e (.Slice none none (some (.UnaryOp .USub (.Constant (.int 1) k p1) p2)) p3) pos) (tRevT X.K te) := by
  refine ⟨fun pins s σ H Q I h => ?_⟩
  refine Subscript_ (thn (he.run pins s σ H _ I h) fun v s1 ⟨x, H1, I1, r1, q1⟩ => ?_)
  obtain ⟨a, xs, ex, hx, q⟩ := q1
  subst ex
  cases r1
  have hst : PO X (some (.UnaryOp .USub (.Constant (.int 1) k p1) p2)) (tPart (tUn (rU fun i => .int (-i)) (tC (.int 1)))) := po_some (pe_un un_neg pe_int)
  refine wpAny_Slice (thn (po_none.run pins s1 σ H1 (fun o H2 => o = none ∧ H2 = H1) I1 ⟨rfl, rfl⟩) fun vl s2 ⟨l, H2, I2, pl, el, e2⟩ => ?_)
  subst el e2
  refine thn (po_none.run pins s2 σ H2 (fun o H3 => o = none ∧ H3 = H2) I2 ⟨rfl, rfl⟩) fun vu s3 ⟨u, H3, I3, pu, eu, e3⟩ => ?_
  subst eu e3
  refine thn (hst.run pins s3 σ H3 (fun o H4 => o = some (-1) ∧ H4 = H3) I3 ⟨1, rfl, -1, rfl, rfl, rfl⟩) fun vs s4 ⟨o, H4, I4, ps, eo, e4⟩ => ?_
  subst eo e4
  have I5 : L2.Inv X pins σ H4 { s4 with heap := s4.heap.push { cls := .type "slice", data := .fields #[vl, vu, vs] } } := I4.kept (t' := s4.toks) fun b ob q => Heap.get?_push_of_some _ q
  obtain ⟨its, r, ht, hz⟩ := I5.tuple hx
  have hlen := r.length
  show wpAny (model X.prog X.w) X.A (subscriptTail e (.Slice none none (some (.UnaryOp .USub (.Constant (.int 1) k p1) p2)) p3) (.ref a) (.ref s4.heap.objs.size)) (EP X pins σ Q) X.xe { s4 with heap := s4.heap.push { cls := .type "slice", data := .fields #[vl, vu, vs] } }
  refine tail_any (ops := [.ref a, .ref s4.heap.objs.size]) ht.typeIs (PyProof.Rows.slot_tuple_getitem.lookup) ?_ (by with_unfolding_all rfl)
  refine getItem_tuple_back ht (Heap.IsSliceOf.new _ vl vu vs) pl pu ps ?_ (by rw [List.size_toArray]; omega)
  refine ⟨.ref _, _, I5.laid (t' := s4.toks) (o := .tup xs.reverse) (fun b ob q => Heap.get?_push_of_some _ q) (Nat.le_refl _) ?_, rfl, q _ (I5.hok.fresh (Nat.le_refl _))⟩
  exact ⟨by rw [List.length_reverse]; exact hz, _, r.reverse, IsTup.new _ _⟩
end
section
variable {K : Fr} {R : Rg} {Γ : Sl} {w : Wd} {te : TE}
theorem dpAll_rev {G : Hp} : ∀ {vs : List V} {ds : List PyData}, DpAll K G vs ds → DpAll K G vs.reverse ds.reverse
  | _, _, .nil => .nil
  | _, _, .cons h t => by
    rw [List.reverse_cons, List.reverse_cons]
    exact dpAll_app K (dpAll_rev t) (.cons h .nil)
theorem ev_revL {ds : List PyData} (h : Ev R Γ w te (dat K (.list ds))) : Ev R Γ w (tRevL K te) (dat K (.list ds.reverse)) := fun σ w1 e a Q k =>
  h σ w1 e a _ fun x w2 s2 hx => by
    cases hx with
    | @lst ad vs _ hs ha =>
      refine ⟨ad, vs, rfl, sqL_mono K s2.ok.sub hs, fun p hp => ?_⟩
      have st := Stp.new (o := .lst vs.reverse) s2.ok hp
      exact k _ _ (s2.trans st) (.lst (SqL.of upd_same) (dpAll_mono K st.sg _ _ (dpAll_rev ha)))
theorem ev_revT {ds : List PyData} (h : Ev R Γ w te (dat K (.tuple ds))) : Ev R Γ w (tRevT K te) (dat K (.tuple ds.reverse)) := fun σ w1 e a Q k =>
  h σ w1 e a _ fun x w2 s2 hx => by
    cases hx with
    | @tup ad vs _ hs ha =>
      refine ⟨ad, vs, rfl, sqT_mono K s2.ok.sub hs, fun p hp => ?_⟩
      have st := Stp.new (o := .tup vs.reverse) s2.ok hp
      exact k _ _ (s2.trans st) (.tup (SqT.of upd_same) (dpAll_mono K st.sg _ _ (dpAll_rev ha)))
end
end Tf
/-! isinstance of an own class; texts that can be laid -/
namespace Tf
open PySem L2 PyProof.Rows
/-- isinstance is answered for the instances of the class at C -/
structure TyC (K : Fr) (C : Addr) : Prop where
  ha : PySem.W.findIn K (.ref C) "__class__" = some (some (.builtin "object.__class__"))
  hn : PySem.W.specialIn K (.builtin "object.__class__") "__get__" = some (some (.builtin "getset_descriptor.__get__"))
  htk : PySem.W.takesIn K (.builtin "object.__class__") = some true
  hm : PySem.W.mroIn K C (.type "object") = some true
/-- an instance of the class at C -/
def InsOf (C : Addr) (v : V) (G : Hp) : Prop := ∃ x dx fs, v = .ref x ∧ G x = some (.ins C dx fs)
def clsP (C : Addr) : Pd := ⟨fun v _ => v = .ref C, fun _ _ _ _ h => h⟩
section
variable {K : Fr} {R : Rg} {w : Wd}
theorem rc_isiC {C : Addr} {p : Pd} (t : TyC K C) (c : Cls K C) (hp : ∀ v G, p.P v G → InsOf C v G) : RC R w (rIsi K) [p, clsP C] (dat K (.bool true)) := fun xs w1 a hx Q k => by
  cases hx with
  | cons h1 tl =>
    cases tl with
    | cons h2 tl =>
      cases tl
      obtain rfl := h2
      obtain ⟨x, dx, fs, rfl, hx⟩ := hp _ _ h1
      refine ⟨_, _, .ref C, .ref C, true, rfl, .own C, .base (.ins (a.ok.sub _ _ hx) c t.ha t.hn t.htk t.hm), ?_, k _ w1 (Stp.refl a.ok) (.bl _)⟩
      unfold PySem.W.kitOne
      rw [if_pos (by simp)]
end
/-! ### texts of keys -/
theorem sg_low : ∀ c ∈ SG.cps.toList, c < 0x110000 := by decide +kernel
theorem key_lay0 {k : Str} (h : hts k = true) : (PyData.str k).canLay0 = true := by
  obtain ⟨c, d, e, rfl, _⟩ := hts_two h
  unfold hts at h
  rw [e] at h
  obtain ⟨h1, h2⟩ := Bool.and_eq_true_iff.mp h
  have a1 := sg_low c (of_decide_eq_true h1)
  have a2 := sg_low d (of_decide_eq_true h2)
  show ((#[c, d] : Array Nat).all fun x => decide (x < 0x110000)) = true
  simp [a1, a2]
theorem tS_lay {ks : List Str} (h : ∀ k ∈ ks, hts k = true) : (tS ks).canLay0 = true ∧ (tS ks).depth ≤ 1 := by
  have h1 : ∀ l : List Str, (∀ k ∈ l, hts k = true) → PyData.canLayAll0 (l.map .str) = true ∧ PyData.depthAll (l.map .str) = 0 := fun l => by
    induction l with
    | nil => intro _; exact ⟨rfl, rfl⟩
    | cons d l ih =>
      intro q
      obtain ⟨a, b⟩ := ih fun d m => q d (List.mem_cons_of_mem _ m)
      refine ⟨?_, ?_⟩
      · show ((PyData.str d).canLay0 && PyData.canLayAll0 (l.map .str)) = true
        rw [key_lay0 (q d List.mem_cons_self), a]
        rfl
      · show max (PyData.depth (.str d)) (PyData.depthAll (l.map .str)) = 0
        rw [b]
        rfl
  obtain ⟨a, b⟩ := h1 ks h
  refine ⟨a, ?_⟩
  have e : (tS ks).depth = PyData.depthAll (ks.map .str) + 1 := by
    unfold tS
    simp only [PyData.depth]
  omega
theorem tS_shaped {ks : List Str} (h : ∀ k ∈ ks, hts k = true) : SeqAt.shaped (tS ks) = true := by
  obtain ⟨a, b⟩ := tS_lay h
  show ((tS ks).canLay0 && decide ((tS ks).depth ≤ 64)) = true
  rw [a, Bool.true_and]
  exact decide_eq_true (by omega)
theorem eqv_tS : ∀ ks js : List Str, PyData.eqv (tS ks) (tS js) = decide (ks = js) := by
  have h : ∀ ks js : List Str, PyData.eqvAll (ks.map .str) (js.map .str) = decide (ks = js) := fun ks => by
    induction ks with
    | nil =>
      intro js
      cases js with
      | nil => simp [PyData.eqvAll]
      | cons j js => simp [PyData.eqvAll]
    | cons k ks ih =>
      intro js
      cases js with
      | nil => simp [PyData.eqvAll]
      | cons j js =>
        show (PyData.eqv (.str k) (.str j) && PyData.eqvAll (ks.map .str) (js.map .str)) = _
        rw [ih js]
        have e : PyData.eqv (.str k) (.str j) = decide (k = j) := by
          simp only [PyData.eqv]
          rw [Bool.eq_iff_iff, beq_iff_eq, decide_eq_true_iff]
        rw [e]
        simp
  intro ks js
  show PyData.eqvAll (ks.map .str) (js.map .str) = _
  exact h ks js
end Tf
/-! faults as data -/
namespace Tf
open PySem L2
inductive Ft where
  | back | space | down | up
  | dead (k : PyData) | double (k : PyData) | stuck (k : PyData) | slip (c : PyData) | feed (n : PyData)
  | swap (i j : PyData)
def Ft.word : Ft -> Str
  | .back => "back"
  | .space => "space"
  | .down => "down"
  | .up => "up"
  | .dead _ => "dead"
  | .double _ => "double"
  | .stuck _ => "stuck"
  | .slip _ => "slip"
  | .feed _ => "feed"
  | .swap _ _ => "swap"
def Ft.nums : Ft -> List PyData
  | .dead k => [k]
  | .double k => [k]
  | .stuck k => [k]
  | .slip k => [k]
  | .feed k => [k]
  | .swap i j => [i, j]
  | _ => []
def Ft.enc (f : Ft) : PyData := .tuple (.str f.word :: f.nums)
/-- a number: an int or a bool -/
def isN : PyData -> Bool
  | .int _ => true
  | .bool _ => true
  | _ => false
def Ft.ok (f : Ft) : Prop := ∀ d ∈ f.nums, isN d = true
def num (d : PyData) (lo hi : Int) : Bool := match d with
  | .int n => decide (lo ≤ n) && decide (n ≤ hi)
  | _ => false
def toI : PyData -> Int
  | .int n => n
  | _ => 0
/-- in range: nk keys, a width -/
def Ft.inR (nk width : Int) : Ft -> Bool
  | .dead k => num k 0 (nk - 1)
  | .double k => num k 0 (nk - 1)
  | .stuck k => num k 0 (nk - 1)
  | .swap i j => num j 0 (nk - 1) && num i 0 (toI j - 1)
  | .slip c => num c 1 (width - 2)
  | .feed n => num n 0 2 && !decide (toI n = 1)
  | _ => true
/-- what it claims for itself -/
def Ft.cl : Ft -> List PyData
  | .dead k => [.tuple [.str "key", k]]
  | .double k => [.tuple [.str "key", k]]
  | .stuck k => [.tuple [.str "key", k]]
  | .swap i j => [.tuple [.str "key", i], .tuple [.str "key", j]]
  | .down => [.tuple [.str "lock"]]
  | .up => [.tuple [.str "lock"]]
  | .feed _ => [.tuple [.str "feed"]]
  | f => [f.enc]
def clash (f g : Ft) : Bool := g.cl.any fun c => f.cl.any fun z => PyData.eqv z c
/-- the first wrong one -/
def wrongAt (nk width : Int) (fs : List Ft) (i : Nat) : Bool := match fs[i]? with
  | some f => !f.inR nk width || (fs.take i).any fun g => clash f g
  | none => false
def firstW (nk width : Int) (fs : List Ft) : Option Nat := (List.range fs.length).find? fun i => wrongAt nk width fs i
def encs (fs : List Ft) : List PyData := fs.map Ft.enc
theorem encs_len (fs : List Ft) : (encs fs).length = fs.length := by unfold encs; rw [List.length_map]
theorem shaped_n {d : PyData} (h : isN d = true) : d.canLay0 = true ∧ d.depth = 0 := by
  cases d <;> first | exact ⟨rfl, rfl⟩ | (simp [isN] at h; done)
end Tf
/-! faults in order -/
namespace Tf
open PySem L2
open PySem.W (AllAlike Sortable dataLe alike alikeAll)
def isI1 : PyData -> Bool
  | .int _ => true
  | _ => false
/-- its numbers are ints -/
def Ft.whole (f : Ft) : Prop := ∀ d ∈ f.nums, isI1 d = true
theorem num_int {d : PyData} {lo hi : Int} (h : num d lo hi = true) : isI1 d = true := by
  cases d <;> first | rfl | (simp [num] at h; done)
theorem whole_of {f : Ft} {nk wd : Int} (h : f.inR nk wd = true) : f.whole := by
  cases f with
  | swap i j =>
    obtain ⟨h1, h2⟩ := Bool.and_eq_true_iff.mp h
    intro d m
    rcases List.mem_cons.mp m with rfl | m
    · exact num_int h2
    · rw [List.mem_singleton.mp m]
      exact num_int h1
  | feed n =>
    obtain ⟨h1, h2⟩ := Bool.and_eq_true_iff.mp h
    intro d m
    rw [List.mem_singleton.mp m]
    exact num_int h1
  | dead n => intro d m; rw [List.mem_singleton.mp m]; exact num_int h
  | double n => intro d m; rw [List.mem_singleton.mp m]; exact num_int h
  | stuck n => intro d m; rw [List.mem_singleton.mp m]; exact num_int h
  | slip n => intro d m; rw [List.mem_singleton.mp m]; exact num_int h
  | back => intro d m; cases m
  | space => intro d m; cases m
  | down => intro d m; cases m
  | up => intro d m; cases m
theorem whole_ok {f : Ft} (h : f.whole) : f.ok := fun d m => by
  have := h d m
  cases d <;> first | rfl | (simp [isI1] at this; done)
def keyD (k : PyData) : PyData := .tuple [.str "key", k]
theorem shaped_tup {ds : List PyData} (h : ∀ d ∈ ds, d.canLay0 = true ∧ d.depth ≤ 1) : SeqAt.shaped (.tuple ds) = true := by
  have h1 : ∀ l : List PyData, (∀ d ∈ l, d.canLay0 = true ∧ d.depth ≤ 1) -> PyData.canLayAll0 l = true ∧ PyData.depthAll l ≤ 1 := fun l => by
    induction l with
    | nil => intro _; exact ⟨rfl, Nat.zero_le _⟩
    | cons d l ih =>
      intro q
      obtain ⟨a, b⟩ := ih fun d m => q d (List.mem_cons_of_mem _ m)
      obtain ⟨c, e⟩ := q d List.mem_cons_self
      refine ⟨by simp only [PyData.canLayAll0, c, a, Bool.and_self], ?_⟩
      simp only [PyData.depthAll]
      omega
  obtain ⟨a, b⟩ := h1 ds h
  show (PyData.canLay0 (.tuple ds) && decide (PyData.depth (.tuple ds) ≤ 64)) = true
  simp only [PyData.canLay0, PyData.depth, a, Bool.true_and]
  exact decide_eq_true (by omega)
theorem shaped_list {ds : List PyData} (h : ∀ d ∈ ds, d.canLay0 = true ∧ d.depth ≤ 2) : SeqAt.shaped (.list ds) = true := by
  have h1 : ∀ l : List PyData, (∀ d ∈ l, d.canLay0 = true ∧ d.depth ≤ 2) -> PyData.canLayAll0 l = true ∧ PyData.depthAll l ≤ 2 := fun l => by
    induction l with
    | nil => intro _; exact ⟨rfl, Nat.zero_le _⟩
    | cons d l ih =>
      intro q
      obtain ⟨a, b⟩ := ih fun d m => q d (List.mem_cons_of_mem _ m)
      obtain ⟨c, e⟩ := q d List.mem_cons_self
      refine ⟨by simp only [PyData.canLayAll0, c, a, Bool.and_self], ?_⟩
      simp only [PyData.depthAll]
      omega
  obtain ⟨a, b⟩ := h1 ds h
  show (PyData.canLay0 (.list ds) && decide (PyData.depth (.list ds) ≤ 64)) = true
  simp only [PyData.canLay0, PyData.depth, a, Bool.true_and]
  exact decide_eq_true (by omega)
theorem canLay_tup {ds : List PyData} (h : ∀ d ∈ ds, d.canLay0 = true ∧ d.depth = 0) : (PyData.tuple ds).canLay0 = true ∧ (PyData.tuple ds).depth = 1 := by
  have h1 : ∀ l : List PyData, (∀ d ∈ l, d.canLay0 = true ∧ d.depth = 0) -> PyData.canLayAll0 l = true ∧ PyData.depthAll l = 0 := fun l => by
    induction l with
    | nil => intro _; exact ⟨rfl, rfl⟩
    | cons d l ih =>
      intro q
      obtain ⟨a, b⟩ := ih fun d m => q d (List.mem_cons_of_mem _ m)
      obtain ⟨c, e⟩ := q d List.mem_cons_self
      refine ⟨by simp only [PyData.canLayAll0, c, a, Bool.and_self], ?_⟩
      simp only [PyData.depthAll]
      omega
  obtain ⟨a, b⟩ := h1 ds h
  refine ⟨by simp only [PyData.canLay0, a], ?_⟩
  simp only [PyData.depth, b]
theorem word_lay (f : Ft) : (PyData.str f.word).canLay0 = true := by cases f <;> simp only [Ft.word] <;> decide +kernel
theorem enc_lay {f : Ft} (h : f.ok) : f.enc.canLay0 = true ∧ f.enc.depth = 1 := canLay_tup fun d m => by
  rcases List.mem_cons.mp m with rfl | m
  · exact ⟨word_lay f, rfl⟩
  · exact shaped_n (h d m)
theorem key_lay {k : PyData} (h : isN k = true) : (keyD k).canLay0 = true ∧ (keyD k).depth = 1 := canLay_tup fun d m => by
  rcases List.mem_cons.mp m with rfl | m
  · exact ⟨by decide +kernel, rfl⟩
  · rw [List.mem_singleton.mp m]
    exact shaped_n h
theorem cl_lay {f : Ft} (h : f.ok) : ∀ c ∈ f.cl, c.canLay0 = true ∧ c.depth = 1 := by
  intro c m
  cases f with
  | back => rw [List.mem_singleton.mp m]; exact enc_lay h
  | space => rw [List.mem_singleton.mp m]; exact enc_lay h
  | slip x => rw [List.mem_singleton.mp m]; exact enc_lay h
  | down => rw [List.mem_singleton.mp m]; decide +kernel
  | up => rw [List.mem_singleton.mp m]; decide +kernel
  | feed x => rw [List.mem_singleton.mp m]; decide +kernel
  | dead x => rw [List.mem_singleton.mp m]; exact key_lay (h x List.mem_cons_self)
  | double x => rw [List.mem_singleton.mp m]; exact key_lay (h x List.mem_cons_self)
  | stuck x => rw [List.mem_singleton.mp m]; exact key_lay (h x List.mem_cons_self)
  | swap i j =>
    rcases List.mem_cons.mp m with rfl | m
    · exact key_lay (h i List.mem_cons_self)
    · rw [List.mem_singleton.mp m]
      exact key_lay (h j (List.mem_cons_of_mem _ List.mem_cons_self))
theorem shaped_of {d : PyData} (h : d.canLay0 = true ∧ d.depth = 1) : SeqAt.shaped d = true := by
  show (d.canLay0 && decide (d.depth ≤ 64)) = true
  rw [h.1, Bool.true_and]
  exact decide_eq_true (by omega)
theorem cl_len (f : Ft) : f.cl.length ≤ 2 := by cases f <;> simp [Ft.cl]
theorem alike_nums : ∀ xs ys : List PyData, (∀ d ∈ xs, isI1 d = true) -> (∀ d ∈ ys, isI1 d = true) -> alikeAll xs ys = true
  | [], _, _, _ => by simp [alikeAll]
  | _ :: _, [], _, _ => by simp [alikeAll]
  | x :: xs, y :: ys, h, h' => by
    rw [alikeAll, alike_nums xs ys (fun d m => h d (List.mem_cons_of_mem _ m)) fun d m => h' d (List.mem_cons_of_mem _ m), Bool.and_true]
    have h1 := h x List.mem_cons_self
    have h2 := h' y List.mem_cons_self
    cases x <;> first | (simp [isI1] at h1; done) | skip
    cases y <;> first | (simp [isI1] at h2; done) | skip
    simp [alike]
theorem encs_mem {fs : List Ft} {d : PyData} (h : d ∈ encs fs) : ∃ f, f ∈ fs ∧ d = f.enc := by
  obtain ⟨f, m, rfl⟩ := List.mem_map.mp h
  exact ⟨f, m, rfl⟩
theorem encs_sort {fs : List Ft} (h : ∀ f ∈ fs, f.whole) : AllAlike (encs fs) ∧ Sortable (encs fs) ∧ ∀ d ∈ encs fs, d.depth ≤ 100 := by
  refine ⟨fun d hd d' hd' => ?_, .inl fun d hd => ?_, fun d hd => ?_⟩
  · obtain ⟨f, m, rfl⟩ := encs_mem hd
    obtain ⟨g, m', rfl⟩ := encs_mem hd'
    show alike (.tuple (.str f.word :: f.nums)) (.tuple (.str g.word :: g.nums)) = true
    rw [alike, alikeAll, alike_nums _ _ (h f m) (h g m')]
    simp [alike]
  · obtain ⟨f, m, rfl⟩ := encs_mem hd
    exact ⟨_, _, rfl⟩
  · obtain ⟨f, m, rfl⟩ := encs_mem hd
    have h1 : ∀ l : List PyData, (∀ d ∈ l, d.depth = 0) -> PyData.depthAll l = 0 := fun l => by
      induction l with
      | nil => intro _; rfl
      | cons d l ih =>
        intro q
        have a := ih fun d m => q d (List.mem_cons_of_mem _ m)
        have b := q d List.mem_cons_self
        simp only [PyData.depthAll]
        omega
    have : PyData.depthAll (.str f.word :: f.nums) = 0 := h1 _ fun d hd => by
      rcases List.mem_cons.mp hd with rfl | hd
      · rfl
      · exact (shaped_n (whole_ok (h f m) d hd)).2
    show PyData.depth (.tuple (.str f.word :: f.nums)) ≤ 100
    simp only [PyData.depth, this]
    omega
/-- in order -/
def sf (fs : List Ft) : List Ft := fs.mergeSort fun f g => dataLe false id f.enc g.enc
theorem sf_perm (fs : List Ft) : (sf fs).Perm fs := List.mergeSort_perm fs _
theorem sf_mem {fs : List Ft} {f : Ft} : f ∈ sf fs ↔ f ∈ fs := (sf_perm fs).mem_iff
theorem sf_len (fs : List Ft) : (sf fs).length = fs.length := (sf_perm fs).length_eq
theorem srt_encs (fs : List Ft) : srt (encs fs) = encs (sf fs) := by
  unfold srt encs sf
  rw [List.map_mergeSort (s := dataLe false id)]
  intro a _ b _
  rfl
end Tf
/-! faults that don't clash, in any order -/
namespace Tf
open PySem L2 PyProof.Rows
open PySem.W (AllAlike Sortable dataLe alike alikeAll eqv_comm keyToks keyToksAll sortLe sort_one sort_pairwise sort_stable sortLe_total sameRank)
theorem any_swap {α β : Type} (p : α → β → Bool) : ∀ (xs : List α) (ys : List β), (xs.any fun x => ys.any fun y => p x y) = ys.any fun y => xs.any fun x => p x y := fun xs ys => by
  rw [Bool.eq_iff_iff, List.any_eq_true, List.any_eq_true]
  constructor
  · rintro ⟨x, hx, h⟩
    obtain ⟨y, hy, h⟩ := List.any_eq_true.mp h
    exact ⟨y, hy, List.any_eq_true.mpr ⟨x, hx, h⟩⟩
  · rintro ⟨y, hy, h⟩
    obtain ⟨x, hx, h⟩ := List.any_eq_true.mp h
    exact ⟨x, hx, List.any_eq_true.mpr ⟨y, hy, h⟩⟩
theorem clash_comm (f g : Ft) : clash f g = clash g f := by
  unfold clash
  rw [any_swap]
  congr 1
  funext z
  congr 1
  funext c
  exact eqv_comm z c
theorem cl_ne (f : Ft) : f.cl ≠ [] := by cases f <;> exact List.cons_ne_nil _ _
/-- their words differ or are the same -/
theorem word_inj {f g : Ft} (h : f.word = g.word) (hn : f.nums = g.nums) : f = g := by
  cases f <;> cases g <;> first
    | rfl
    | (simp only [Ft.nums, List.cons.injEq, and_true] at hn; first | (subst hn; rfl) | (obtain ⟨rfl, rfl⟩ := hn; rfl) | (exfalso; revert h; simp only [Ft.word]; decide +kernel))
    | (exfalso; revert h; simp only [Ft.word]; decide +kernel)
theorem toksAll_ints : ∀ {xs ys : List PyData}, (∀ d ∈ xs, isI1 d = true) → (∀ d ∈ ys, isI1 d = true) → keyToksAll xs = keyToksAll ys → xs = ys
  | [], [], _, _, _ => rfl
  | [], y :: ys, _, _, h => by simp [keyToksAll] at h
  | x :: xs, [], _, _, h => by simp [keyToksAll] at h
  | x :: xs, y :: ys, hx, hy, h => by
    have h1 := hx x List.mem_cons_self
    have h2 := hy y List.mem_cons_self
    cases x <;> first | (simp [isI1] at h1; done) | skip
    cases y <;> first | (simp [isI1] at h2; done) | skip
    simp only [keyToksAll, keyToks, List.cons_append, List.nil_append, List.cons.injEq, Sum.inl.injEq, true_and] at h
    obtain ⟨rfl, h⟩ := h
    rw [toksAll_ints (fun d m => hx d (List.mem_cons_of_mem _ m)) (fun d m => hy d (List.mem_cons_of_mem _ m)) h]
theorem toks_inj {f g : Ft} (hf : f.whole) (hg : g.whole) (h : keyToks f.enc = keyToks g.enc) : f = g := by
  unfold Ft.enc at h
  simp only [keyToks, keyToksAll, List.cons_append, List.nil_append, List.cons.injEq, Sum.inr.injEq, true_and] at h
  obtain ⟨h1, h2⟩ := h
  exact word_inj (PySem.W.str_of_cps h1) (toksAll_ints hf hg h2)
theorem alike_enc {f g : Ft} (hf : f.whole) (hg : g.whole) : alike f.enc g.enc = true := by
  show alike (.tuple (.str f.word :: f.nums)) (.tuple (.str g.word :: g.nums)) = true
  rw [alike, alikeAll, alike_nums _ _ hf hg]
  simp [alike]
theorem eqv_enc {f g : Ft} (hf : f.whole) (hg : g.whole) : PyData.eqv f.enc g.enc = true ↔ f = g := by
  constructor
  · intro h
    exact toks_inj hf hg ((PySem.W.toks_eqv _ _ (alike_enc hf hg)).1 h)
  · rintro rfl
    exact SeqAt.eqv_refl _ (enc_lay (whole_ok hf)).1
theorem one_perm {α : Type} {l m : List α} (h : l.Perm m) (e : ∀ a ∈ l, ∀ b ∈ l, a = b) : l = m := by
  cases l with
  | nil => exact (List.nil_perm.mp h).symm ▸ rfl
  | cons a l =>
    have h1 : a :: l = List.replicate (a :: l).length a := List.eq_replicate_iff.mpr ⟨rfl, fun b hb => e b hb a List.mem_cons_self⟩
    have h2 : m = List.replicate (a :: l).length a := List.eq_replicate_iff.mpr ⟨h.length_eq.symm, fun b hb => e b (h.mem_iff.mpr hb) a List.mem_cons_self⟩
    rw [h2]
    exact h1
theorem rank_one {c f g : Ft} (hf : f.whole) (hg : g.whole) (h1 : sameRank (sortLe (listOrd itemOrd) false fun f : Ft => keyToks f.enc) c f = true) (h2 : sameRank (sortLe (listOrd itemOrd) false fun f : Ft => keyToks f.enc) c g = true) : f = g := by
  have q : ∀ {f : Ft}, sameRank (sortLe (listOrd itemOrd) false fun f : Ft => keyToks f.enc) c f = true → keyToks c.enc = keyToks f.enc := fun {f} h => by
    obtain ⟨a1, a2⟩ := Bool.and_eq_true_iff.mp h
    have b1 : (listOrd itemOrd).blt (keyToks f.enc) (keyToks c.enc) = false := by simpa [sortLe] using a1
    have b2 : (listOrd itemOrd).blt (keyToks c.enc) (keyToks f.enc) = false := by simpa [sortLe] using a2
    by_cases e : keyToks c.enc = keyToks f.enc
    · exact e
    · have := (listOrd itemOrd).total (keyToks c.enc) (keyToks f.enc)
      simp_all
  exact toks_inj hf hg ((q h1).symm.trans (q h2))
theorem sf_of_perm {fs gs : List Ft} (h : fs.Perm gs) (hw : ∀ f ∈ fs, f.whole) : sf fs = sf gs := by
  have tot := sortLe_total (listOrd itemOrd) false fun f : Ft => keyToks f.enc
  refine sort_one tot (sf fs) (sf gs) (sort_pairwise tot fs) (sort_pairwise tot gs) fun c => ?_
  have e1 : (sf fs).filter (sameRank (sortLe (listOrd itemOrd) false fun f : Ft => keyToks f.enc) c) = fs.filter (sameRank (sortLe (listOrd itemOrd) false fun f : Ft => keyToks f.enc) c) := sort_stable tot fs c
  have e2 : (sf gs).filter (sameRank (sortLe (listOrd itemOrd) false fun f : Ft => keyToks f.enc) c) = gs.filter (sameRank (sortLe (listOrd itemOrd) false fun f : Ft => keyToks f.enc) c) := sort_stable tot gs c
  rw [e1, e2]
  refine one_perm (h.filter _) fun a ha b hb => ?_
  obtain ⟨ma, ra⟩ := List.mem_filter.mp ha
  obtain ⟨mb, rb⟩ := List.mem_filter.mp hb
  exact rank_one (hw a ma) (hw b mb) ra rb
/-- faults of a machine -/
structure Gd (nk wd : Int) (fs : List Ft) : Prop where
  inr : ∀ f ∈ fs, f.inR nk wd = true
  pw : fs.Pairwise fun f g => clash f g = false
theorem Gd.wh {nk wd : Int} {fs : List Ft} (h : Gd nk wd fs) : ∀ f ∈ fs, f.whole := fun f m => whole_of (h.inr f m)
theorem Gd.perm {nk wd : Int} {fs gs : List Ft} (h : Gd nk wd fs) (p : fs.Perm gs) : Gd nk wd gs :=
  ⟨fun f m => h.inr f (p.mem_iff.mpr m), (p.pairwise_iff fun {a b} q => by rw [clash_comm]; exact q).mp h.pw⟩
theorem Gd.sub {nk wd : Int} {fs gs : List Ft} (h : Gd nk wd fs) (p : gs.Sublist fs) : Gd nk wd gs := ⟨fun f m => h.inr f (p.subset m), h.pw.sublist p⟩
theorem Gd.nil {nk wd : Int} : Gd nk wd [] := ⟨fun f m => by simp at m, List.Pairwise.nil⟩
theorem Gd.first {nk wd : Int} {fs : List Ft} (h : Gd nk wd fs) : firstW nk wd fs = none := by
  unfold firstW
  rw [List.find?_eq_none]
  intro i hi z
  have hl := List.mem_range.mp hi
  unfold wrongAt at z
  rw [List.getElem?_eq_getElem hl] at z
  simp only [h.inr _ (List.getElem_mem hl), Bool.not_true, Bool.false_or] at z
  obtain ⟨g, mg, hc⟩ := List.any_eq_true.mp z
  obtain ⟨j, hj, rfl⟩ := List.getElem_of_mem mg
  rw [List.length_take] at hj
  rw [List.getElem_take] at hc
  have := List.pairwise_iff_getElem.mp h.pw j i (by omega) hl (by omega)
  rw [clash_comm, this] at hc
  cases hc
theorem clash_self {f : Ft} (h : f.ok) (hl : ∀ c ∈ f.cl, c.canLay0 = true) : clash f f = true := by
  unfold clash
  cases e : f.cl with
  | nil => exact absurd e (cl_ne f)
  | cons c r =>
    rw [List.any_cons, List.any_cons, SeqAt.eqv_refl c (hl c (by rw [e]; exact List.mem_cons_self))]
    rfl
theorem mono1 {f : Ft} {nk wd : Int} (h : f.inR nk wd = true) : f.inR nk (wd + 1) = true := by
  cases f <;> first | exact h | skip
  rename_i c
  cases c <;> first | (exact h) | skip
  rename_i n
  have h' : (decide (1 ≤ n) && decide (n ≤ wd - 2)) = true := h
  show (decide (1 ≤ n) && decide (n ≤ wd + 1 - 2)) = true
  obtain ⟨h1, h2⟩ := Bool.and_eq_true_iff.mp h'
  have := of_decide_eq_true h1
  have := of_decide_eq_true h2
  rw [decide_eq_true (by omega), decide_eq_true (by omega)]
  rfl
theorem Gd.wide {nk wd : Int} {fs : List Ft} (h : Gd nk wd fs) : Gd nk (wd + 1) fs := ⟨fun f m => mono1 (h.inr f m), h.pw⟩
end Tf
/-! the law's own word on clashes -/
namespace Tf
open PySem L2
open PySem.W (eqv_comm)
def oneOf (ws : List PyData) (f : Ft) : Bool := ws.any fun z => PyData.eqv z (.str f.word)
abbrev wsK : List PyData := [.str "dead", .str "double", .str "stuck", .str "swap"]
abbrev wsL : List PyData := [.str "down", .str "up"]
def sharedN (f g : Ft) : List PyData := picked (fun d => g.nums.any fun z => PyData.eqv z d) id f.nums
def lclash (f g : Ft) : Bool :=
  if (oneOf wsK f && oneOf wsK g) = true then !PyData.eqv (.list (sharedN f g)) (.list []) else PyData.eqv f.enc g.enc || ((oneOf wsL f && oneOf wsL g) || (sq (.str f.word) (.str "feed") && sq (.str g.word) (.str "feed")))
inductive Kd where
  | key | lock | feed | rest
  deriving DecidableEq
def Ft.kd : Ft → Kd
  | .dead _ => .key
  | .double _ => .key
  | .stuck _ => .key
  | .swap _ _ => .key
  | .down => .lock
  | .up => .lock
  | .feed _ => .feed
  | _ => .rest
theorem isK_eq (f : Ft) : oneOf wsK f = decide (f.kd = .key) := by
  cases f <;> first
    | (refine Eq.trans (b := true) ?_ rfl; simp only [oneOf, Ft.word]; decide +kernel)
    | (refine Eq.trans (b := false) ?_ rfl; simp only [oneOf, Ft.word]; decide +kernel)
theorem isL_eq (f : Ft) : oneOf wsL f = decide (f.kd = .lock) := by
  cases f <;> first
    | (refine Eq.trans (b := true) ?_ rfl; simp only [oneOf, Ft.word]; decide +kernel)
    | (refine Eq.trans (b := false) ?_ rfl; simp only [oneOf, Ft.word]; decide +kernel)
theorem isF_eq (f : Ft) : sq (.str f.word) (.str "feed") = decide (f.kd = .feed) := by
  cases f <;> first
    | (refine Eq.trans (b := true) ?_ rfl; simp only [Ft.word]; decide +kernel)
    | (refine Eq.trans (b := false) ?_ rfl; simp only [Ft.word]; decide +kernel)
theorem cl_key {f : Ft} (h : f.kd = .key) : f.cl = f.nums.map keyD := by cases f <;> first | rfl | (cases h; done)
theorem cl_lock {f : Ft} (h : f.kd = .lock) : f.cl = [.tuple [.str "lock"]] := by cases f <;> first | rfl | (cases h; done)
theorem cl_feed {f : Ft} (h : f.kd = .feed) : f.cl = [.tuple [.str "feed"]] := by cases f <;> first | rfl | (cases h; done)
theorem cl_rest {f : Ft} (h : f.kd = .rest) : f.cl = [f.enc] := by cases f <;> first | rfl | (cases h; done)
theorem rest_word {f : Ft} (h : f.kd = .rest) : (f.word == "key") = false ∧ (f.word == "lock") = false ∧ (f.word == "feed") = false := by
  cases f <;> first | (cases h; done) | (simp only [Ft.word]; decide +kernel)
theorem word_kd {f g : Ft} (h : f.kd ≠ g.kd) : (f.word == g.word) = false := by
  cases f <;> cases g <;> first | (exact absurd rfl h) | (simp only [Ft.word]; decide +kernel)
theorem enc_apart {f g : Ft} (h : f.kd ≠ g.kd) : PyData.eqv f.enc g.enc = false := by
  show PyData.eqvAll (.str f.word :: f.nums) (.str g.word :: g.nums) = false
  show (PyData.eqv (.str f.word) (.str g.word) && PyData.eqvAll f.nums g.nums) = false
  have e : PyData.eqv (.str f.word) (.str g.word) = (f.word == g.word) := by simp only [PyData.eqv]
  rw [e, word_kd h]
  rfl
theorem head_apart {x y : Str} (xs ys : List PyData) (h : (x == y) = false) : PyData.eqv (.tuple (.str x :: xs)) (.tuple (.str y :: ys)) = false := by
  show (PyData.eqv (.str x) (.str y) && PyData.eqvAll xs ys) = false
  have e : PyData.eqv (.str x) (.str y) = (x == y) := by simp only [PyData.eqv]
  rw [e, h]
  rfl
theorem keyD_eqv (a b : PyData) : PyData.eqv (keyD a) (keyD b) = PyData.eqv a b := by
  show (PyData.eqv (.str "key") (.str "key") && (PyData.eqv a b && PyData.eqvAll [] [])) = _
  have e : PyData.eqv (.str "key") (.str "key") = true := by decide +kernel
  rw [e]
  simp [PyData.eqvAll]
theorem eqv_nil (l : List PyData) : PyData.eqv (.list l) (.list []) = l.isEmpty := by
  show PyData.eqvAll l [] = _
  cases l <;> rfl
theorem clash_keys {f g : Ft} (hf : f.kd = .key) (hg : g.kd = .key) : clash f g = !(sharedN f g).isEmpty := by
  unfold clash sharedN picked
  rw [cl_key hf, cl_key hg, List.map_id, List.any_map]
  have e : (g.nums.any ((fun c => (f.nums.map keyD).any fun z => PyData.eqv z c) ∘ keyD)) = g.nums.any fun c => f.nums.any fun z => PyData.eqv z c := by
    congr 1
    funext c
    show ((f.nums.map keyD).any fun z => PyData.eqv z (keyD c)) = _
    rw [List.any_map]
    congr 1
    funext z
    exact keyD_eqv z c
  rw [e, any_swap]
  have e2 : (f.nums.any fun z => g.nums.any fun c => PyData.eqv z c) = f.nums.any fun d => g.nums.any fun z => PyData.eqv z d := by
    congr 1
    funext z
    congr 1
    funext c
    exact eqv_comm z c
  rw [e2]
  generalize (fun d => g.nums.any fun z => PyData.eqv z d) = q
  induction f.nums with
  | nil => rfl
  | cons x xs ih =>
    rw [List.any_cons, List.filter_cons]
    cases q x with
    | true => rfl
    | false => exact ih
theorem clash_lock {f g : Ft} (hf : f.kd = .lock) (hg : g.kd = .lock) : clash f g = true := by
  unfold clash
  rw [cl_lock hf, cl_lock hg]
  decide +kernel
theorem clash_feed {f g : Ft} (hf : f.kd = .feed) (hg : g.kd = .feed) : clash f g = true := by
  unfold clash
  rw [cl_feed hf, cl_feed hg]
  decide +kernel
theorem clash_rest {f g : Ft} (hf : f.kd = .rest) (hg : g.kd = .rest) : clash f g = PyData.eqv f.enc g.enc := by
  unfold clash
  rw [cl_rest hf, cl_rest hg]
  simp
theorem clash_apart {f g : Ft} (h : f.kd ≠ g.kd) : clash f g = false := by
  have key_word : ∀ {f g : Ft}, f.kd = .key → g.kd ≠ .key → clash f g = false := fun {f g} hf hg => by
    unfold clash
    rw [cl_key hf, List.any_eq_false]
    intro c hc q
    obtain ⟨z, hz, q⟩ := List.any_eq_true.mp q
    obtain ⟨n, hn, rfl⟩ := List.mem_map.mp hz
    have : PyData.eqv (keyD n) c = false := by
      cases hk : g.kd with
      | key => exact absurd hk hg
      | lock =>
        rw [cl_lock hk] at hc
        rw [List.mem_singleton.mp hc]
        exact head_apart _ _ (by decide +kernel)
      | feed =>
        rw [cl_feed hk] at hc
        rw [List.mem_singleton.mp hc]
        exact head_apart _ _ (by decide +kernel)
      | rest =>
        rw [cl_rest hk] at hc
        rw [List.mem_singleton.mp hc]
        refine head_apart _ _ ?_
        rw [Bool.eq_false_iff]
        intro e
        have := (rest_word hk).1
        rw [(beq_iff_eq.mp e).symm] at this
        simp at this
    rw [this] at q
    cases q
  have lock_word : ∀ {f g : Ft}, f.kd = .lock → g.kd = .feed ∨ g.kd = .rest → clash f g = false := fun {f g} hf hg => by
    unfold clash
    rw [cl_lock hf]
    rcases hg with hk | hk
    · rw [cl_feed hk]
      decide +kernel
    · rw [cl_rest hk]
      have : PyData.eqv (.tuple [.str "lock"]) g.enc = false := by
        refine head_apart _ _ ?_
        rw [Bool.eq_false_iff]
        intro e
        have := (rest_word hk).2.1
        rw [(beq_iff_eq.mp e).symm] at this
        simp at this
      simp [this]
  have feed_word : ∀ {f g : Ft}, f.kd = .feed → g.kd = .rest → clash f g = false := fun {f g} hf hk => by
    unfold clash
    rw [cl_feed hf, cl_rest hk]
    have : PyData.eqv (.tuple [.str "feed"]) g.enc = false := by
      refine head_apart _ _ ?_
      rw [Bool.eq_false_iff]
      intro e
      have := (rest_word hk).2.2
      rw [(beq_iff_eq.mp e).symm] at this
      simp at this
    simp [this]
  cases hf : f.kd <;> cases hg : g.kd <;> first
    | (exact absurd (hf.trans hg.symm) h)
    | (exact key_word hf (by rw [hg]; decide))
    | (rw [clash_comm]; exact key_word hg (by rw [hf]; decide))
    | (exact lock_word hf (.inl hg))
    | (exact lock_word hf (.inr hg))
    | (rw [clash_comm]; exact lock_word hg (.inl hf))
    | (rw [clash_comm]; exact lock_word hg (.inr hf))
    | (exact feed_word hf hg)
    | (rw [clash_comm]; exact feed_word hg hf)
theorem lclash_eq (f g : Ft) : lclash f g = clash f g := by
  unfold lclash
  rw [isK_eq, isK_eq, isL_eq, isL_eq, isF_eq, isF_eq, eqv_nil]
  by_cases h : f.kd = g.kd
  · cases hf : f.kd with
    | key =>
      rw [hf] at h
      rw [← h, if_pos (by decide), clash_keys hf h.symm]
    | lock =>
      rw [hf] at h
      rw [← h, if_neg (by decide), clash_lock hf h.symm]
      simp
    | feed =>
      rw [hf] at h
      rw [← h, if_neg (by decide), clash_feed hf h.symm]
      simp
    | rest =>
      rw [hf] at h
      rw [← h, if_neg (by decide), clash_rest hf h.symm]
      simp
  · rw [clash_apart h, enc_apart h]
    cases hf : f.kd <;> cases hg : g.kd <;> first
      | (exact absurd (hf.trans hg.symm) h)
      | rfl
end Tf
/-! taking away and putting back -/
namespace Tf
open PySem L2 PyProof.Rows
/-- in gs -/
def inF (gs : List Ft) (f : Ft) : Bool := gs.any fun g => PyData.eqv g.enc f.enc
/-- what is left of fs -/
def leftF (fs gs : List Ft) : List Ft := fs.filter fun f => !inF gs f
theorem inF_iff {gs : List Ft} {f : Ft} (hg : ∀ g ∈ gs, g.whole) (hf : f.whole) : inF gs f = true ↔ f ∈ gs := by
  unfold inF
  rw [List.any_eq_true]
  constructor
  · rintro ⟨g, m, h⟩
    rw [(eqv_enc (hg g m) hf).mp h] at m
    exact m
  · intro m
    exact ⟨f, m, (eqv_enc hf hf).mpr rfl⟩
theorem left_sub (fs gs : List Ft) : (leftF fs gs).Sublist fs := List.filter_sublist
theorem left_perm {fs fs' : List Ft} (gs : List Ft) (h : fs.Perm fs') : (leftF fs gs).Perm (leftF fs' gs) := h.filter _
theorem left_all {fs gs : List Ft} (hw : ∀ f ∈ gs, f.whole) (h : ∀ f ∈ fs, f ∈ gs) : leftF fs gs = [] := by
  unfold leftF
  rw [List.filter_eq_nil_iff]
  intro f m z
  rw [(inF_iff hw (hw f (h f m))).mpr (h f m)] at z
  cases z
theorem left_len {fs gs : List Ft} (h : (leftF fs gs).length = fs.length) : leftF fs gs = fs := (left_sub fs gs).eq_of_length h
/-- what was taken away -/
theorem more_eq {fs gs : List Ft} (hf : ∀ f ∈ fs, f.whole) : leftF fs (sf (leftF fs gs)) = fs.filter fun f => inF gs f := by
  unfold leftF
  apply List.filter_congr
  intro f m
  have hl : ∀ g ∈ sf (fs.filter fun f => !inF gs f), g.whole := fun g mg => hf g (List.mem_filter.mp (sf_mem.mp mg)).1
  cases e : inF gs f with
  | true =>
    cases e2 : inF (sf (fs.filter fun f => !inF gs f)) f with
    | false => rfl
    | true =>
      have := (List.mem_filter.mp (sf_mem.mp ((inF_iff hl (hf f m)).mp e2))).2
      rw [e] at this
      cases this
  | false =>
    have : f ∈ sf (fs.filter fun f => !inF gs f) := sf_mem.mpr (List.mem_filter.mpr ⟨m, by rw [e]; rfl⟩)
    rw [(inF_iff hl (hf f m)).mpr this]
    rfl
theorem back_perm {fs gs : List Ft} (hf : ∀ f ∈ fs, f.whole) : (leftF fs gs ++ (leftF fs (sf (leftF fs gs))).reverse).Perm fs := by
  rw [more_eq hf]
  have h := List.filter_append_perm (fun f => inF gs f) fs
  refine (List.Perm.append_left _ (List.reverse_perm _)).trans (List.perm_append_comm.trans ?_)
  exact h
theorem eqvAll_len : ∀ {xs ys : List PyData}, PyData.eqvAll xs ys = true → xs.length = ys.length
  | [], [], _ => rfl
  | [], _ :: _, h => by simp [PyData.eqvAll] at h
  | _ :: _, [], h => by simp [PyData.eqvAll] at h
  | x :: xs, y :: ys, h => by
    have h2 : (PyData.eqv x y && PyData.eqvAll xs ys) = true := h
    rw [List.length_cons, List.length_cons, eqvAll_len (Bool.and_eq_true_iff.mp h2).2]
theorem encs_lay {fs : List Ft} (h : ∀ f ∈ fs, f.whole) : (PyData.tuple (encs fs)).canLay0 = true ∧ (PyData.tuple (encs fs)).depth ≤ 2 := by
  have h1 : ∀ l : List PyData, (∀ d ∈ l, d.canLay0 = true ∧ d.depth = 1) → PyData.canLayAll0 l = true ∧ PyData.depthAll l ≤ 1 := fun l => by
    induction l with
    | nil => intro _; exact ⟨rfl, Nat.zero_le _⟩
    | cons d l ih =>
      intro q
      obtain ⟨a, b⟩ := ih fun d m => q d (List.mem_cons_of_mem _ m)
      obtain ⟨c, e⟩ := q d List.mem_cons_self
      refine ⟨by simp only [PyData.canLayAll0, c, a, Bool.and_self], ?_⟩
      simp only [PyData.depthAll]
      omega
  obtain ⟨a, b⟩ := h1 (encs fs) fun d m => by
    obtain ⟨f, hf, rfl⟩ := encs_mem m
    exact enc_lay (whole_ok (h f hf))
  refine ⟨by simp only [PyData.canLay0, a], ?_⟩
  simp only [PyData.depth]
  omega
theorem encs_refl {fs : List Ft} (h : ∀ f ∈ fs, f.whole) : PyData.eqv (.tuple (encs fs)) (.tuple (encs fs)) = true := SeqAt.eqv_refl _ (encs_lay h).1
theorem rev_ne {ks : List Str} (h : ks.Nodup) (hl : 2 ≤ ks.length) : ks.reverse ≠ ks := fun e => by
  have h0 : ks.reverse[0]? = ks[0]? := by rw [e]
  rw [List.getElem?_reverse (by omega)] at h0
  have hi : ks.length - 1 - 0 < ks.length := by omega
  rw [List.getElem?_eq_getElem hi, List.getElem?_eq_getElem (by omega : 0 < ks.length)] at h0
  exact List.pairwise_iff_getElem.mp h 0 (ks.length - 1 - 0) (by omega) hi (by omega) (Option.some.inj h0).symm
end Tf
/-! what is drawn: values of which only a property is known -/
namespace Tf
open PySem L2 PyProof.Rows
section
variable {K : Fr} {R : Rg} {Γ : Sl} {w : Wd} {ta tb te : TE} {tr : TA} {D : Ends} {σ : L2.St} {α : Type}
theorem ev_opXr {r : R2} {p : Pd} {f g : α → Pd} (ha : Ev R Γ w ta p) (hb : Ev R Γ w tb (Pd.ex f)) (hr : ∀ a, RV R w r p (f a) (g a)) : Ev R Γ w (tOp r ta tb) (Pd.ex g) := fun σ w1 e a Q k =>
  ha σ w1 e a _ fun x w2 s2 hx => hb σ w2 (e.mono s2.sg) (a.trans s2) _ fun y w3 s3 hy => by
    obtain ⟨c, hy⟩ := hy
    exact hr c x y w3 ((a.trans s2).trans s3) (p.st x _ _ s3.sg hx) hy Q fun v w4 s4 hv => k v w4 ((s2.trans s3).trans s4) ⟨c, hv⟩
def EvAX (R : Rg) (Γ : Sl) (w : Wd) (ta : TA) (f : α → List Pd) : Prop := ∀ (σ : L2.St) (w1 : Wd), EnvOk w1.g Γ σ → Stp R w w1 → ∀ Q : List V → Hp → Prop, (∀ c vs w2, Stp R w1 w2 → AllP w2.g (f c) vs → Q vs w2.h) → ta σ w1.h Q
theorem eax_l {f : α → Pd} {ps : List Pd} (h : Ev R Γ w ta (Pd.ex f)) (hr : EvA R Γ w tr ps) : EvAX R Γ w (tCons ta tr) fun c => f c :: ps := fun σ w1 e a Q k =>
  h σ w1 e a _ fun x w2 s2 hx => hr σ w2 (e.mono s2.sg) (a.trans s2) _ fun xs w3 s3 hxs => by
    obtain ⟨c, hx⟩ := hx
    exact k c _ w3 (s2.trans s3) (.cons ((f c).st x _ _ s3.sg hx) hxs)
theorem eax_r {p : Pd} {f : α → List Pd} (h : Ev R Γ w ta p) (hr : EvAX R Γ w tr f) : EvAX R Γ w (tCons ta tr) fun c => p :: f c := fun σ w1 e a Q k =>
  h σ w1 e a _ fun x w2 s2 hx => hr σ w2 (e.mono s2.sg) (a.trans s2) _ fun c xs w3 s3 hxs => k c _ w3 (s2.trans s3) (.cons (p.st x _ _ s3.sg hx) hxs)
theorem ev_tupX (ds : α → List PyData) (h : EvAX R Γ w tr fun c => (ds c).map (dat K)) (hl : ∀ c, (ds c).length ≤ 100000) : Ev R Γ w (tTup tr) (Pd.ex fun c => dat K (.tuple (ds c))) := fun σ w1 e a Q k =>
  h σ w1 e a _ fun c vs w2 s2 hv => by
    have hd := allP_dat hv
    have el := dpAll_len K hd
    refine ⟨by rw [el]; exact Nat.le_trans (hl c) (by decide), fun p hp => ?_⟩
    have st := Stp.new (o := .tup vs) s2.ok hp
    exact k (.ref p) _ (s2.trans st) ⟨c, .tup (SqT.of upd_same) (dpAll_mono K st.sg _ vs hd)⟩
theorem ev_ex {f : α → Pd} (c : α) (h : Ev R Γ w te (f c)) : Ev R Γ w te (Pd.ex f) := h.weak fun v G hv => ⟨c, hv⟩
theorem ev_exw {β : Type} {f : α → Pd} {g : β → Pd} (h : Ev R Γ w te (Pd.ex f)) (k : ∀ c, ∃ d, ∀ v G, (f c).P v G → (g d).P v G) : Ev R Γ w te (Pd.ex g) := h.weak fun v G ⟨c, hv⟩ => by
  obtain ⟨d, hd⟩ := k c
  exact ⟨d, hd v G hv⟩
theorem q_par2 {i j : Nat} {p q : Pd} (h : EvA R Γ w tr [p, q]) (e : EnvOk w.g Γ σ) (a : Ok R w) (k : ∀ σ' w', Stp R w w' → EnvOk w'.g ((Γ.set i (some p)).set j (some q)) σ' → D.nx σ' w'.h) : tPar i j tr D σ w.h :=
  h σ w e (Stp.refl a) _ fun vs w2 s2 hv => by
    cases hv with
    | cons h1 t =>
      cases t with
      | cons h2 t =>
        cases t
        exact ⟨_, _, rfl, k _ w2 s2 (((e.mono s2.sg).set h1 i).set h2 j)⟩
theorem q_par3 {i j l : Nat} {p q r : Pd} (h : EvA R Γ w tr [p, q, r]) (e : EnvOk w.g Γ σ) (a : Ok R w) (k : ∀ σ' w', Stp R w w' → EnvOk w'.g (((Γ.set i (some p)).set j (some q)).set l (some r)) σ' → D.nx σ' w'.h) : tPar3 i j l tr D σ w.h :=
  h σ w e (Stp.refl a) _ fun vs w2 s2 hv => by
    cases hv with
    | cons h1 t =>
      cases t with
      | cons h2 t =>
        cases t with
        | cons h3 t =>
          cases t
          exact ⟨_, _, _, rfl, k _ w2 s2 ((((e.mono s2.sg).set h1 i).set h2 j).set h3 l)⟩
/-! ### draws -/
def below (n : Int) : Type := { z : Int // 0 ≤ z ∧ z < n }
def drawP (K : Fr) (n : Int) : Pd := Pd.ex fun z : below n => dat K (.int z.1)
theorem ev_draw {p c : Addr} {n : Int} {th tn : TE} {E : XK} (h1 : Ev (Src p c) Γ w th (own p)) (h2 : Ev (Src p c) Γ w tn (dat K (.int n))) (h0 : 0 < n) (hi : n ≤ 1000000000) : Ev (Src p c) Γ w (tCall spNext [] E (tCons th (tCons tn tNil))) (drawP K n) :=
  ev_call (ea_cons h1 (ea_cons h2 ea_nil)) fun xs w1 a hx Q k E => by
    cases hx with
    | cons q1 t =>
      cases t with
      | cons q2 t =>
        cases t
        cases q2
        have q1' : _ = V.ref p := q1
        subst q1'
        exact ⟨w1, p, c, n, rfl, rfl, a.ok, h0, hi, fun z w2 s2 z0 z1 => k (.int z) w2 s2 ⟨⟨z, z0, z1⟩, .int z⟩⟩
/-- a fault in range -/
def goodF (nk wd : Int) : Type := { f : Ft // f.inR nk wd = true }
def ftP (K : Fr) (nk wd : Int) : Pd := Pd.ex fun f : goodF nk wd => dat K f.1.enc
def spFault (K : Fr) : Sp := fun vs H Q _ => ∃ (w : Wd) (p c : Addr) (u : V) (ks : List Str) (wd : Int), w.h = H ∧ vs = [.ref p, u, .int wd] ∧ Ok (Src p c) w ∧ Dp K w.g u (tS ks) ∧ 1 ≤ ks.length ∧ ks.length ≤ 1000 ∧ 2 ≤ wd ∧ wd ≤ 1000 ∧ ∀ v w', Stp (Src p c) w w' → (ftP K ks.length wd).P v w'.g → Q v w'.h
end
end Tf
/-! lists being filled, read on the way; loops of drawn length -/
namespace Tf
open PySem L2 PyProof.Rows
section
variable {K : Fr} {R : Rg} {Γ Γ' : Sl} {w : Wd} {to tv te tl : TE} {tr : TA} {D : Ends} {σ : L2.St} {tu tw : TS} {t : TT}
theorem Stp.back {w2 : Wd} {m : Addr} {o : HO} (g0 : w.g m = none) (h : Stp R ⟨upd w.g m o, w.h⟩ w2) : Stp R w ⟨w.g, w2.h⟩ := by
  have up : ∀ b u, w.g b = some u → w2.g b = some u := fun b u e => h.sg b u (fixg g0 b u e)
  refine ⟨⟨fun b u e => h.ok.sub b u (up b u e), h.ok.inv, fun b q => ⟨?_, (h.ok.apart b q).2⟩⟩, fun b u e => e, h.keep, fun b u e z => z, h.there⟩
  cases e : w.g b with
  | none => rfl
  | some u =>
    have := (h.ok.apart b q).1
    rw [up b u e] at this
    cases this
theorem Ok.view {m : Addr} {o : HO} (a : Ok R w) (hm : w.h m = some o) (nm : ¬ R.mu m) : Ok R ⟨upd w.g m o, w.h⟩ := by
  refine ⟨fun b u e => ?_, a.inv, fun b q => ⟨?_, (a.apart b q).2⟩⟩
  · by_cases hb : b = m
    · subst hb
      have e' : upd w.g b o b = some u := e
      rw [upd_same] at e'
      show w.h b = some u
      rw [hm]
      exact e'
    · have e' : upd w.g m o b = some u := e
      rw [upd_ne hb] at e'
      exact a.sub b u e'
  · show upd w.g m o b = none
    rw [upd_ne (fun z => by subst z; exact nm q)]
    exact (a.apart b q).1
/-- an if whose test reads a list that is being filled -/
theorem q_ifV {m : Addr} {o : HO} {b : Bool} (h : EvT R Γ' ⟨upd w.g m o, w.h⟩ t b) (e : EnvOk (upd w.g m o) Γ' σ) (a : Ok R w) (hm : w.h m = some o) (g0 : w.g m = none) (nm : ¬ R.mu m)
    (h1 : b = true → ∀ w', Stp R w w' → w'.g = w.g → tu D σ w'.h) (h2 : b = false → ∀ w', Stp R w w' → w'.g = w.g → tw D σ w'.h) : tIfS t tu tw D σ w.h :=
  h σ ⟨upd w.g m o, w.h⟩ e (Stp.refl (a.view hm nm)) _ fun w2 s2 => by
    have s := Stp.back g0 s2
    cases b with
    | true =>
      show tu D σ w2.h
      exact h1 rfl ⟨w.g, w2.h⟩ s rfl
    | false =>
      show tw D σ w2.h
      exact h2 rfl ⟨w.g, w2.h⟩ s rfl
theorem q_app {w0 : Wd} {m : Addr} {xs : List V} {p : Pd} (ho : Ev R Γ w to (own m)) (hv : Ev R Γ w tv p) (e : EnvOk w.g Γ σ) (s : Stp R w0 w) (h0 : w0.h m = none) (hg : w.g m = none) (hm : w.h m = some (.lst xs)) (nm : ¬ R.mu m) (hl : xs.length ≤ 10000)
    (k : ∀ v w', Stp R w0 w' → EnvOk w'.g Γ σ → w'.g m = none → w'.h m = some (.lst (xs ++ [v])) → p.P v w'.g → (∀ b o, w.g b = some o → w'.g b = some o) → D.nx σ w'.h) : tDrop (tBM K "list" rAppend to (tCons tv tNil)) D σ w.h :=
  ho σ w e (Stp.refl s.ok) _ fun x w1 s1 hx => by
    have hx' : x = .ref m := hx
    subst hx'
    have hm1 := s1.keep m _ hm nm
    refine ⟨.inl ⟨rfl, _, SqL.of hm1⟩, hv σ w1 (e.mono s1.sg) s1 _ fun v w2 s2 hv2 => ?_⟩
    have s12 := s1.trans s2
    have hm2 := s2.keep m _ hm1 nm
    have hg2 := s12.hid m _ hm hg
    refine ⟨m, _, _, rfl, rfl, hm2, Nat.lt_of_le_of_lt hl (by decide), ?_⟩
    have s3 := Stp.sto (o := .lst (xs ++ [v])) (s.trans s12) h0 hg2 nm ⟨_, hm2⟩
    exact k v ⟨w2.g, upd w2.h m (.lst (xs ++ [v]))⟩ s3 (e.mono s12.sg) hg2 upd_same hv2 s12.sg
theorem q_forRD {n : Int} {j : Nat} (he : EvA R Γ w tr [drawP K n]) (hn : n ≤ 1000000) (e : EnvOk w.g Γ σ) (a : Ok R w)
    (k : ∀ (z : Nat) w2, (z : Int) < n → Stp R w w2 → EnvOk w2.g Γ σ → ∃ I, Lp D tu z w2 σ I fun i σ' w' N => tu { D with nx := N, ct := N, bk := D.nx } (σ'.set j (some (.int (i : Int)))) w'.h) : tFor (iRng1 tr) (gName j) tu D σ w.h :=
  he σ w e (Stp.refl a) _ fun vs w2 s2 hv => by
    cases hv with
    | cons hx hn' =>
      cases hn'
      obtain ⟨⟨z, z0, z1⟩, hx⟩ := hx
      cases hx
      obtain ⟨I, h1, hg, hs, hd⟩ := k z.toNat w2 (by omega) s2 (e.mono s2.sg)
      refine ⟨z, rfl, by omega, by omega, for_range (lo := 0) (n := z.toNat) (fun i σ' H' => ∃ w', w'.h = H' ∧ I i σ' w') ⟨w2, rfl, h1⟩ (fun i σ' H' hi hI => ?_) fun σ' H' hI => ?_⟩
      · obtain ⟨w', rfl, hI⟩ := hI
        have e0 : (0 : Int) + (i : Int) = (i : Int) := Int.zero_add _
        rw [e0]
        exact hs i σ' w' _ hi hI (fun σ3 w3 h3 => ⟨w3, rfl, h3⟩)
      · obtain ⟨w', rfl, hI⟩ := hI
        exact hd σ' w' hI
/-- a list that was made here -/
def lP (K : Fr) (ds : List PyData) : Pd := ⟨fun v G => ∃ a xs, v = .ref a ∧ G a = some (.lst xs) ∧ DpAll K G xs ds, fun v G G' k ⟨a, xs, h1, h2, h3⟩ => ⟨a, xs, h1, k _ _ h2, dpAll_mono K k _ _ h3⟩⟩
theorem lP_dat {ds : List PyData} : ∀ v G, (lP K ds).P v G → (dat K (.list ds)).P v G := fun v G ⟨a, xs, h1, h2, h3⟩ => by
  subst h1
  exact .lst (SqL.of h2) h3
theorem ev_lstE {α : Type} (ds : α → List PyData) (h : EvAX R Γ w tr fun c => (ds c).map (dat K)) (hl : ∀ c, (ds c).length ≤ 100000) : Ev R Γ w (tLst tr) (Pd.ex fun c => lP K (ds c)) := fun σ w1 e a Q k =>
  h σ w1 e a _ fun c vs w2 s2 hv => by
    have hd := allP_dat hv
    have el := dpAll_len K hd
    refine ⟨by rw [el]; exact Nat.le_trans (hl c) (by decide), fun p hp => ?_⟩
    have st := Stp.new (o := .lst vs) s2.ok hp
    exact k (.ref p) _ (s2.trans st) ⟨c, p, vs, rfl, upd_same, dpAll_mono K st.sg _ vs hd⟩
theorem rv_cat {xs ys : List PyData} (h : xs.length + ys.length ≤ 100000) : RV R w rCat (lP K xs) (lP K ys) (lP K (xs ++ ys)) := fun v u w1 a hx hy Q k => by
  obtain ⟨p, vs, rfl, h1, h2⟩ := hx
  obtain ⟨q, us, rfl, h3, h4⟩ := hy
  refine ⟨p, q, vs, us, rfl, rfl, a.ok.sub _ _ h1, a.ok.sub _ _ h3, by rw [dpAll_len K h2, dpAll_len K h4]; exact Nat.le_trans h (by decide), fun z hz => ?_⟩
  have st := Stp.new (o := .lst (vs ++ us)) a.ok hz
  exact k _ _ st ⟨z, _, rfl, upd_same, dpAll_mono K st.sg _ _ (dpAll_app K h2 h4)⟩
theorem ev_opXX {α β : Type} {r : R2} {ta tb : TE} {f : α → Pd} {g : β → Pd} {s : α × β → Pd} (ha : Ev R Γ w ta (Pd.ex f)) (hb : Ev R Γ w tb (Pd.ex g)) (hr : ∀ a b, RV R w r (f a) (g b) (s (a, b))) : Ev R Γ w (tOp r ta tb) (Pd.ex s) := fun σ w1 e a Q k =>
  ha σ w1 e a _ fun x w2 s2 hx => hb σ w2 (e.mono s2.sg) (a.trans s2) _ fun y w3 s3 hy => by
    obtain ⟨c, hx⟩ := hx
    obtain ⟨d, hy⟩ := hy
    exact hr c d x y w3 ((a.trans s2).trans s3) ((f c).st x _ _ s3.sg hx) hy Q fun v w4 s4 hv => k v w4 ((s2.trans s3).trans s4) ⟨(c, d), hv⟩
/-- [x for x in ds if a draw says so] -/
def EvTX (R : Rg) (Γ : Sl) (w : Wd) (tt : TT) : Prop := ∀ (σ : L2.St) (w1 : Wd), EnvOk w1.g Γ σ → Stp R w w1 → ∀ Q : Bool → Hp → Prop, (∀ b w2, Stp R w1 w2 → Q b w2.h) → tt σ w1.h Q
def someOf (ds : List PyData) : Type := { l : List PyData // l.Sublist ds }
theorem ev_lcX {ds : List PyData} {j : Nat} {tt : TT} (hsz : ds.length ≤ 100000) (hl : Ev R Γ w tl (dat K (.tuple ds)))
    (ht : ∀ (i : Nat) d, ds[i]? = some d → ∀ w3, Stp R w w3 → EvTX R ((Γ.set j none).set j (some (dat K d))) w3 tt) (he : ∀ (i : Nat) d, ds[i]? = some d → ∀ w3, Stp R w w3 → Ev R ((Γ.set j none).set j (some (dat K d))) w3 te (dat K d)) :
    Ev R Γ w (tLc (iTup K tl) (gName j) tt te [j]) (Pd.ex fun l : someOf ds => lP K l.1) := fun σ w0 e a Q k => hl σ w0 e a _ fun v w1 s1 hv => by
  cases hv with
  | @tup ad vs _ hs ha =>
    refine ⟨ad, rfl, ⟨vs, sqT_mono K s1.ok.sub hs⟩, fun D hD => ?_⟩
    have ll := dpAll_len K ha
    have gD := s1.ok.gnone hD
    have nD := s1.ok.notmut hD
    have s2 : Stp R w1 ⟨w1.g, upd w1.h D (.lst [])⟩ := Stp.newM s1.ok hD
    refine lc_tup (K := K) (a := ad) (xs := vs) (fun i H => ∃ (w3 : Wd) (xs : List V) (out : List PyData), w3.h = H ∧ Stp R w1 w3 ∧ (∀ b o, w1.g b = some o → w3.g b = some o) ∧ w3.g D = none ∧ w3.h D = some (.lst xs) ∧ DpAll K w3.g xs out ∧ out.Sublist (ds.take i)) ⟨_, [], [], rfl, s2, fun b o z => z, gD, upd_same, .nil, by simp⟩ (fun i H _ I => ?_) (fun i x H hi I => ?_) fun H I => ?_
    · obtain ⟨w3, xs, out, rfl, s3, _⟩ := I
      exact sqT_mono K s3.ok.sub (sqT_mono K s3.sg hs)
    · obtain ⟨w3, xs, out, rfl, s3, m3, g3, h3, d3, sb⟩ := I
      have hi2 : i < ds.length := by rw [← ll]; exact (List.getElem?_eq_some_iff.mp hi).1
      have hd := List.getElem?_eq_getElem hi2
      refine ⟨wipe1, ?_⟩
      have dv : Dp K w3.g x ds[i] := dp_mono K s3.sg _ _ (dpAll_get K ha hi hd)
      have e3 : EnvOk w3.g ((Γ.set j none).set j (some (dat K ds[i]))) ((L2.wipe σ [j]).set j (some x)) := ((e.mono (s1.trans s3).sg).wipe j).set dv j
      refine ht i _ hd w3 (a.trans (s1.trans s3)) _ w3 e3 (Stp.refl s3.ok) _ fun b w4 s4 => ?_
      have h4 := s4.keep D _ h3 nD
      have g4 := s4.hid D _ h3 g3
      rw [take_snoc hd]
      cases b with
      | false => exact ⟨w4, xs, out, rfl, s3.trans s4, fun b o z => s4.sg b o (m3 b o z), g4, h4, dpAll_mono K s4.sg _ _ d3, List.Sublist.trans sb (List.sublist_append_left _ _)⟩
      | true =>
        refine he i _ hd w3 (a.trans (s1.trans s3)) _ w4 (e3.mono s4.sg) s4 _ fun y w5 s5 hy => ?_
        have h5 := s5.keep D _ h4 nD
        have g5 := s5.hid D _ h4 g4
        have lo : out.length ≤ ds.length := Nat.le_trans sb.length_le (by rw [List.length_take]; exact Nat.min_le_right _ _)
        refine ⟨xs, h5, Nat.lt_of_le_of_lt (Nat.le_trans (by rw [dpAll_len K d3]; exact lo) hsz) (by decide), ⟨w5.g, upd w5.h D (.lst (xs ++ [y]))⟩, xs ++ [y], out ++ [ds[i]], rfl, Stp.sto ((s3.trans s4).trans s5) hD g5 nD ⟨_, h5⟩, fun b o z => s5.sg b o (s4.sg b o (m3 b o z)), g5, upd_same, dpAll_app K (dpAll_mono K (s4.trans s5).sg _ _ d3) (.cons hy .nil), ?_⟩
        exact List.Sublist.append sb (List.Sublist.refl _)
    · obtain ⟨w3, xs, out, rfl, s3, m3, g3, h3, d3, sb⟩ := I
      rw [ll, List.take_length] at sb
      have s4 := Stp.fix s3 h3 hD g3 nD
      exact k (.ref D) ⟨upd w3.g D (.lst xs), w3.h⟩ (s1.trans s4) ⟨⟨out, sb⟩, D, xs, rfl, upd_same, dpAll_mono K (fixg g3) _ _ d3⟩
theorem etx_eq {n : Int} {m : Int} {ta tb : TE} (ha : Ev R Γ w ta (drawP K n)) (hb : Ev R Γ w tb (dat K (.int m))) : EvTX R Γ w (tTest (tOp rEq ta tb)) := fun σ w1 e a Q k =>
  ha σ w1 e a _ fun x w2 s2 hx => hb σ w2 (e.mono s2.sg) (a.trans s2) _ fun y w3 s3 hy => by
    obtain ⟨z, hx⟩ := hx
    cases hx
    cases hy
    refine ⟨rfl, ?_⟩
    exact ⟨_, rfl, k _ w3 (s2.trans s3)⟩
/-- faults that don't clash -/
def someFs (nk wd : Int) (n : Nat) : Type := { fs : List Ft // Gd nk wd fs ∧ fs.length ≤ n }
def fsP (K : Fr) (nk wd : Int) (n : Nat) : Pd := Pd.ex fun fs : someFs nk wd n => dat K (.tuple (encs fs.1))
def spFaults (K : Fr) : Sp := fun vs H Q _ => ∃ (w : Wd) (p c : Addr) (u : V) (ks : List Str) (wd : Int) (n : Nat), w.h = H ∧ vs = [.ref p, u, .int wd, .int (n : Int)] ∧ Ok (Src p c) w ∧ Dp K w.g u (tS ks) ∧ 1 ≤ ks.length ∧ ks.length ≤ 1000 ∧ 2 ≤ wd ∧ wd ≤ 1000 ∧ n ≤ 100 ∧ ∀ v w', Stp (Src p c) w w' → (fsP K ks.length wd n).P v w'.g → Q v w'.h
theorem ev_fault {p c : Addr} {ks : List Str} {wd : Int} {E : XK} {th tk tw : TE} (h1 : Ev (Src p c) Γ w th (own p)) (h2 : Ev (Src p c) Γ w tk (dat K (tS ks))) (h3 : Ev (Src p c) Γ w tw (dat K (.int wd))) (k1 : 1 ≤ ks.length) (k2 : ks.length ≤ 1000) (w1 : 2 ≤ wd) (w2 : wd ≤ 1000) :
    Ev (Src p c) Γ w (tCall (spFault K) [] E (tCons th (tCons tk (tCons tw tNil)))) (ftP K ks.length wd) :=
  ev_call (ea_cons h1 (ea_cons h2 (ea_cons h3 ea_nil))) fun xs v1 a hx Q k E => by
    cases hx with
    | cons q1 t =>
      cases t with
      | cons q2 t =>
        cases t with
        | cons q3 t =>
          cases t
          cases q3
          have q1' : _ = V.ref p := q1
          subst q1'
          exact ⟨v1, p, c, _, ks, wd, rfl, rfl, a.ok, q2, k1, k2, w1, w2, fun v v2 s2 hv => k v v2 s2 hv⟩
theorem ev_faults {p c : Addr} {ks : List Str} {wd : Int} {n : Nat} {E : XK} {th tk tw tn : TE} (h1 : Ev (Src p c) Γ w th (own p)) (h2 : Ev (Src p c) Γ w tk (dat K (tS ks))) (h3 : Ev (Src p c) Γ w tw (dat K (.int wd))) (h4 : Ev (Src p c) Γ w tn (dat K (.int (n : Int)))) (k1 : 1 ≤ ks.length) (k2 : ks.length ≤ 1000) (w1 : 2 ≤ wd) (w2 : wd ≤ 1000) (hn : n ≤ 100) :
    Ev (Src p c) Γ w (tCall (spFaults K) [] E (tCons th (tCons tk (tCons tw (tCons tn tNil))))) (fsP K ks.length wd n) :=
  ev_call (ea_cons h1 (ea_cons h2 (ea_cons h3 (ea_cons h4 ea_nil)))) fun xs v1 a hx Q k E => by
    cases hx with
    | cons q1 t =>
      cases t with
      | cons q2 t =>
        cases t with
        | cons q3 t =>
          cases t with
          | cons q4 t =>
            cases t
            cases q3
            cases q4
            have q1' : _ = V.ref p := q1
            subst q1'
            exact ⟨v1, p, c, _, ks, wd, n, rfl, rfl, a.ok, q2, k1, k2, w1, w2, hn, fun v v2 s2 hv => k v v2 s2 hv⟩
end
end Tf
/-! own methods; the source is made; slots forgotten; sizes -/
namespace Tf
open PySem L2 PyProof.Rows
open PySem.W (AllAlike Sortable)
theorem EnvOk.only {G : Hp} : ∀ (n : Nat) {Γ : Sl} {σ : L2.St}, EnvOk G Γ σ → EnvOk G (Γ.take n ++ List.replicate (Γ.length - n) none) σ
  | _, _, _, .nil => by simp; exact .nil
  | 0, _ :: Γ, s :: σ, h => by
    have hr : EnvOk G Γ σ := by cases h <;> assumption
    have q := EnvOk.only 0 hr
    simp at q ⊢
    exact .hole q
  | n + 1, _, _, .hole t => by
    have q := EnvOk.only n t
    simp at q ⊢
    exact .hole q
  | n + 1, _, _, .full p t => by
    have q := EnvOk.only n t
    simp at q ⊢
    exact .full p q
section
variable {K : Fr} {R : Rg} {Γ : Sl} {w : Wd} {ta te : TE} {tr : TA} {D : Ends} {σ : L2.St}
theorem Ev.toP {p q : Pd} (h : Ev R Γ w te p) (e : p = q) : Ev R Γ w te q := e ▸ h
theorem ev_meth {C : Addr} {m : Str} {sp : Sp} {E : XK} {p s : Pd} {ps : List Pd} (h : Ev R Γ w ta p) (hp : ∀ v G, p.P v G → ∃ x dx fs, v = .ref x ∧ G x = some (.ins C dx fs) ∧ fs.lookup m = none) (hr : EvA R Γ w tr ps) (hs : RS R w sp (p :: ps) s) : Ev R Γ w (tMeth C m sp [] E ta tr) s := fun σ w1 e a Q k =>
  h σ w1 e a _ fun v w2 s2 hv => by
    have hv' := hv
    obtain ⟨x, dx, fs, rfl, hx, hl⟩ := hp v _ hv
    refine ⟨x, dx, fs, rfl, s2.ok.sub _ _ hx, hl, hr σ w2 (e.mono s2.sg) (a.trans s2) _ fun vs w3 s3 hvs => ?_⟩
    rw [List.append_nil]
    exact hs _ w3 ((a.trans s2).trans s3) (.cons (p.st _ _ _ s3.sg hv') hvs) Q (fun u w4 s4 hu => k u w4 ((s2.trans s3).trans s4) hu) E
theorem q_mix {i : Nat} {b : Addr} {ns : List Int} {n : Int} {E : XK} (hb : Γ[0]? = some (some (own b))) (e : EnvOk w.g Γ σ) (hO : Ok R0 w) (hS : SqL K w.g b (ns.map V.int)) (hl : ns.length ≤ 63) (hs : ∀ z ∈ ns, small z) (h0 : 0 ≤ n) (h1 : n ≤ 1000)
    (k : ∀ p c σ' w', Ok (Src p c) w' → EnvOk w'.g (Γ.set i (some (own p))) σ' → D.nx σ' w'.h) : tAsg (tCall (spMix K) [] E (tCons (tVar 0) (tCons (tC (.int n)) tNil))) (gName i) D σ w.h := by
  obtain ⟨v, hv, hp⟩ := e.get hb
  have hp' : v = .ref b := hp
  subst hp'
  refine ⟨.ref b, hv, ?_⟩
  exact ⟨w, b, ns, n, rfl, rfl, hO, hS, hl, hs, h0, h1, fun p c w' s' ok' => k p c _ w' ok' ((e.mono s'.sg).set (p := own p) (v := .ref p) rfl i)⟩
/-- a sorted tuple of faults -/
theorem ev_sorted {fs : List Ft} (h : Ev R Γ w te (dat K (.tuple (encs fs)))) (hw : ∀ f ∈ fs, f.whole) (hl : fs.length ≤ 1000) : Ev R Γ w (tCB (fun xs H Q => ∃ p ys, xs = [.ref p] ∧ ((SqL K H p ys ∧ ∀ l, H l = none → Q (.ref l) (upd H l (.tup ys))) ∨ (SqT K H p ys ∧ Q (.ref p) H))) (tCons (tCB (rSortA K) (tCons te tNil)) tNil)) (dat K (.tuple (encs (sf fs)))) := by
  obtain ⟨q1, q2, q3⟩ := encs_sort hw
  exact ev_cb (ea_cons (Ev.to (ev_cb (ea_cons h ea_nil) (rc_sort (.inr (.inl rfl)) q1 q2 q3 (by rw [encs_len]; omega))) (congrArg PyData.list (srt_encs fs))) ea_nil) rc_tupL
theorem ev_sortedL {fs : List Ft} (h : Ev R Γ w te (dat K (.list (encs fs)))) (hw : ∀ f ∈ fs, f.whole) (hl : fs.length ≤ 1000) : Ev R Γ w (tCB (fun xs H Q => ∃ p ys, xs = [.ref p] ∧ ((SqL K H p ys ∧ ∀ l, H l = none → Q (.ref l) (upd H l (.tup ys))) ∨ (SqT K H p ys ∧ Q (.ref p) H))) (tCons (tCB (rSortA K) (tCons te tNil)) tNil)) (dat K (.tuple (encs (sf fs)))) := by
  obtain ⟨q1, q2, q3⟩ := encs_sort hw
  exact ev_cb (ea_cons (Ev.to (ev_cb (ea_cons h ea_nil) (rc_sort (.inl rfl) q1 q2 q3 (by rw [encs_len]; omega))) (congrArg PyData.list (srt_encs fs))) ea_nil) rc_tupL
theorem encs_rev (fs : List Ft) : (encs fs).reverse = encs fs.reverse := by unfold encs; rw [List.map_reverse]
theorem tS_rev (ks : List Str) : PyData.tuple (ks.map .str).reverse = tS ks.reverse := by unfold tS; rw [List.map_reverse]
end
theorem law_small {z : Int} (h : Builtin.Int.intBits z ≤ 1048576) : small z := by
  unfold Builtin.Int.intBits at h
  unfold small
  split at h
  · rename_i h0
    have : z.natAbs = 0 := by first | (simpa using h0) | omega
    rw [this]
    decide
  · omega
end Tf
namespace Tf
open PySem L2 PyProof.Rows
def topS (i : Nat) : Stmt := PySem.Challenge.pw_typefault_k04_whole_machines_repaired.main.body.getD i (.Pass ⟨0, 0, 0, 0⟩)
abbrev s_is_number : Stmt := topS 6
theorem sc_is_number : FnScope ["value", "low", "high"] ["value", "low", "high"] (defScope s_is_number) := ⟨rfl, rfl, rfl, by decide +kernel, rfl, by decide +kernel, by decide +kernel⟩
abbrev s_fault_in_range : Stmt := topS 7
theorem sc_fault_in_range : FnScope ["keyboard", "width", "fault", "word", "last_key"] ["keyboard", "width", "fault"] (defScope s_fault_in_range) := ⟨rfl, rfl, rfl, by decide +kernel, rfl, by decide +kernel, by decide +kernel⟩
abbrev s_claims : Stmt := topS 8
theorem sc_claims : FnScope ["fault", "word", "key"] ["fault"] (defScope s_claims) := ⟨rfl, rfl, rfl, by decide +kernel, rfl, by decide +kernel, by decide +kernel⟩
abbrev s_clashes : Stmt := topS 9
theorem sc_clashes : FnScope ["fault", "others", "claimed", "other", "claim"] ["fault", "others"] (defScope s_clashes) := ⟨rfl, rfl, rfl, by decide +kernel, rfl, by decide +kernel, by decide +kernel⟩
abbrev s_first_wrong_fault : Stmt := topS 10
theorem sc_first_wrong_fault : FnScope ["keyboard", "width", "faults", "index", "fault"] ["keyboard", "width", "faults"] (defScope s_first_wrong_fault) := ⟨rfl, rfl, rfl, by decide +kernel, rfl, by decide +kernel, by decide +kernel⟩
abbrev s_Machine_init : Stmt := inClass (topS 14) 0
theorem sc_Machine_init : FnScope ["self", "keyboard", "width", "faults", "wrong"] ["self", "keyboard", "width", "faults"] (defScope s_Machine_init) := ⟨rfl, rfl, rfl, by decide +kernel, rfl, by decide +kernel, by decide +kernel⟩
abbrev s_Machine_with_fault : Stmt := inClass (topS 14) 1
theorem sc_Machine_with_fault : FnScope ["self", "fault"] ["self", "fault"] (defScope s_Machine_with_fault) := ⟨rfl, rfl, rfl, by decide +kernel, rfl, by decide +kernel, by decide +kernel⟩
abbrev s_Machine_repaired : Stmt := inClass (topS 14) 2
theorem sc_Machine_repaired : FnScope ["self", "faults", "left", "fault"] ["self", "faults"] (defScope s_Machine_repaired) := ⟨rfl, rfl, rfl, by decide +kernel, rfl, by decide +kernel, by decide +kernel⟩
abbrev s_Machine_eq : Stmt := inClass (topS 14) 3
theorem sc_Machine_eq : FnScope ["self", "other"] ["self", "other"] (defScope s_Machine_eq) := ⟨rfl, rfl, rfl, by decide +kernel, rfl, by decide +kernel, by decide +kernel⟩
abbrev s_has_two_signs : Stmt := topS 19
theorem sc_has_two_signs : FnScope ["key"] ["key"] (defScope s_has_two_signs) := ⟨rfl, rfl, rfl, by decide +kernel, rfl, by decide +kernel, by decide +kernel⟩
abbrev s_first_wrong_key : Stmt := topS 20
theorem sc_first_wrong_key : FnScope ["keys", "earlier", "index", "key"] ["keys"] (defScope s_first_wrong_key) := ⟨rfl, rfl, rfl, by decide +kernel, rfl, by decide +kernel, by decide +kernel⟩
abbrev s_places_of_signs : Stmt := topS 21
theorem sc_places_of_signs : FnScope ["keys", "places", "number", "key"] ["keys"] (defScope s_places_of_signs) := ⟨rfl, rfl, rfl, by decide +kernel, rfl, by decide +kernel, by decide +kernel⟩
abbrev s_Keyboard_init : Stmt := inClass (topS 22) 0
theorem sc_Keyboard_init : FnScope ["self", "keys", "wrong"] ["self", "keys"] (defScope s_Keyboard_init) := ⟨rfl, rfl, rfl, by decide +kernel, rfl, by decide +kernel, by decide +kernel⟩
abbrev s_Keyboard_len : Stmt := inClass (topS 22) 2
theorem sc_Keyboard_len : FnScope ["self"] ["self"] (defScope s_Keyboard_len) := ⟨rfl, rfl, rfl, by decide +kernel, rfl, by decide +kernel, by decide +kernel⟩
abbrev s_Keyboard_eq : Stmt := inClass (topS 22) 3
theorem sc_Keyboard_eq : FnScope ["self", "other"] ["self", "other"] (defScope s_Keyboard_eq) := ⟨rfl, rfl, rfl, by decide +kernel, rfl, by decide +kernel, by decide +kernel⟩
abbrev s_l_mix : Stmt := topS 24
theorem sc_l_mix : FnScope ["_law_script", "_law_seed", "_law_state", "_law_cell"] ["_law_script", "_law_seed"] (defScope s_l_mix) := ⟨rfl, rfl, rfl, by decide +kernel, rfl, by decide +kernel, by decide +kernel⟩
abbrev s_l_next : Stmt := topS 25
theorem sc_l_next : FnScope ["_law_h", "_law_limit", "_law_cell"] ["_law_h", "_law_limit"] (defScope s_l_next) := ⟨rfl, rfl, rfl, by decide +kernel, rfl, by decide +kernel, by decide +kernel⟩
abbrev s_l_alike : Stmt := topS 26
theorem sc_l_alike : FnScope ["_law_found", "_law_due", "_law_k"] ["_law_found", "_law_due"] (defScope s_l_alike) := ⟨rfl, rfl, rfl, by decide +kernel, rfl, by decide +kernel, by decide +kernel⟩
abbrev s_l_keys : Stmt := topS 27
theorem sc_l_keys : FnScope ["_law_h", "_law_most", "_law_left", "_law_found", "_law_k"] ["_law_h", "_law_most"] (defScope s_l_keys) := ⟨rfl, rfl, rfl, by decide +kernel, rfl, by decide +kernel, by decide +kernel⟩
abbrev s_l_fault : Stmt := topS 28
theorem sc_l_fault : FnScope ["_law_h", "_law_keys_here", "_law_width", "_law_kind", "_law_key", "_law_other"] ["_law_h", "_law_keys_here", "_law_width"] (defScope s_l_fault) := ⟨rfl, rfl, rfl, by decide +kernel, rfl, by decide +kernel, by decide +kernel⟩
abbrev s_l_clash : Stmt := topS 29
theorem sc_l_clash : FnScope ["_law_one", "_law_other", "_law_words", "_law_lock", "_law_key"] ["_law_one", "_law_other"] (defScope s_l_clash) := ⟨rfl, rfl, rfl, by decide +kernel, rfl, by decide +kernel, by decide +kernel⟩
abbrev s_l_faults : Stmt := topS 30
theorem sc_l_faults : FnScope ["_law_h", "_law_keys_here", "_law_width", "_law_most", "_law_found", "_law_k", "_law_fault_here", "_law_other"] ["_law_h", "_law_keys_here", "_law_width", "_law_most"] (defScope s_l_faults) := ⟨rfl, rfl, rfl, by decide +kernel, rfl, by decide +kernel, by decide +kernel⟩
abbrev s_l_drawn : Stmt := topS 31
theorem sc_l_drawn : FnScope ["_law_h", "_law_most", "_law_keys_here", "_law_width"] ["_law_h", "_law_most"] (defScope s_l_drawn) := ⟨rfl, rfl, rfl, by decide +kernel, rfl, by decide +kernel, by decide +kernel⟩
abbrev s_l_machine : Stmt := topS 32
theorem sc_l_machine : FnScope ["_law_drawn_here"] ["_law_drawn_here"] (defScope s_l_machine) := ⟨rfl, rfl, rfl, by decide +kernel, rfl, by decide +kernel, by decide +kernel⟩
abbrev s_law : Stmt := topS 33
theorem sc_law : FnScope ["_law_script", "_law_h", "_law_turn", "_law_drawn_here", "_law_machine_here", "_law_faults_here", "_law_again", "_law_some", "_law_left", "_law_fixed", "_law_plain", "_law_more", "_law_fault_here", "_law_wide", "_law_other"] ["_law_script"] (defScope s_law) := ⟨rfl, rfl, rfl, by decide +kernel, rfl, by decide +kernel, by decide +kernel⟩
/-- where the top has put its things -/
structure Ad where
  f_is_number : Addr
  d_is_number : FuncData
  f_fault_in_range : Addr
  d_fault_in_range : FuncData
  f_claims : Addr
  d_claims : FuncData
  f_clashes : Addr
  d_clashes : FuncData
  f_first_wrong_fault : Addr
  d_first_wrong_fault : FuncData
  f_Machine_init : Addr
  d_Machine_init : FuncData
  f_Machine_with_fault : Addr
  d_Machine_with_fault : FuncData
  f_Machine_repaired : Addr
  d_Machine_repaired : FuncData
  f_Machine_eq : Addr
  d_Machine_eq : FuncData
  f_has_two_signs : Addr
  d_has_two_signs : FuncData
  f_first_wrong_key : Addr
  d_first_wrong_key : FuncData
  f_places_of_signs : Addr
  d_places_of_signs : FuncData
  f_Keyboard_init : Addr
  d_Keyboard_init : FuncData
  f_Keyboard_len : Addr
  d_Keyboard_len : FuncData
  f_Keyboard_eq : Addr
  d_Keyboard_eq : FuncData
  f_l_mix : Addr
  d_l_mix : FuncData
  f_l_next : Addr
  d_l_next : FuncData
  f_l_alike : Addr
  d_l_alike : FuncData
  f_l_keys : Addr
  d_l_keys : FuncData
  f_l_fault : Addr
  d_l_fault : FuncData
  f_l_clash : Addr
  d_l_clash : FuncData
  f_l_faults : Addr
  d_l_faults : FuncData
  f_l_drawn : Addr
  d_l_drawn : FuncData
  f_l_machine : Addr
  d_l_machine : FuncData
  f_law : Addr
  d_law : FuncData
  C_Machine : Addr
  C_Keyboard : Addr
  t_LEAST_WIDTH : Tok
  t_MOST_WIDTH : Tok
  t_SIGNS : Tok
  t_FEWEST_KEYS : Tok
  t_MOST_KEYS : Tok
structure Txt (K : Fr) (mg : Str -> Option Value) (a : Ad) : Prop where
  F_is_number : Fun K "is_number" "is_number" s_is_number a.f_is_number a.d_is_number
  bi_is_number : Binds K a.d_is_number ["value", "low", "high"] []
  g_is_number : mg "is_number" = some (.ref a.f_is_number)
  F_fault_in_range : Fun K "fault_in_range" "fault_in_range" s_fault_in_range a.f_fault_in_range a.d_fault_in_range
  bi_fault_in_range : Binds K a.d_fault_in_range ["keyboard", "width", "fault"] []
  g_fault_in_range : mg "fault_in_range" = some (.ref a.f_fault_in_range)
  F_claims : Fun K "claims" "claims" s_claims a.f_claims a.d_claims
  bi_claims : Binds K a.d_claims ["fault"] []
  g_claims : mg "claims" = some (.ref a.f_claims)
  F_clashes : Fun K "clashes" "clashes" s_clashes a.f_clashes a.d_clashes
  bi_clashes : Binds K a.d_clashes ["fault", "others"] []
  g_clashes : mg "clashes" = some (.ref a.f_clashes)
  F_first_wrong_fault : Fun K "first_wrong_fault" "first_wrong_fault" s_first_wrong_fault a.f_first_wrong_fault a.d_first_wrong_fault
  bi_first_wrong_fault : Binds K a.d_first_wrong_fault ["keyboard", "width", "faults"] []
  g_first_wrong_fault : mg "first_wrong_fault" = some (.ref a.f_first_wrong_fault)
  F_Machine_init : Fun K "__init__" "Machine.__init__" s_Machine_init a.f_Machine_init a.d_Machine_init
  bi_Machine_init : Binds K a.d_Machine_init ["self", "keyboard", "width", "faults"] []
  F_Machine_with_fault : Fun K "with_fault" "Machine.with_fault" s_Machine_with_fault a.f_Machine_with_fault a.d_Machine_with_fault
  bi_Machine_with_fault : Binds K a.d_Machine_with_fault ["self", "fault"] []
  m_Machine_with_fault : Meth K a.C_Machine "with_fault" a.f_Machine_with_fault
  F_Machine_repaired : Fun K "repaired" "Machine.repaired" s_Machine_repaired a.f_Machine_repaired a.d_Machine_repaired
  bi_Machine_repaired : Binds K a.d_Machine_repaired ["self", "faults"] []
  m_Machine_repaired : Meth K a.C_Machine "repaired" a.f_Machine_repaired
  F_Machine_eq : Fun K "__eq__" "Machine.__eq__" s_Machine_eq a.f_Machine_eq a.d_Machine_eq
  bi_Machine_eq : Binds K a.d_Machine_eq ["self", "other"] []
  m_Machine_eq : Meth K a.C_Machine "__eq__" a.f_Machine_eq
  F_has_two_signs : Fun K "has_two_signs" "has_two_signs" s_has_two_signs a.f_has_two_signs a.d_has_two_signs
  bi_has_two_signs : Binds K a.d_has_two_signs ["key"] []
  g_has_two_signs : mg "has_two_signs" = some (.ref a.f_has_two_signs)
  F_first_wrong_key : Fun K "first_wrong_key" "first_wrong_key" s_first_wrong_key a.f_first_wrong_key a.d_first_wrong_key
  bi_first_wrong_key : Binds K a.d_first_wrong_key ["keys"] []
  g_first_wrong_key : mg "first_wrong_key" = some (.ref a.f_first_wrong_key)
  F_places_of_signs : Fun K "places_of_signs" "places_of_signs" s_places_of_signs a.f_places_of_signs a.d_places_of_signs
  bi_places_of_signs : Binds K a.d_places_of_signs ["keys"] []
  g_places_of_signs : mg "places_of_signs" = some (.ref a.f_places_of_signs)
  F_Keyboard_init : Fun K "__init__" "Keyboard.__init__" s_Keyboard_init a.f_Keyboard_init a.d_Keyboard_init
  bi_Keyboard_init : Binds K a.d_Keyboard_init ["self", "keys"] []
  F_Keyboard_len : Fun K "__len__" "Keyboard.__len__" s_Keyboard_len a.f_Keyboard_len a.d_Keyboard_len
  bi_Keyboard_len : Binds K a.d_Keyboard_len ["self"] []
  m_Keyboard_len : Meth K a.C_Keyboard "__len__" a.f_Keyboard_len
  F_Keyboard_eq : Fun K "__eq__" "Keyboard.__eq__" s_Keyboard_eq a.f_Keyboard_eq a.d_Keyboard_eq
  bi_Keyboard_eq : Binds K a.d_Keyboard_eq ["self", "other"] []
  m_Keyboard_eq : Meth K a.C_Keyboard "__eq__" a.f_Keyboard_eq
  F_l_mix : Fun K "_law_mix" "_law_mix" s_l_mix a.f_l_mix a.d_l_mix
  bi_l_mix : Binds K a.d_l_mix ["_law_script", "_law_seed"] []
  g__law_mix : mg "_law_mix" = some (.ref a.f_l_mix)
  F_l_next : Fun K "_law_next" "_law_next" s_l_next a.f_l_next a.d_l_next
  bi_l_next : Binds K a.d_l_next ["_law_h", "_law_limit"] []
  g__law_next : mg "_law_next" = some (.ref a.f_l_next)
  F_l_alike : Fun K "_law_alike" "_law_alike" s_l_alike a.f_l_alike a.d_l_alike
  bi_l_alike : Binds K a.d_l_alike ["_law_found", "_law_due"] []
  g__law_alike : mg "_law_alike" = some (.ref a.f_l_alike)
  F_l_keys : Fun K "_law_keys" "_law_keys" s_l_keys a.f_l_keys a.d_l_keys
  bi_l_keys : Binds K a.d_l_keys ["_law_h", "_law_most"] []
  g__law_keys : mg "_law_keys" = some (.ref a.f_l_keys)
  F_l_fault : Fun K "_law_fault" "_law_fault" s_l_fault a.f_l_fault a.d_l_fault
  bi_l_fault : Binds K a.d_l_fault ["_law_h", "_law_keys_here", "_law_width"] []
  g__law_fault : mg "_law_fault" = some (.ref a.f_l_fault)
  F_l_clash : Fun K "_law_clash" "_law_clash" s_l_clash a.f_l_clash a.d_l_clash
  bi_l_clash : Binds K a.d_l_clash ["_law_one", "_law_other"] []
  g__law_clash : mg "_law_clash" = some (.ref a.f_l_clash)
  F_l_faults : Fun K "_law_faults" "_law_faults" s_l_faults a.f_l_faults a.d_l_faults
  bi_l_faults : Binds K a.d_l_faults ["_law_h", "_law_keys_here", "_law_width", "_law_most"] []
  g__law_faults : mg "_law_faults" = some (.ref a.f_l_faults)
  F_l_drawn : Fun K "_law_drawn" "_law_drawn" s_l_drawn a.f_l_drawn a.d_l_drawn
  bi_l_drawn : Binds K a.d_l_drawn ["_law_h", "_law_most"] []
  g__law_drawn : mg "_law_drawn" = some (.ref a.f_l_drawn)
  F_l_machine : Fun K "_law_machine" "_law_machine" s_l_machine a.f_l_machine a.d_l_machine
  bi_l_machine : Binds K a.d_l_machine ["_law_drawn_here"] []
  g__law_machine : mg "_law_machine" = some (.ref a.f_l_machine)
  F_law : Fun K "law" "law" s_law a.f_law a.d_law
  bi_law : Binds K a.d_law ["_law_script"] []
  g_law : mg "law" = some (.ref a.f_law)
  cl_Machine : Cls K a.C_Machine
  g_Machine : mg "Machine" = some (.ref a.C_Machine)
  mk_Machine : Mk K a.C_Machine a.f_Machine_init
  n_Machine_keyboard : NoAttr K a.C_Machine "keyboard"
  n_Machine_width : NoAttr K a.C_Machine "width"
  n_Machine_faults : NoAttr K a.C_Machine "faults"
  ty_Machine : TyC K a.C_Machine
  ne_Machine : NeIn K a.C_Machine a.f_Machine_eq
  cl_Keyboard : Cls K a.C_Keyboard
  g_Keyboard : mg "Keyboard" = some (.ref a.C_Keyboard)
  mk_Keyboard : Mk K a.C_Keyboard a.f_Keyboard_init
  n_Keyboard_key_signs : NoAttr K a.C_Keyboard "key_signs"
  n_Keyboard_signs : NoAttr K a.C_Keyboard "signs"
  n_Keyboard_places : NoAttr K a.C_Keyboard "_places"
  ty_Keyboard : TyC K a.C_Keyboard
  ne_Keyboard : NeIn K a.C_Keyboard a.f_Keyboard_eq
  b_any : mg "any" = none
  b_bool : mg "bool" = none
  b_dict : mg "dict" = none
  b_enumerate : mg "enumerate" = none
  b_int : mg "int" = none
  b_isinstance : mg "isinstance" = none
  b_len : mg "len" = none
  b_list : mg "list" = none
  b_max : mg "max" = none
  b_min : mg "min" = none
  b_range : mg "range" = none
  b_sorted : mg "sorted" = none
  b_str : mg "str" = none
  b_super : mg "super" = none
  b_tuple : mg "tuple" = none
  g_LEAST_WIDTH : mg "LEAST_WIDTH" = some (.int 2 a.t_LEAST_WIDTH)
  g_MOST_WIDTH : mg "MOST_WIDTH" = some (.int 20 a.t_MOST_WIDTH)
  g_SIGNS : mg "SIGNS" = some (.str "!,-.0123456789:;?ABCDEFGHIJKLMNOPQRSTUVWXYZabcdefghijklmnopqrstuvwxyz" a.t_SIGNS)
  g_FEWEST_KEYS : mg "FEWEST_KEYS" = some (.int 2 a.t_FEWEST_KEYS)
  g_MOST_KEYS : mg "MOST_KEYS" = some (.int 10 a.t_MOST_KEYS)
end Tf
namespace Tf
open PySem L2 PyProof.Rows
section
variable {P : Program} {W : World} {K : Fr} {mg : Str -> Option Value} {base : Heap} {a : Ad}
theorem src_get {xs : List Int} {i : Int} (h0 : 0 ≤ i) (h : i < max 1 (xs.length : Int)) : ∃ z : Int, atI (xs.map V.int ++ [.int 0]) i = some (.int z) ∧ (z = 0 ∨ z ∈ xs) ∧ (i < (xs.length : Int) -> z ∈ xs) ∧ (¬ i < (xs.length : Int) -> z = 0) := by
  obtain ⟨j, rfl⟩ : ∃ j : Nat, i = (j : Int) := ⟨i.toNat, by omega⟩
  by_cases hj : j < xs.length
  · refine ⟨xs[j], atI_nat ?_, .inr (List.getElem_mem hj), fun _ => List.getElem_mem hj, fun n => absurd (by omega) n⟩
    rw [List.getElem?_append_left (by rw [List.length_map]; exact hj), List.getElem?_map, List.getElem?_eq_getElem hj]
    rfl
  · have e : xs.length = 0 ∧ j = 0 := by omega
    obtain ⟨e1, rfl⟩ := e
    have e2 : xs = [] := List.length_eq_zero_iff.mp e1
    subst e2
    exact ⟨0, atI_nat rfl, .inl rfl, fun n => absurd n (by simp), fun _ => rfl⟩
theorem ok_next (T : Txt K mg a) : FnOk P W K mg base CX0 1 a.f_l_next a.d_l_next ["_law_h", "_law_limit"] spNext := by
  refine T.F_l_next.ok sc_l_next (fun vs H Q E h => ?_) (fun cdv A outer s H vs Q E hr h => ?_)
  · obtain ⟨w, p, c, n, rfl, rfl, _⟩ := h
    rfl
  · obtain ⟨w, p, c, n, rfl, rfl, hO, h0, h9, k⟩ := h
    refine ⟨_, (pss_cons (ps_set (i := 2) sc_l_next.nd rfl (Or.inl rfl) (pe_ix ix_seq (pe_op op_cat (pe_ix ix_seq (pv 0) pe_int (fun _ _ => rfl)) (pe_lst (pa_cons pe_int pa_nil))) (pe_op op_mod (pe_callTy call_int1 (by rfl) T.b_int (by decide +kernel) (pa_cons (pe_ix ix_seq (pv 0) pe_int (fun _ _ => rfl)) pa_nil)) (pe_callB (call_max2 rfl) (by rfl) T.b_max (by decide +kernel) (pa_cons pe_int (pa_cons (pe_callB call_len (by rfl) T.b_len (by decide +kernel) (pa_cons (pe_ix ix_seq (pv 0) pe_int (fun _ _ => rfl)) pa_nil)) pa_nil)))) (fun _ _ => rfl)))
      (pss_cons (ps_if (pt_cmpR op_ge (pv 2) (pe_op op_pow pe_int pe_int) (nomark _)) (pss_cons (ps_asg (pe_op op_fdivW (pv 2) (pv 1)) (pg_sub (pe_ix ix_seq (pv 0) pe_int (fun _ _ => rfl)) (pe_op op_mod (pe_callTy call_int1 (by rfl) T.b_int (by decide +kernel) (pa_cons (pe_ix ix_seq (pv 0) pe_int (fun _ _ => rfl)) pa_nil)) (pe_callB call_len (by rfl) T.b_len (by decide +kernel) (pa_cons (pe_ix ix_seq (pv 0) pe_int (fun _ _ => rfl)) pa_nil))) set_list))
        (pss_one (ps_ret (pe_op op_mod (pe_callTy call_int1 (by rfl) T.b_int (by decide +kernel) (pa_cons (pv 2) pa_nil)) (pv 1))))) pss_nil)
      (pss_cons (ps_asg (pe_op op_mod (pe_callTy call_int1 (by rfl) T.b_int (by decide +kernel) (pa_cons (pe_op op_add (pe_op op_add (pe_op op_mulB (pe_ix ix_seq (pv 0) pe_int (fun _ _ => rfl)) pe_int) (pe_op op_mulB (pv 2) pe_int)) pe_int) pa_nil)) pe_int) (pg_sub (pv 0) pe_int set_list))
      (pss_cons (ps_asg (pe_op op_add (pe_ix ix_seq (pv 0) pe_int (fun _ _ => rfl)) pe_int) (pg_sub (pv 0) pe_int set_list))
      (pss_one (ps_ret (pe_op op_mod (pe_callTy call_int1 (by rfl) T.b_int (by decide +kernel) (pa_cons (pe_op op_fdivW (pe_ix ix_seq (pv 0) pe_int (fun _ _ => rfl)) pe_int) pa_nil)) (pv 1)))))))), ?_⟩
    obtain ⟨sx, kx, ns, hp, hc, hpc, hs0, hs1, hlen, hsm⟩ := id hO.inv
    have ll : (ns.map V.int).length = ns.length := List.length_map _
    -- _law_cell = (h[1] + [0])[h[2] % max(1, len(h[1]))]
    have hm : (0 : Int) < (if ((ns.map V.int).length : Int) > 1 then ((ns.map V.int).length : Int) else 1) := by split <;> omega
    obtain ⟨z, hz, hz1, hz2, hz3⟩ := src_get (xs := ns) (i := kx % (if ((ns.map V.int).length : Int) > 1 then ((ns.map V.int).length : Int) else 1)) (Int.emod_nonneg _ (by omega)) (by
      have := Int.emod_lt_of_pos kx hm
      rw [ll] at *
      split at * <;> omega)
    have hzs : small z := by
      rcases hz1 with rfl | hz1
      · exact small_of (by decide)
      · exact hsm z hz1
    refine ⟨.ref p, rfl, .inl ⟨p, _, 1, .ref c, rfl, rfl, SqL.of hp, atI_nat (j := 1) rfl, by decide, fun q hq => ?_⟩⟩
    have hqp : p ≠ q := ne_of_none hp hq
    have hqc : c ≠ q := ne_of_none hc hq
    refine ⟨c, q, ns.map V.int, [.int 0], rfl, rfl, by rw [upd_ne hqc]; exact hc, upd_same, Nat.le_trans (show (ns.map V.int).length + 1 ≤ 64 by omega) (by decide), fun r hr2 => ?_⟩
    have hr3 : upd w.h q (.lst [.int 0]) r = none := hr2
    have hrp : p ≠ r := fun e => by subst e; rw [upd_ne hqp, hp] at hr3; cases hr3
    have hrc : c ≠ r := fun e => by subst e; rw [upd_ne hqc, hc] at hr3; cases hr3
    have hrq : r ≠ q := fun e => by subst e; rw [upd_same] at hr3; cases hr3
    have hrn : w.h r = none := by rw [upd_ne hrq] at hr3; exact hr3
    have gp : ∀ o o2, upd (upd w.h q o) r o2 p = some (.lst [.int sx, .ref c, .int kx]) := fun o o2 => by rw [upd_ne hrp, upd_ne hqp]; exact hp
    have gc : ∀ o o2, upd (upd w.h q o) r o2 c = some (.lst (ns.map V.int)) := fun o o2 => by rw [upd_ne hrc, upd_ne hqc]; exact hc
    refine ⟨.ref p, rfl, .inl ⟨p, _, 2, .int kx, rfl, rfl, SqL.of (gp _ _), atI_nat (j := 2) rfl, .inl ⟨kx, rfl, ?_⟩⟩⟩
    refine ⟨.ref p, rfl, .inl ⟨p, _, 1, .ref c, rfl, rfl, SqL.of (gp _ _), atI_nat (j := 1) rfl, _, _, rfl, .inl ⟨_, SqL.of (gc _ _), rfl⟩, 1, _, rfl, ?_⟩⟩
    refine ⟨kx, _, rfl, rfl, hm, .inl ⟨r, _, _, .int z, rfl, rfl, SqL.of upd_same, hz, ?_⟩⟩
    -- the state now
    generalize hH : upd (upd w.h q (.lst [.int 0])) r (.lst (ns.map V.int ++ [.int 0])) = H1
    have hp1 : H1 p = some (.lst [.int sx, .ref c, .int kx]) := by rw [← hH]; exact gp _ _
    have hc1 : H1 c = some (.lst (ns.map V.int)) := by rw [← hH]; exact gc _ _
    have kp1 : ∀ b o, w.h b = some o -> H1 b = some o := fun b o e => by
      rw [← hH, upd_ne (ne_of_none e hrn), upd_ne (ne_of_none e hq)]
      exact e
    -- if cell >= 10 ** 18
    refine ⟨.int z, rfl, 10, 18, rfl, rfl, ⟨by decide, by decide, by decide⟩, z, _, rfl, rfl, _, rfl, ite2 (fun hb => ?_) (fun hb => ?_)⟩
    · have hz18 : (10 : Int) ^ (18 : Int).toNat ≤ z := of_decide_eq_true hb
      have hbig : (1000 : Int) ≤ z := Int.le_trans (by decide) hz18
      have hin : kx % (if ((ns.map V.int).length : Int) > 1 then ((ns.map V.int).length : Int) else 1) < (ns.length : Int) := by
        by_cases hi : kx % (if ((ns.map V.int).length : Int) > 1 then ((ns.map V.int).length : Int) else 1) < (ns.length : Int)
        · exact hi
        · have := hz3 hi
          omega
      have hpos : 0 < ns.length := by
        have := Int.emod_nonneg kx (show (if ((ns.map V.int).length : Int) > 1 then ((ns.map V.int).length : Int) else 1) ≠ 0 by omega)
        omega
      refine ⟨.int z, rfl, .int n, rfl, z, n, rfl, rfl, ⟨h0, Nat.lt_of_le_of_lt (log2_mono (b := 1000000000) (by omega)) (by decide)⟩, ?_⟩
      refine ⟨.ref p, rfl, .inl ⟨p, _, 1, .ref c, rfl, rfl, SqL.of hp1, atI_nat (j := 1) rfl, ?_⟩⟩
      refine ⟨.ref p, rfl, .inl ⟨p, _, 2, .int kx, rfl, rfl, SqL.of hp1, atI_nat (j := 2) rfl, .inl ⟨kx, rfl, ?_⟩⟩⟩
      refine ⟨.ref p, rfl, .inl ⟨p, _, 1, .ref c, rfl, rfl, SqL.of hp1, atI_nat (j := 1) rfl, _, _, rfl, .inl ⟨_, SqL.of hc1, rfl⟩, ?_⟩⟩
      have hl0 : (0 : Int) < ((ns.map V.int).length : Int) := by omega
      have hi1 := Int.emod_nonneg kx (show ((ns.map V.int).length : Int) ≠ 0 by omega)
      have hi2 := Int.emod_lt_of_pos kx hl0
      obtain ⟨j, hj⟩ : ∃ j : Nat, kx % ((ns.map V.int).length : Int) = (j : Int) := ⟨(kx % ((ns.map V.int).length : Int)).toNat, by omega⟩
      have hjl : j < (ns.map V.int).length := by omega
      refine ⟨kx, _, rfl, rfl, hl0, c, _, _, j, rfl, rfl, hc1, ?_, ?_⟩
      · show ixN (ns.map V.int).length (kx % ((ns.map V.int).length : Int)) = some j
        rw [hj]
        unfold ixN
        rw [if_pos (by omega), if_pos (by omega)]
        simp
      · refine ⟨.int z, rfl, .inl ⟨z, rfl, .int n, rfl, z, n, rfl, rfl, h0, ?_⟩⟩
        have ez : z / n ∈ ns.set j (z / n) := List.mem_set (by omega) (z / n)
        have st : Stp (Src p c) w ⟨w.g, upd H1 c (.lst ((ns.map V.int).set j (.int (z / n))))⟩ := by
          refine Src.step hO rfl (fun b o hb1 hb2 e => ?_) ⟨sx, kx, ns.set j (z / n), ?_, ?_, hpc, hs0, hs1, by rw [List.length_set]; exact hlen, fun y hy => ?_⟩
          · show upd H1 c _ b = some o
            rw [upd_ne hb2]
            exact kp1 b o e
          · show upd H1 c _ p = _
            rw [upd_ne hpc]
            exact hp1
          · show upd H1 c _ c = _
            rw [upd_same, List.map_set]
          · rcases List.mem_or_eq_of_mem_set hy with hy | hy
            · exact hsm y hy
            · subst hy
              exact small_div hzs (by omega) h0
        exact k _ _ st (Int.emod_nonneg _ (by omega)) (Int.emod_lt_of_pos _ h0)
    · -- mixed
      have ll31 : sx.natAbs.log2 < 32 := log2_small (by omega)
      refine ⟨.ref p, rfl, .inl ⟨p, _, 0, .int sx, rfl, rfl, SqL.of hp1, atI_nat (j := 0) rfl, sx, 48271, rfl, rfl, ?_, ?_⟩⟩
      · show sx.natAbs.log2 + (48271 : Int).natAbs.log2 < 100000000
        have : (48271 : Int).natAbs.log2 < 32 := log2_small (by decide)
        omega
      refine ⟨.int z, rfl, z, 69621, rfl, rfl, ?_, ?_⟩
      · show z.natAbs.log2 + (69621 : Int).natAbs.log2 < 100000000
        have : (69621 : Int).natAbs.log2 < 32 := log2_small (by decide)
        unfold small at hzs
        omega
      refine ⟨_, _, rfl, rfl, _, _, rfl, rfl, .inl ⟨_, rfl, _, _, rfl, rfl, (by show (0 : Int) < 2147483647; decide), ?_⟩⟩
      refine ⟨.ref p, rfl, p, _, 0, 0, rfl, rfl, hp1, rfl, ?_⟩
      refine ⟨.ref p, rfl, .inl ⟨p, _, 2, .int kx, rfl, rfl, SqL.of upd_same, atI_nat (j := 2) rfl, kx, 1, rfl, rfl, ?_⟩⟩
      refine ⟨.ref p, rfl, p, _, 2, 2, rfl, rfl, upd_same, rfl, ?_⟩
      refine ⟨.ref p, rfl, .inl ⟨p, _, 0, .int _, rfl, rfl, SqL.of upd_same, atI_nat (j := 0) rfl, _, 7, rfl, rfl, ⟨by decide, by decide⟩, .inl ⟨_, rfl, .int n, rfl, _, n, rfl, rfl, h0, ?_⟩⟩⟩
      refine k _ ⟨w.g, _⟩ (Src.step hO rfl (fun b o hb1 hb2 e => ?_) ⟨_, _, ns, upd_same, ?_, hpc, Int.emod_nonneg _ (by decide), Int.emod_lt_of_pos _ (by decide), hlen, hsm⟩) (Int.emod_nonneg _ (by omega)) (Int.emod_lt_of_pos _ h0)
      · show upd (upd H1 p _) p _ b = some o
        rw [upd_ne hb1, upd_ne hb1]
        exact kp1 b o e
      · show upd (upd H1 p _) p _ c = _
        rw [upd_ne hpc.symm, upd_ne hpc.symm]
        exact hc1
end
end Tf
namespace Tf
open PySem L2 PyProof.Rows
section
variable {P : Program} {W : World} {K : Fr} {mg : Str -> Option Value} {base : Heap} {a : Ad}
theorem ok_mix (T : Txt K mg a) : FnOk P W K mg base CX0 1 a.f_l_mix a.d_l_mix ["_law_script", "_law_seed"] (spMix K) := by
  refine T.F_l_mix.ok sc_l_mix (fun vs H Q E h => ?_) (fun cdv A outer s H vs Q E hr h => ?_)
  · obtain ⟨w, b, ns, n, rfl, rfl, _⟩ := h
    rfl
  · obtain ⟨w, b, ns, n, rfl, rfl, hO, hS, hlen, hsm, h0, h9, k⟩ := h
    refine ⟨_, (pss_cons (ps_set (i := 2) sc_l_mix.nd rfl (Or.inl rfl) (pv 1))
      (pss_cons (ps_for PassesOwn.never rfl (pi_list (pv 0)) (pg_name (i := 3) sc_l_mix.nd rfl (Or.inl rfl))
        (pss_one (ps_set (i := 2) sc_l_mix.nd rfl (Or.inl rfl) (pe_op op_mod (pe_callTy call_int1 (by rfl) T.b_int (by decide +kernel) (pa_cons (pe_op op_add (pe_op op_add (pe_op op_mulB (pv 2) pe_int) (pe_op op_mod (pe_callTy call_int1 (by rfl) T.b_int (by decide +kernel) (pa_cons (pv 3) pa_nil)) pe_int)) pe_int) pa_nil)) pe_int))))
      (pss_one (ps_ret (pe_lst (pa_cons (pv 2) (pa_cons (pe_callTy call_list_of (by rfl) T.b_list (by decide +kernel) (pa_cons (pv 0) pa_nil)) (pa_cons pe_int pa_nil)))))))), ?_⟩
    have hS' : SqL K w.h b (ns.map V.int) := sqL_mono K hO.sub hS
    refine ⟨_, rfl, .ref b, rfl, b, rfl, ⟨_, hS'⟩, for_list (K := K) (a := b) (xs := ns.map V.int) (fun i σ H => H = w.h ∧ ∃ (st : Int) (v : Option V), 0 ≤ st ∧ st < 2147483647 ∧ σ = [some (.ref b), some (.int n), some (.int st), v])
      ⟨rfl, n, none, h0, by omega, rfl⟩ (fun i σ H _ ⟨e, _⟩ => e ▸ hS') (fun i x σ H hi hI => ?_) fun σ H hI => ?_⟩
    · obtain ⟨rfl, st, v, h1, h2, rfl⟩ := hI
      obtain ⟨z, rfl⟩ : ∃ z, x = V.int z := by
        rw [List.getElem?_map] at hi
        cases e : ns[i]? with
        | none =>
          rw [e] at hi
          cases hi
        | some z =>
          rw [e] at hi
          exact ⟨z, (Option.some.inj hi).symm⟩
      refine ⟨.int st, rfl, st, 48271, rfl, rfl, ?_, .int z, rfl, .inl ⟨z, rfl, z, _, rfl, rfl, (by show (0 : Int) < 2147483629; decide), ?_⟩⟩
      · show st.natAbs.log2 + (48271 : Int).natAbs.log2 < 100000000
        have e1 : (48271 : Int).natAbs.log2 < 32 := log2_small (by decide)
        have e2 : st.natAbs.log2 < 32 := log2_small (by omega)
        omega
      · refine ⟨_, _, rfl, rfl, _, _, rfl, rfl, .inl ⟨_, rfl, _, _, rfl, rfl, (by show (0 : Int) < 2147483647; decide), ?_⟩⟩
        exact ⟨rfl, _, _, Int.emod_nonneg _ (by decide), Int.emod_lt_of_pos _ (by decide), rfl⟩
    · obtain ⟨rfl, st, v, h1, h2, rfl⟩ := hI
      refine ⟨.int st, rfl, .ref b, rfl, b, _, rfl, .inl hS', fun c hc => ?_⟩
      refine ⟨by show 3 ≤ sizeLine; decide, fun p hp => ?_⟩
      have hpc : c ≠ p := ne_of_none upd_same hp
      have s1 : Stp R0 w ⟨w.g, upd w.h c (.lst (ns.map V.int))⟩ := Stp.newM hO hc
      have s2 : Stp R0 ⟨w.g, upd w.h c (.lst (ns.map V.int))⟩ ⟨w.g, upd (upd w.h c (.lst (ns.map V.int))) p (.lst [.int st, .ref c, .int 0])⟩ := Stp.newM s1.ok hp
      have s3 := s1.trans s2
      have hcc : upd (upd w.h c (.lst (ns.map V.int))) p (.lst [.int st, .ref c, .int 0]) c = some (.lst (ns.map V.int)) := by rw [upd_ne hpc, upd_same]
      refine k p c _ s3 ⟨s3.ok.sub, ⟨st, 0, ns, upd_same, hcc, hpc.symm, h1, h2, hlen, hsm⟩, fun d m => ?_⟩
      have hpn : w.h p = none := by rw [upd_ne hpc.symm] at hp; exact hp
      rcases m with rfl | rfl
      · refine ⟨hO.gnone hpn, ?_⟩
        show upd _ _ _ _ ≠ none
        rw [upd_same]
        intro z
        cases z
      · refine ⟨hO.gnone hc, ?_⟩
        show upd (upd w.h d _) p _ d ≠ none
        rw [hcc]
        intro z
        cases z
end
end Tf
namespace Tf
open PySem L2 PyProof.Rows
section
variable {P : Program} {W : World} {K : Fr} {mg : Str -> Option Value} {base : Heap} {a : Ad}
theorem ok_keys (T : Txt K mg a) : FnOk P W K mg base CX0 2 a.f_l_keys a.d_l_keys ["_law_h", "_law_most"] (spKeys K) := by
  have G_l_next := ok_next (P := P) (W := W) (base := base) T
  refine T.F_l_keys.ok sc_l_keys (fun vs H Q E h => ?_) (fun cdv A outer s H vs Q E hr h => ?_)
  · obtain ⟨w, p, c, n, rfl, rfl, _⟩ := h
    rfl
  · obtain ⟨w, p, c, n, rfl, rfl, hO, h2, h8, k⟩ := h
    refine ⟨_, (pss_cons (ps_par (i := 2) (j := 3) (by rfl) sc_l_keys.nd rfl rfl (by decide) rfl rfl (pa_cons (pe_lst (pa_cons pe_str (pa_cons pe_str (pa_cons pe_str (pa_cons pe_str (pa_cons pe_str (pa_cons pe_str (pa_cons pe_str (pa_cons pe_str pa_nil))))))))) (pa_cons (pe_lst pa_nil) pa_nil)) (by rfl))
      (pss_cons (ps_for PassesOwn.never rfl (pi_range1 rfl T.b_range (pa_cons (pe_op op_add pe_int (pe_call G_l_next (hr.mono (by decide)) (by rfl) T.g__law_next T.F_l_next.kp T.bi_l_next .nil pass0 (pa_cons (pv 0) (pa_cons (pe_op op_sub (pv 1) pe_int) pa_nil)))) pa_nil)) (pg_name (i := 4) sc_l_keys.nd rfl (Or.inl rfl))
        (pss_one (ps_expr (pe_bm PySem.F.plainAttrs_list PySem.F.slot_list_append PySem.F.type_list_append mt_append (pv 3) (pa_cons (pe_bm PySem.F.plainAttrs_list PySem.F.slot_list_pop PySem.F.type_list_pop mt_popAt (pv 2) (pa_cons (pe_call G_l_next (hr.mono (by decide)) (by rfl) T.g__law_next T.F_l_next.kp T.bi_l_next .nil pass0 (pa_cons (pv 0) (pa_cons (pe_callB call_len (by rfl) T.b_len (by decide +kernel) (pa_cons (pv 2) pa_nil)) pa_nil))) pa_nil)) pa_nil)))))
      (pss_one (ps_ret (pe_callTy call_tuple_of (by rfl) T.b_tuple (by decide +kernel) (pa_cons (pv 3) pa_nil)))))), ?_⟩
    -- left, found = [..], []
    refine ⟨by show 8 ≤ sizeLine; decide, fun l hl => ⟨by show 0 ≤ sizeLine; decide, fun m hm => ⟨_, _, rfl, ?_⟩⟩⟩
    generalize hH : upd (upd w.h l (.lst [.str "aA", .str "bB", .str "x!", .str "?y", .str "1.", .str "Z-", .str "mn", .str "0;"])) m (.lst []) = H1
    have s1 : Stp (Src p c) w ⟨w.g, upd w.h l (.lst [.str "aA", .str "bB", .str "x!", .str "?y", .str "1.", .str "Z-", .str "mn", .str "0;"])⟩ := Stp.newM hO hl
    have s2 : Stp (Src p c) ⟨w.g, upd w.h l (.lst [.str "aA", .str "bB", .str "x!", .str "?y", .str "1.", .str "Z-", .str "mn", .str "0;"])⟩ ⟨w.g, upd (upd w.h l (.lst [.str "aA", .str "bB", .str "x!", .str "?y", .str "1.", .str "Z-", .str "mn", .str "0;"])) m (.lst [])⟩ := Stp.newM s1.ok hm
    have hml : l ≠ m := ne_of_none upd_same hm
    have hmn : w.h m = none := by rw [upd_ne hml.symm] at hm; exact hm
    have nl : ¬ (Src p c).mu l := hO.notmut hl
    have nm0 : ¬ (Src p c).mu m := hO.notmut hmn
    have nm : ¬ ((Src p c).add l).mu m := fun z => z.elim nm0 fun e => hml e.symm
    have s3 := s1.trans s2
    rw [hH] at s3
    have hl1 : H1 l = some (.lst (K8.map V.str)) := by rw [← hH, upd_ne hml, upd_same]; rfl
    have hm1 : H1 m = some (.lst ([] : List V)) := by rw [← hH, upd_same]
    have gl1 : w.g l = none := hO.gnone hl
    have gm1 : w.g m = none := hO.gnone hmn
    have ok1 : Ok (((Src p c).add l).add m) ⟨w.g, H1⟩ := Ok.add (Ok.add s3.ok hl1 gl1) hm1 gm1
    -- range(2 + next(h, most - 1))
    refine ⟨.ref p, rfl, .int n, rfl, n, 1, rfl, rfl, ?_⟩
    refine ⟨⟨w.g, H1⟩, p, c, n - 1, rfl, rfl, s3.ok, by omega, by omega, fun z w2 t2 z0 z1 => ?_⟩
    refine ⟨_, _, rfl, rfl, ?_⟩
    refine ⟨2 + z, rfl, by omega, by omega, ?_⟩
    have okd := Stp.up (Stp.up t2 ok1.drop nl) ok1 nm
    refine for_range (lo := 0) (n := (2 + z).toNat) (fun i σ H => ∃ (w3 : Wd) (ls fs : List Str) (v : Option V), w3.h = H ∧ Stp (((Src p c).add l).add m) ⟨w.g, H1⟩ w3 ∧ w3.h l = some (.lst (ls.map V.str)) ∧ w3.h m = some (.lst (fs.map V.str)) ∧ fs.length = i ∧ (fs ++ ls).Perm K8 ∧ σ = [some (.ref p), some (.int n), some (.ref l), some (.ref m), v])
      ⟨w2, K8, [], none, rfl, okd, t2.keep l _ hl1 nl, t2.keep m _ hm1 nm0, rfl, by rw [List.nil_append], rfl⟩ (fun i σ H hi hI => ?_) fun σ H hI => ?_
    · obtain ⟨w3, ls, fs, v, rfl, s4, e1, e2, e3, e4, rfl⟩ := hI
      have el : fs.length + ls.length = 8 := by rw [← List.length_append, e4.length_eq]; rfl
      have lp : 0 < ls.length := by omega
      refine ⟨.ref m, rfl, .inl ⟨rfl, _, SqL.of e2⟩, .ref l, rfl, .inl ⟨rfl, _, SqL.of e1⟩, .ref p, rfl, .ref l, rfl, _, _, rfl, .inl ⟨_, SqL.of e1, rfl⟩, ?_⟩
      refine ⟨w3, p, c, _, rfl, rfl, s4.ok.drop.drop, by rw [List.length_map]; omega, by rw [List.length_map]; omega, fun y w4 s5 y0 y1 => ?_⟩
      rw [List.length_map] at y1
      have e1' := s5.keep l _ e1 nl
      have e2' := s5.keep m _ e2 nm0
      obtain ⟨j, rfl⟩ : ∃ j : Nat, y = (j : Int) := ⟨y.toNat, by omega⟩
      have hj : j < ls.length := by omega
      have hj2 : (ls.map V.str)[j]? = some (.str ls[j]) := by rw [List.getElem?_map, List.getElem?_eq_getElem hj]; rfl
      refine ⟨l, _, _, j, _, rfl, rfl, e1', by omega, by omega, seqIx_nat (by rw [List.length_map]; exact hj), hj2, ?_⟩
      have em : (ls.map V.str).eraseIdx j = (ls.eraseIdx j).map V.str := erase_map V.str ls j
      have ok4 := (s4.trans (Stp.up (Stp.up s5 s4.ok.drop nl) s4.ok nm)).ok
      have t6 : Stp (((Src p c).add l).add m) w4 ⟨w4.g, upd w4.h l (.lst ((ls.eraseIdx j).map V.str))⟩ := Stp.up (Stp.set ok4.drop nl e1') ok4 nm
      have e2'' : upd w4.h l (.lst ((ls.eraseIdx j).map V.str)) m = some (.lst (fs.map V.str)) := by rw [upd_ne hml.symm]; exact e2'
      rw [em]
      refine ⟨m, _, _, rfl, rfl, e2'', Nat.lt_of_le_of_lt (show (fs.map V.str).length ≤ 64 by rw [List.length_map]; omega) (by decide), ?_⟩
      have t7 : Stp (((Src p c).add l).add m) ⟨w4.g, upd w4.h l (.lst ((ls.eraseIdx j).map V.str))⟩ ⟨w4.g, upd (upd w4.h l (.lst ((ls.eraseIdx j).map V.str))) m (.lst (fs.map V.str ++ [.str ls[j]]))⟩ := Stp.set t6.ok nm e2''
      refine ⟨⟨w4.g, upd (upd w4.h l (.lst ((ls.eraseIdx j).map V.str))) m (.lst (fs.map V.str ++ [.str ls[j]]))⟩, ls.eraseIdx j, fs ++ [ls[j]], _, rfl, ((s4.trans (Stp.up (Stp.up s5 s4.ok.drop nl) s4.ok nm)).trans t6).trans t7, ?_, ?_, ?_, ?_, rfl⟩
      · show upd (upd w4.h l _) m _ l = _
        rw [upd_ne hml, upd_same]
      · show upd (upd w4.h l _) m _ m = _
        rw [upd_same, List.map_append]
        rfl
      · rw [List.length_append, e3]
        rfl
      · have pe : (ls[j] :: ls.eraseIdx j).Perm ls := erase_perm ls j hj
        have q1 : (fs ++ [ls[j]] ++ ls.eraseIdx j).Perm (fs ++ ls) := by
          rw [List.append_assoc]
          exact List.Perm.append_left fs pe
        exact q1.trans e4
    · obtain ⟨w3, ls, fs, v, rfl, s4, e1, e2, e3, e4, rfl⟩ := hI
      refine ⟨.ref m, rfl, m, _, rfl, .inl ⟨SqL.of e2, fun q hq => ?_⟩⟩
      have s5 : Stp (Src p c) w w3 := Stp.of_add (Stp.of_add s4 (Stp.up (hH ▸ s2) (Ok.add s1.ok upd_same gl1) nl) hm) s1 hl
      have s6 : Stp (Src p c) w3 ⟨upd w3.g q (.tup (fs.map V.str)), upd w3.h q (.tup (fs.map V.str))⟩ := Stp.new s5.ok hq
      refine k (.ref q) _ fs (s5.trans s6) (.tup (SqT.of upd_same) (dp_strs fs)) ⟨?_, fun x hx => e4.mem_iff.mp (List.mem_append_left _ hx), by omega, by omega⟩
      exact (List.nodup_append.mp ((e4.nodup_iff).mpr k8_nd)).1
end
end Tf
namespace Tf
open PySem L2 PyProof.Rows
mutual
/-- data of a size that fits -/
def ft : PyData -> Bool
  | .list ds => decide (ds.length ≤ 1000) && ftAll ds
  | .tuple ds => decide (ds.length ≤ 1000) && ftAll ds
  | .str x => decide (x.length ≤ 1000)
  | .dict _ => false
  | _ => true
def ftAll : List PyData -> Bool
  | [] => true
  | d :: ds => ft d && ftAll ds
end
theorem ftAll_mem : ∀ {ds : List PyData} {d : PyData}, ftAll ds = true -> d ∈ ds -> ft d = true
  | e :: ds, d, h, m => by
    simp only [ftAll, Bool.and_eq_true] at h
    rcases List.mem_cons.mp m with rfl | m
    · exact h.1
    · exact ftAll_mem h.2 m
theorem depthAll_mem : ∀ {ds : List PyData} {d : PyData}, d ∈ ds -> d.depth ≤ PyData.depthAll ds
  | e :: ds, d, m => by
    simp only [PyData.depthAll]
    rcases List.mem_cons.mp m with rfl | m
    · omega
    · have := depthAll_mem m
      omega
/-- equal data: True -/
def spAlk (K : Fr) (n : Nat) : Sp := fun vs H Q _ => ∃ (w : Wd) (d : PyData) (x y : V), w.h = H ∧ vs = [x, y] ∧ Ok R0 w ∧ Dp K w.g x d ∧ Dp K w.g y d ∧ d.depth < n ∧ ft d = true ∧ ∀ w', Stp R0 w w' -> Q (.bl true) w'.h
section
variable {P : Program} {W : World} {K : Fr} {mg : Str -> Option Value} {base : Heap} {a : Ad}
theorem rs_alk {R : Rg} {w : Wd} {n : Nat} {d : PyData} (h : d.depth < n) (f : ft d = true) : RS R w (spAlk K n) [dat K d, dat K d] (dat K (.bool true)) := fun xs w1 a hx Q k E => by
  cases hx with
  | cons h1 t =>
    cases t with
    | cons h2 t =>
      cases t
      exact ⟨w1, d, _, _, rfl, rfl, a.ok.low, h1, h2, h, f, fun w2 s2 => k _ w2 (s2.lift a.ok) (.bl true)⟩
theorem ok_alike (T : Txt K mg a) : ∀ n : Nat, FnOk P W K mg base CX0 (n + 1) a.f_l_alike a.d_l_alike ["_law_found", "_law_due"] (spAlk K n) := by
  have len : ∀ (n : Nat) vs H Q E, spAlk K n vs H Q E -> vs.length = (["_law_found", "_law_due"] : List Str).length := fun n vs H Q E h => by
    obtain ⟨w, d, x, y, rfl, rfl, _⟩ := h
    rfl
  intro n
  induction n with
  | zero =>
    refine T.F_l_alike.ok sc_l_alike (len _) (fun cdv A outer s H vs Q E hr h => ?_)
    obtain ⟨w, d, x, y, _, _, _, _, _, hd, _⟩ := h
    exact absurd hd (Nat.not_lt_zero _)
  | succ n G_l_alike =>
    refine T.F_l_alike.ok sc_l_alike (len _) (fun cdv A outer s H vs Q E hr h => ?_)
    obtain ⟨w, d, x, y, rfl, rfl, hO, hx, hy, hd, hf, k⟩ := h
    refine ⟨_, (pss_cons (ps_if (pt_val (pe_callB (r := rIsi K) call_isi (by rfl) T.b_isinstance (by decide +kernel) (pa_cons (pv 1) (pa_cons (pe_bltn (v := .ty "dict") (by rfl) T.b_dict (by decide +kernel) rfl) pa_nil)))) (pss_one ps_never) pss_nil)
      (pss_cons (ps_if (pt_val (pe_callB (r := rIsiT K) call_isiT (by rfl) T.b_isinstance (by decide +kernel) (pa_cons (pv 1) (pa_cons (pe_tup (pa_cons (pe_bltn (v := .ty "tuple") (by rfl) T.b_tuple (by decide +kernel) rfl) (pa_cons (pe_bltn (v := .ty "list") (by rfl) T.b_list (by decide +kernel) rfl) pa_nil))) pa_nil)))) (pss_cons (ps_if (PW.pt (pw_or (pt_not (pt_val (pe_callB (r := rIsiT K) call_isiT (by rfl) T.b_isinstance (by decide +kernel) (pa_cons (pv 0) (pa_cons (pe_tup (pa_cons (pe_bltn (v := .ty "tuple") (by rfl) T.b_tuple (by decide +kernel) rfl) (pa_cons (pe_bltn (v := .ty "list") (by rfl) T.b_list (by decide +kernel) rfl) pa_nil))) pa_nil))))) (pw_or1 (pt_cmpR op_ne (pe_callB (r := rIsi K) call_isi (by rfl) T.b_isinstance (by decide +kernel) (pa_cons (pv 0) (pa_cons (pe_bltn (v := .ty "list") (by rfl) T.b_list (by decide +kernel) rfl) pa_nil))) (pe_callB (r := rIsi K) call_isi (by rfl) T.b_isinstance (by decide +kernel) (pa_cons (pv 1) (pa_cons (pe_bltn (v := .ty "list") (by rfl) T.b_list (by decide +kernel) rfl) pa_nil))) (nomark _))))) (pss_one (ps_ret pe_bl)) pss_nil)
        (pss_cons (ps_if (pt_cmpR op_ne (pe_callB (r := rLen K) call_len (by rfl) T.b_len (by decide +kernel) (pa_cons (pv 0) pa_nil)) (pe_callB (r := rLen K) call_len (by rfl) T.b_len (by decide +kernel) (pa_cons (pv 1) pa_nil)) (nomark _)) (pss_one (ps_ret pe_bl)) pss_nil)
        (pss_one (ps_ret (pe_cmpR (r := rEqD K) (op_eqD hr.units) (pe_lc (own := [("_law_k", 2)]) (g := gName 2) rfl sc_l_alike.nd (pi_range1 rfl T.b_range (pa_cons (pe_callB (r := rLen K) call_len (by rfl) T.b_len (by decide +kernel) (pa_cons (pv 1) pa_nil)) pa_nil)) (blkOk_by (N := ["_law_found", "_law_due", "_law_k"]) (sc := defScope s_l_alike) (by decide +kernel)) (fun _ _ _ _ _ => (pg_name (i := 2) sc_l_alike.nd rfl (Or.inl rfl))) (fun _ _ _ _ _ => (pts_one (pt_not (pt_val (pe_call G_l_alike hr (by rfl) T.g__law_alike T.F_l_alike.kp T.bi_l_alike .nil pass0 (pa_cons (pe_ix (r := rIx K) ix_seq (pv 0) (pv 2) (fun _ _ => rfl)) (pa_cons (pe_ix (r := rIx K) ix_seq (pv 1) (pv 2) (fun _ _ => rfl)) pa_nil))))))) (fun _ _ _ _ _ => (pv 2))) (pe_lst pa_nil) (nomark _)))))) pss_nil)
      (pss_cons (ps_if (PW.pt (pw_or (pt_cmpR op_isN (pv 1) pe_non (nomark _)) (pw_or1 (pt_val (pe_callB (r := rIsi K) call_isi (by rfl) T.b_isinstance (by decide +kernel) (pa_cons (pv 1) (pa_cons (pe_bltn (v := .ty "str") (by rfl) T.b_str (by decide +kernel) rfl) pa_nil))))))) (pss_one (ps_ret (pe_and (pe_cmpR op_eq (pv 0) (pv 1) (nomark _)) (pe_one (pe_cmpR op_eq (pe_callB (r := rIsi K) call_isi (by rfl) T.b_isinstance (by decide +kernel) (pa_cons (pv 0) (pa_cons (pe_bltn (v := .ty "str") (by rfl) T.b_str (by decide +kernel) rfl) pa_nil))) (pe_callB (r := rIsi K) call_isi (by rfl) T.b_isinstance (by decide +kernel) (pa_cons (pv 1) (pa_cons (pe_bltn (v := .ty "str") (by rfl) T.b_str (by decide +kernel) rfl) pa_nil))) (nomark _)))))) pss_nil)
      (pss_one (ps_ret (pe_and (pe_callB (r := rIsi K) call_isi (by rfl) T.b_isinstance (by decide +kernel) (pa_cons (pv 0) (pa_cons (pe_bltn (v := .ty "int") (by rfl) T.b_int (by decide +kernel) rfl) pa_nil))) (pe_and (pe_cmpR op_eq (pe_callB (r := rIsi K) call_isi (by rfl) T.b_isinstance (by decide +kernel) (pa_cons (pv 0) (pa_cons (pe_bltn (v := .ty "bool") (by rfl) T.b_bool (by decide +kernel) rfl) pa_nil))) (pe_callB (r := rIsi K) call_isi (by rfl) T.b_isinstance (by decide +kernel) (pa_cons (pv 1) (pa_cons (pe_bltn (v := .ty "bool") (by rfl) T.b_bool (by decide +kernel) rfl) pa_nil))) (nomark _)) (pe_one (pe_cmpR op_eq (pv 0) (pv 1) (nomark _)))))))))), ?_⟩
    have e0 := env_start (N := ["_law_found", "_law_due", "_law_k"]) (AllP.cons hx (.cons hy .nil) : AllP w.g [dat K d, dat K d] [x, y])
    have ty0 : ∀ {n : String} {w1 : Wd} {j : Nat} {Γ : Sl}, Γ[j]? = some (some (dat K d)) -> EvA R0 Γ w1 (tCons (tVar j) (tCons (tC (.ty n)) tNil)) [dat K d, tyP n] := fun {n w1 j Γ} hj => ea_cons (ev_var hj) (ea_cons (ev_cp (p := tyP n) fun _ => rfl) ea_nil)
    have tyT : ∀ {w1 : Wd} {j : Nat} {Γ : Sl}, Γ[j]? = some (some (dat K d)) -> EvA R0 Γ w1 (tCons (tVar j) (tCons (tTup (tCons (tC (.ty "tuple")) (tCons (tC (.ty "list")) tNil))) tNil)) [dat K d, tupP [tyP "tuple", tyP "list"]] := fun {w1 j Γ} hj => ea_cons (ev_var hj) (ea_cons (ev_tupP (ea_cons (ev_cp (p := tyP "tuple") fun _ => rfl) (ea_cons (ev_cp (p := tyP "list") fun _ => rfl) ea_nil))) ea_nil)
    have nod : isDc d = false := by cases hx <;> rfl
    refine q_seq (q_if (et_B (ev_cb (ty0 rfl) (rc_isi (kitD d)))) e0 hO (fun hb => absurd hb (by rw [nod]; decide)) (fun hb w1 s1 e1 => q_next ?_))
    refine q_seq (q_if (et_B (ev_cb (tyT rfl) (rc_isiT2 (kitT d) (kitL d)))) e1 s1.ok (fun hb2 w2 s2 e2 => ?_) (fun hb2 w2 s2 e2 => q_next ?_))
    · -- a tuple or a list: the items
      have items : ∃ ds, (d = .tuple ds ∨ d = .list ds) := by
        cases d <;> first | exact ⟨_, .inl rfl⟩ | exact ⟨_, .inr rfl⟩ | (exfalso; revert hb2; simp [isTp, isL]; done)
      obtain ⟨ds, hds⟩ := items
      have hft : ds.length ≤ 1000 ∧ ftAll ds = true := by
        rcases hds with rfl | rfl <;> (simp only [ft, Bool.and_eq_true] at hf; exact ⟨of_decide_eq_true hf.1, hf.2⟩)
      have hdep : ∀ e ∈ ds, e.depth < n := fun e m => by
        have := depthAll_mem m
        rcases hds with rfl | rfl <;> (simp only [PyData.depth] at hd; omega)
      have ix : ∀ {w3 : Wd} {j : Nat} {i : Nat} {e : PyData}, ds[i]? = some e -> (j = 0 ∨ j = 1) -> Ev R0 [some (dat K d), some (dat K d), some (dat K (.int i))] w3 (tOp (rIx K) (tVar j) (tVar 2)) (dat K e) := fun {w3 j i e} hi hj => by
        have v1 : Ev R0 [some (dat K d), some (dat K d), some (dat K (.int i))] w3 (tVar j) (dat K d) := by
          rcases hj with rfl | rfl
          · exact ev_var rfl
          · exact ev_var rfl
        have v2 : Ev R0 [some (dat K d), some (dat K d), some (dat K (.int i))] w3 (tVar 2) (dat K (.int i)) := ev_var rfl
        rcases hds with rfl | rfl
        · exact ev_op v1 v2 (rv_ixT (atI_nat hi))
        · exact ev_op v1 v2 (rv_ixL (atI_nat hi))
      have lenE : ∀ {w3 : Wd} {j : Nat} {Γ : Sl}, Γ[j]? = some (some (dat K d)) -> Ev R0 Γ w3 (tCB (rLen K) (tCons (tVar j) tNil)) (dat K (.int (ds.length : Int))) := fun {w3 j Γ} hj => by
        have v1 : EvA R0 Γ w3 (tCons (tVar j) tNil) [dat K d] := ea_cons (ev_var hj) ea_nil
        rcases hds with rfl | rfl
        · exact ev_cb v1 rc_lenT
        · exact ev_cb v1 rc_lenL
      refine q_seq (q_if (et_or (et_not (et_B (ev_cb (tyT rfl) (rc_isiT2 (kitT d) (kitL d))))) fun _ => et_test (ev_op (ev_cb (ty0 rfl) (rc_isi (kitL d))) (ev_cb (ty0 rfl) (rc_isi (kitL d))) (rv_ne rfl))) e2 s2.ok (fun hb3 => absurd hb3 ?_) (fun hb3 w3 s3 e3 => q_next ?_))
      · rw [hb2]
        show ¬ (!true || !decide (isL d = isL d)) = true
        simp
      refine q_seq (q_if (et_test (ev_op (lenE rfl) (lenE rfl) (rv_ne rfl))) e3 s3.ok (fun hb4 => absurd hb4 ?_) (fun hb4 w4 s4 e4 => q_next ?_))
      · show ¬ (!decide ((ds.length : Int) = ds.length)) = true
        simp
      have lc := ev_lcR (K := K) (R := R0) (Γ := [some (dat K d), some (dat K d), none]) (w := w4) (n := (ds.length : Int)) (j := 2) (tt := tNot (tB (tCall (spAlk K n) [] E0 (tCons (tOp (rIx K) (tVar 0) (tVar 2)) (tCons (tOp (rIx K) (tVar 1) (tVar 2)) tNil))))) (te := tVar 2) (fun _ => false) id (by omega) (by omega) (ea_cons (lenE (j := 1) rfl) ea_nil)
        (fun i hi w5 s5 => by
          have hi2 : i < ds.length := by omega
          have hm : ds[i] ∈ ds := List.getElem_mem hi2
          exact et_not (et_B (ev_call (ea_cons (ix (List.getElem?_eq_getElem hi2) (.inl rfl)) (ea_cons (ix (List.getElem?_eq_getElem hi2) (.inr rfl)) ea_nil)) (rs_alk (hdep _ hm) (ftAll_mem hft.2 hm)))))
        (fun i hi w5 s5 z => absurd z Bool.false_ne_true)
      have pk : picked (fun _ => false) id (intsD (ds.length : Int).toNat) = [] := by
        unfold picked
        rw [List.filter_eq_nil_iff.mpr (fun _ _ z => Bool.false_ne_true z)]
        rfl
      rw [pk] at lc
      refine q_ret (ev_op lc (ev_lst [] ea_nil) (rv_eqD (by decide) (by decide))) e4 s4.ok (fun v w5 s5 hv => ?_)
      cases hv
      exact k w5 ((((s1.trans s2).trans s3).trans s4).trans s5)
    · have sc : scl d d = true := by
        cases hx <;> first | rfl | (exfalso; revert hb2; simp [isTp, isL]; done)
      have sq1 : sq d d = true := by
        cases hx <;> first | (simp [sq]; done) | (exfalso; revert hb2; simp [isTp, isL]; done)
      refine q_seq (q_if (et_or (et_test (ev_op (ev_var rfl) ev_non ev_isN)) fun _ => et_B (ev_cb (ty0 rfl) (rc_isi (kitS d)))) e2 s2.ok (fun hb3 w3 s3 e3 => ?_) (fun hb3 w3 s3 e3 => q_next ?_))
      · refine q_ret (ev_andV (ev_op (ev_var rfl) (ev_var rfl) (rv_eq sc)) fun _ => ev_op (ev_cb (ty0 rfl) (rc_isi (kitS d))) (ev_cb (ty0 rfl) (rc_isi (kitS d))) (rv_eq rfl)) e3 s3.ok (fun v w4 s4 hv => ?_)
        have ev : (sq d d && sq (.bool (isS d)) (.bool (isS d))) = true := by
          rw [sq1]
          simp [sq]
        rw [ev] at hv
        cases hv
        exact k w4 (((s1.trans s2).trans s3).trans s4)
      · have hI : isI d = true := by
          cases hx <;> first | rfl | (exfalso; revert hb2; simp [isTp, isL]; done) | (exfalso; revert hb3; simp [isNo, isS]; done)
        refine q_ret (ev_andV (ev_cb (ty0 rfl) (rc_isi (kitI d))) fun _ => ev_andV (ev_op (ev_cb (ty0 rfl) (rc_isi (kitBl d))) (ev_cb (ty0 rfl) (rc_isi (kitBl d))) (rv_eq rfl)) fun _ => ev_op (ev_var rfl) (ev_var rfl) (rv_eq sc)) e3 s3.ok (fun v w4 s4 hv => ?_)
        have ev : (isI d && (sq (.bool (isB d)) (.bool (isB d)) && sq d d)) = true := by
          rw [sq1, hI]
          simp [sq]
        rw [ev] at hv
        cases hv
        exact k w4 (((s1.trans s2).trans s3).trans s4)
end
end Tf
namespace Tf
open PySem L2 PyProof.Rows
/-! ### a keyboard as an object -/
def kbF (kt : V) (sg : Str) (pd : Addr) : List (Str × V) := [("key_signs", kt), ("signs", .str sg), ("_places", .ref pd)]
def KbAt (K : Fr) (a : Ad) (v : V) (G : Hp) (ks : List Str) : Prop := ∃ x dx kt sg pd, v = .ref x ∧ G x = some (.ins a.C_Keyboard dx (kbF kt sg pd)) ∧ Dp K G kt (tS ks)
def kbP (K : Fr) (a : Ad) (ks : List Str) : Pd := ⟨fun v G => KbAt K a v G ks, fun v G G' k ⟨x, dx, kt, sg, pd, h1, h2, h3⟩ => ⟨x, dx, kt, sg, pd, h1, k _ _ h2, dp_mono K k _ _ h3⟩⟩
def spKLen (a : Ad) (K : Fr) : Sp := fun vs H Q _ => ∃ (w : Wd) (v : V) (ks : List Str), w.h = H ∧ vs = [v] ∧ Ok R0 w ∧ KbAt K a v w.g ks ∧ ∀ w', Stp R0 w w' → Q (.int (ks.length : Int)) w'.h
section
variable {P : Program} {W : World} {K : Fr} {mg : Str -> Option Value} {base : Heap} {a : Ad}
theorem kbF_key (kt : V) (sg : Str) (pd : Addr) : (kbF kt sg pd).lookup ("key_signs" : Str) = some kt := by
  unfold kbF
  simp [List.lookup]
theorem ok_klen (T : Txt K mg a) : FnOk P W K mg base CX0 1 a.f_Keyboard_len a.d_Keyboard_len ["self"] (spKLen a K) := by
  refine T.F_Keyboard_len.ok sc_Keyboard_len (fun vs H Q E h => ?_) (fun cdv A outer s H vs Q E hr h => ?_)
  · obtain ⟨w, v, ks, rfl, rfl, _⟩ := h
    rfl
  · obtain ⟨w, v, ks, rfl, rfl, hO, hk, k⟩ := h
    obtain ⟨x, dx, kt, sg, pd, rfl, hx, hkt⟩ := hk
    refine ⟨_, (pss_one (ps_ret (pe_callB (r := rLen K) call_len (by rfl) T.b_len (by decide +kernel) (pa_cons (pe_fld (pv 0) rfl) pa_nil)))), ?_⟩
    cases hkt with
    | tup hs ha =>
      refine ⟨.ref x, rfl, x, _, dx, _, _, rfl, hO.sub _ _ hx, T.cl_Keyboard, T.n_Keyboard_key_signs, kbF_key _ _ _, _, _, rfl, .inr ⟨_, sqT_mono K hO.sub hs, rfl⟩, ?_⟩
      have l := dpAll_len K ha
      rw [List.length_map] at l
      rw [l]
      exact k w (Stp.refl hO)
theorem rc_klen {R : Rg} {w : Wd} {ks : List Str} (hs : ks.length ≤ 1000) : RC R w (rLenO a.C_Keyboard (spKLen a K) E0) [kbP K a ks] (dat K (.int (ks.length : Int))) := fun xs w1 s1 hx Q k => by
  cases hx with
  | cons h t =>
    cases t
    have h2 := h
    obtain ⟨x, dx, kt, sg, pd, rfl, hx, hkt⟩ := h
    exact ⟨x, dx, _, rfl, s1.ok.sub _ _ hx, w1, _, ks, rfl, rfl, s1.ok.low, h2, fun w2 s2 => ⟨_, rfl, by omega, by omega, k _ w2 (s2.lift s1.ok) (.int _)⟩⟩
/-! ### faults -/
def relNum (ds : List PyData) (r : PyData) : Prop := ∃ d lo hi, ds = [d, .int lo, .int hi] ∧ r = .bool (num d lo hi)
theorem num_eq (d : PyData) (lo hi : Int) : (isI d && (!isB d && num d lo hi)) = num d lo hi := by
  cases d <;> simp [isI, isB, num]
theorem ok_isnum (T : Txt K mg a) : FnOk P W K mg base CX0 1 a.f_is_number a.d_is_number ["value", "low", "high"] (spR K relNum) := by
  refine T.F_is_number.ok sc_is_number (spR_len fun ds r h => ?_) (fun cdv A outer s H vs Q E hr h => ?_)
  · obtain ⟨d, lo, hi, rfl, _⟩ := h
    rfl
  · obtain ⟨w, ds, r, rfl, hO, hv, ⟨d, lo, hi, rfl, rfl⟩, k⟩ := h
    refine ⟨_, (pss_one (ps_ret (pe_and (pe_callB (r := rIsi K) call_isi (by rfl) T.b_isinstance (by decide +kernel) (pa_cons (pv 0) (pa_cons (pe_bltn (v := .ty "int") (by rfl) T.b_int (by decide +kernel) rfl) pa_nil))) (pe_and (pe_not (pe_callB (r := rIsi K) call_isi (by rfl) T.b_isinstance (by decide +kernel) (pa_cons (pv 0) (pa_cons (pe_bltn (v := .ty "bool") (by rfl) T.b_bool (by decide +kernel) rfl) pa_nil)))) (pe_one (pe_chain op_le op_le (pv 1) (pv 0) (pv 2))))))), ?_⟩
    have e0 := env_start (N := ["value", "low", "high"]) (allP_of hv)
    refine q_ret (Ev.to (ev_andV (ev_cb (ea_cons (ev_var rfl) (ea_cons (ev_cp (p := tyP "int") fun _ => rfl) ea_nil)) (rc_isi (kitI d))) fun h1 => ev_andV (ev_notV (ev_cb (ea_cons (ev_var rfl) (ea_cons (ev_cp (p := tyP "bool") fun _ => rfl) ea_nil)) (rc_isi (kitBl d)))) fun h2 => (?_ : Ev R0 _ _ _ (dat K (.bool (num d lo hi))))) (congrArg PyData.bool (num_eq d lo hi))) e0 hO k
    obtain ⟨n, rfl⟩ : ∃ n, d = .int n := by
      cases d <;> first | exact ⟨_, rfl⟩ | (simp [isI] at h1; done) | (simp [isB] at h2; done)
    exact ev_chain (ev_var rfl) (ev_var rfl) rv_le (fun _ => ev_var rfl) (fun _ => rv_le)
theorem word_shaped (f : Ft) : SeqAt.shaped (.str f.word) = true := by cases f <;> simp only [Ft.word] <;> decide +kernel
/-- one of these words -/
def isW (ws : List PyData) (f : Ft) : Bool := ws.any fun z => PyData.eqv z (.str f.word)
abbrev ws3 : List PyData := [.str "dead", .str "double", .str "stuck"]
abbrev ws4 : List PyData := [.str "dead", .str "double", .str "stuck", .str "swap"]
abbrev ws2 : List PyData := [.str "down", .str "up"]
theorem isW_of {ws : List PyData} {f g : Ft} (h : f.word = g.word) : isW ws f = isW ws g := by unfold isW; rw [h]
theorem w3_yes {f : Ft} (h : isW ws3 f = true) : ∃ k, f.nums = [k] ∧ ∀ nk wd, f.inR nk wd = num k 0 (nk - 1) := by
  cases f <;> first | exact ⟨_, rfl, fun _ _ => rfl⟩ | (exfalso; revert h; simp only [isW, Ft.word]; decide +kernel)
theorem sw_yes {f : Ft} (h : sq (.str f.word) (.str "swap") = true) : ∃ i j, f = .swap i j := by
  cases f <;> first | exact ⟨_, _, rfl⟩ | (exfalso; revert h; simp only [Ft.word]; decide +kernel)
theorem sl_yes {f : Ft} (h : sq (.str f.word) (.str "slip") = true) : ∃ c, f = .slip c := by
  cases f <;> first | exact ⟨_, rfl⟩ | (exfalso; revert h; simp only [Ft.word]; decide +kernel)
theorem fd_yes {f : Ft} (h : sq (.str f.word) (.str "feed") = true) : ∃ c, f = .feed c := by
  cases f <;> first | exact ⟨_, rfl⟩ | (exfalso; revert h; simp only [Ft.word]; decide +kernel)
theorem rest_yes {f : Ft} (h1 : isW ws3 f = false) (h2 : sq (.str f.word) (.str "swap") = false) (h3 : sq (.str f.word) (.str "slip") = false) (h4 : sq (.str f.word) (.str "feed") = false) : ∀ nk wd, f.inR nk wd = true := by
  cases f <;> first | exact fun _ _ => rfl | (exfalso; revert h1; simp only [isW, Ft.word]; decide +kernel) | (exfalso; revert h2; simp only [Ft.word]; decide +kernel) | (exfalso; revert h3; simp only [Ft.word]; decide +kernel) | (exfalso; revert h4; simp only [Ft.word]; decide +kernel)
def spFir (a : Ad) (K : Fr) : Sp := fun vs H Q _ => ∃ (w : Wd) (v u : V) (ks : List Str) (wd : Int) (f : Ft), w.h = H ∧ vs = [v, .int wd, u] ∧ Ok R0 w ∧ KbAt K a v w.g ks ∧ ks.length ≤ 1000 ∧ Dp K w.g u f.enc ∧ f.ok ∧ ∀ w', Stp R0 w w' → Q (.bl (f.inR ks.length wd)) w'.h
theorem rs_fir {R : Rg} {w : Wd} {ks : List Str} {wd : Int} {f : Ft} (hs : ks.length ≤ 1000) (hf : f.ok) : RS R w (spFir a K) [kbP K a ks, dat K (.int wd), dat K f.enc] (dat K (.bool (f.inR ks.length wd))) := fun xs w1 s1 hx Q k E => by
  cases hx with
  | cons h1 t =>
    cases t with
    | cons h2 t =>
      cases t with
      | cons h3 t =>
        cases t
        cases h2
        exact ⟨w1, _, _, ks, wd, f, rfl, rfl, s1.ok.low, h1, hs, h3, hf, fun w2 s2 => k _ w2 (s2.lift s1.ok) (.bl _)⟩
theorem ok_fir (T : Txt K mg a) : FnOk P W K mg base CX0 3 a.f_fault_in_range a.d_fault_in_range ["keyboard", "width", "fault"] (spFir a K) := by
  have G_is_number := ok_isnum (P := P) (W := W) (base := base) T
  have G_Keyboard_len := ok_klen (P := P) (W := W) (base := base) T
  refine T.F_fault_in_range.ok sc_fault_in_range (fun vs H Q E h => ?_) (fun cdv A outer s H vs Q E hr h => ?_)
  · obtain ⟨w, v, u, ks, wd, f, rfl, rfl, _⟩ := h
    rfl
  · obtain ⟨w, v, u, ks, wd, f, rfl, rfl, hO, hk, hks, hu, hf, k⟩ := h
    refine ⟨_, (pss_cons (ps_set (i := 3) sc_fault_in_range.nd rfl (Or.inl rfl) (pe_ix (r := rIx K) ix_seq (pv 2) pe_int (fun _ _ => rfl)))
      (pss_cons (ps_set (i := 4) sc_fault_in_range.nd rfl (Or.inl rfl) (pe_op op_sub (pe_callB (r := rLenO a.C_Keyboard (spKLen a K) E0) (call_lenO G_Keyboard_len (hr.mono (by decide)) T.m_Keyboard_len.at_ T.m_Keyboard_len.fn T.bi_Keyboard_len pass0) (by rfl) T.b_len (by decide +kernel) (pa_cons (pv 0) pa_nil)) pe_int))
      (pss_cons (ps_if (pt_cmpR (r := rInA K false) (op_inA (hu65 hr)) (pv 3) (pe_tup (pa_cons pe_str (pa_cons pe_str (pa_cons pe_str pa_nil)))) (by rfl)) (pss_one (ps_ret (pe_call G_is_number (hr.mono (by decide)) (by rfl) T.g_is_number T.F_is_number.kp T.bi_is_number .nil pass0 (pa_cons (pe_ix (r := rIx K) ix_seq (pv 2) pe_int (fun _ _ => rfl)) (pa_cons pe_int (pa_cons (pv 4) pa_nil)))))) pss_nil)
      (pss_cons (ps_if (pt_cmpR op_eq (pv 3) pe_str (nomark _)) (pss_one (ps_ret (pe_and (pe_call G_is_number (hr.mono (by decide)) (by rfl) T.g_is_number T.F_is_number.kp T.bi_is_number .nil pass0 (pa_cons (pe_ix (r := rIx K) ix_seq (pv 2) pe_int (fun _ _ => rfl)) (pa_cons pe_int (pa_cons (pv 4) pa_nil)))) (pe_one (pe_call G_is_number (hr.mono (by decide)) (by rfl) T.g_is_number T.F_is_number.kp T.bi_is_number .nil pass0 (pa_cons (pe_ix (r := rIx K) ix_seq (pv 2) pe_int (fun _ _ => rfl)) (pa_cons pe_int (pa_cons (pe_op op_sub (pe_ix (r := rIx K) ix_seq (pv 2) pe_int (fun _ _ => rfl)) pe_int) pa_nil)))))))) pss_nil)
      (pss_cons (ps_if (pt_cmpR op_eq (pv 3) pe_str (nomark _)) (pss_one (ps_ret (pe_call G_is_number (hr.mono (by decide)) (by rfl) T.g_is_number T.F_is_number.kp T.bi_is_number .nil pass0 (pa_cons (pe_ix (r := rIx K) ix_seq (pv 2) pe_int (fun _ _ => rfl)) (pa_cons pe_int (pa_cons (pe_op op_sub (pv 1) pe_int) pa_nil)))))) pss_nil)
      (pss_cons (ps_if (pt_cmpR op_eq (pv 3) pe_str (nomark _)) (pss_one (ps_ret (pe_and (pe_call G_is_number (hr.mono (by decide)) (by rfl) T.g_is_number T.F_is_number.kp T.bi_is_number .nil pass0 (pa_cons (pe_ix (r := rIx K) ix_seq (pv 2) pe_int (fun _ _ => rfl)) (pa_cons pe_int (pa_cons pe_int pa_nil)))) (pe_one (pe_cmpR op_ne (pe_ix (r := rIx K) ix_seq (pv 2) pe_int (fun _ _ => rfl)) pe_int (nomark _)))))) pss_nil)
      (pss_one (ps_ret pe_bl)))))))), ?_⟩
    have e0 := env_start (N := ["keyboard", "width", "fault", "word", "last_key"]) (AllP.cons hk (.cons (.int wd) (.cons hu .nil)) : AllP w.g [kbP K a ks, dat K (.int wd), dat K f.enc] [v, .int wd, u])
    refine q_seq (q_asg (ev_op (ev_var rfl) ev_int (rv_ixT (atI_nat (j := 0) rfl))) e0 hO fun σ1 w1 s1 e1 => ?_)
    refine q_seq (q_asg (ev_op (ev_cb (ea_cons (ev_var (p := kbP K a ks) rfl) ea_nil) (rc_klen hks)) ev_int rv_sub) e1 s1.ok fun σ2 w2 s2 e2 => ?_)
    have st2 := s1.trans s2
    have one : ∀ {w3 : Wd} {d : PyData} {i : Nat} {Γ : Sl}, f.nums[i]? = some d → Γ[2]? = some (some (dat K f.enc)) → Ev R0 Γ w3 (tOp (rIx K) (tVar 2) (tC (.int ((i + 1 : Nat) : Int)))) (dat K d) := fun {w3 d i Γ} hi hg =>
      ev_op (ev_var hg) ev_int (rv_ixT (atI_nat (j := i + 1) (by rw [List.getElem?_cons_succ]; exact hi)))
    have fin : ∀ {w3 : Wd} {r : Bool}, Stp R0 w w3 → r = f.inR ks.length wd → ∀ v w', Stp R0 w3 w' → (dat K (.bool r)).P v w'.g → Q v w'.h := fun {w3 r} st e v w' s' hv => by
      subst e
      cases hv
      exact k w' (st.trans s')
    refine q_seq (q_if (et_test (ev_op (ev_var rfl) (ev_tup ws3 (ea_cons ev_str (ea_cons ev_str (ea_cons ev_str ea_nil)))) (rv_inT (neg := false) (word_shaped f) (by decide +kernel)))) e2 s2.ok (fun hb w3 s3 e3 => ?_) (fun hb w3 s3 e3 => q_next ?_))
    · obtain ⟨x, hx, hi⟩ := w3_yes hb
      exact q_ret (ev_callR (ds := [x, .int 0, .int ((ks.length : Int) - 1)]) (ea_cons (one (i := 0) (by rw [hx]; rfl) rfl) (ea_cons ev_int (ea_cons (ev_var rfl) ea_nil))) ⟨_, _, _, rfl, rfl⟩) e3 s3.ok (fin (st2.trans s3) (hi _ _).symm)
    refine q_seq (q_if (et_test (ev_op (ev_var rfl) ev_str (rv_eq rfl))) e3 s3.ok (fun hb2 w4 s4 e4 => ?_) (fun hb2 w4 s4 e4 => q_next ?_))
    · obtain ⟨i, j, rfl⟩ := sw_yes hb2
      refine q_ret (ev_andV (ev_callR (ds := [j, .int 0, .int ((ks.length : Int) - 1)]) (ea_cons (one (i := 1) rfl rfl) (ea_cons ev_int (ea_cons (ev_var rfl) ea_nil))) ⟨_, _, _, rfl, rfl⟩) fun hj => ev_callR (ds := [i, .int 0, .int (toI j - 1)]) (ea_cons (one (i := 0) rfl rfl) (ea_cons ev_int (ea_cons (ev_op (?_ : Ev R0 _ _ _ (dat K (.int (toI j)))) ev_int rv_sub) ea_nil))) ⟨_, _, _, rfl, rfl⟩) e4 s4.ok (fin ((st2.trans s3).trans s4) rfl)
      have ej : j = .int (toI j) := by
        cases j <;> first | rfl | (simp [num] at hj; done)
      exact Ev.to (one (i := 1) (d := j) rfl rfl) ej
    refine q_seq (q_if (et_test (ev_op (ev_var rfl) ev_str (rv_eq rfl))) e4 s4.ok (fun hb3 w5 s5 e5 => ?_) (fun hb3 w5 s5 e5 => q_next ?_))
    · obtain ⟨c, rfl⟩ := sl_yes hb3
      exact q_ret (ev_callR (ds := [c, .int 1, .int (wd - 2)]) (ea_cons (one (i := 0) rfl rfl) (ea_cons ev_int (ea_cons (ev_op (ev_var rfl) ev_int rv_sub) ea_nil))) ⟨_, _, _, rfl, rfl⟩) e5 s5.ok (fin (((st2.trans s3).trans s4).trans s5) rfl)
    refine q_seq (q_if (et_test (ev_op (ev_var rfl) ev_str (rv_eq rfl))) e5 s5.ok (fun hb4 w6 s6 e6 => ?_) (fun hb4 w6 s6 e6 => q_next ?_))
    · obtain ⟨c, rfl⟩ := fd_yes hb4
      refine q_ret (ev_andV (ev_callR (ds := [c, .int 0, .int 2]) (ea_cons (one (i := 0) rfl rfl) (ea_cons ev_int (ea_cons ev_int ea_nil))) ⟨_, _, _, rfl, rfl⟩) fun hc => (?_ : Ev R0 _ _ _ (dat K (.bool (!decide (toI c = 1)))))) e6 s6.ok (fin ((((st2.trans s3).trans s4).trans s5).trans s6) rfl)
      obtain ⟨n, rfl⟩ : ∃ n, c = .int n := by
        cases c <;> first | exact ⟨_, rfl⟩ | (simp [num] at hc; done)
      exact ev_op (one (i := 0) rfl rfl) ev_int (rv_ne rfl)
    · dsimp only
      refine q_ret (ev_bl (K := K) (b := true)) e6 s6.ok ?_
      exact fin ((((st2.trans s3).trans s4).trans s5).trans s6) (rest_yes hb hb2 hb3 hb4 _ _).symm
end
end Tf
namespace Tf
open PySem L2 PyProof.Rows
theorem EnvOk.forget {G : Hp} : ∀ {Γ : Sl} {σ : L2.St} (i : Nat), EnvOk G Γ σ -> EnvOk G (Γ.set i none) σ
  | _, _, _, .nil => by simp; exact .nil
  | _, _, 0, .hole t => .hole t
  | _, _, 0, .full _ t => .hole t
  | _, _, i + 1, .hole t => .hole (EnvOk.forget i t)
  | _, _, i + 1, .full q t => .full q (EnvOk.forget i t)
section
variable {K : Fr} {R : Rg} {Γ : Sl} {w : Wd}
theorem et_yes : EvT R Γ w tYes true := fun σ w1 e a Q k => k w1 (Stp.refl a.ok)
theorem picked_all (g : PyData -> PyData) (ds : List PyData) : picked (fun _ => true) g ds = ds.map g := by
  unfold picked
  rw [List.filter_eq_self.mpr fun _ _ => rfl]
end
theorem w4_yes {f : Ft} (h : isW ws4 f = true) : f.cl = f.nums.map keyD := by
  cases f <;> first | rfl | (exfalso; revert h; simp only [isW, Ft.word]; decide +kernel)
theorem w2_yes {f : Ft} (h1 : isW ws4 f = false) (h : isW ws2 f = true) : f.cl = [.tuple [.str "lock"]] := by
  cases f <;> first | rfl | (exfalso; revert h; simp only [isW, Ft.word]; decide +kernel)
theorem cfd_yes {f : Ft} (h : sq (.str f.word) (.str "feed") = true) : f.cl = [.tuple [.str "feed"]] := by
  obtain ⟨c, rfl⟩ := fd_yes h
  rfl
theorem crest_yes {f : Ft} (h1 : isW ws4 f = false) (h2 : isW ws2 f = false) (h4 : sq (.str f.word) (.str "feed") = false) : f.cl = [f.enc] := by
  cases f <;> first | rfl | (exfalso; revert h1; simp only [isW, Ft.word]; decide +kernel) | (exfalso; revert h2; simp only [isW, Ft.word]; decide +kernel) | (exfalso; revert h4; simp only [Ft.word]; decide +kernel)
theorem one_le : 1 ≤ 100000 := by decide
theorem two_le : 2 ≤ 100000 := by decide
def relCl (ds : List PyData) (r : PyData) : Prop := ∃ f : Ft, ds = [f.enc] ∧ r = .list f.cl ∧ f.ok
def relClash (L : List PyData -> PyData) (ds : List PyData) (r : PyData) : Prop := ∃ (f : Ft) (gs : List Ft), ds = [f.enc, L (encs gs)] ∧ r = .bool (gs.any fun g => clash f g) ∧ f.ok ∧ (∀ g ∈ gs, g.ok) ∧ gs.length ≤ 1000
theorem cut_tail (x : PyData) (ds : List PyData) : cutD (x :: ds) (some 1) none = ds := by
  unfold cutD
  have e1 : HT.sIx (x :: ds).length 0 (some 1) = 1 := by
    rw [show (1 : Int) = ((1 : Nat) : Int) from rfl, HT.sIx_nat]
    simp
  have e2 : HT.sIx (x :: ds).length (x :: ds).length none = (x :: ds).length := rfl
  rw [e1, e2]
  simp
section
variable {P : Program} {W : World} {K : Fr} {mg : Str -> Option Value} {base : Heap} {a : Ad}
theorem ok_claims (T : Txt K mg a) : FnOk P W K mg base CX0 1 a.f_claims a.d_claims ["fault"] (spR K relCl) := by
  refine T.F_claims.ok sc_claims (spR_len fun ds r h => ?_) (fun cdv A outer s H vs Q E hr h => ?_)
  · obtain ⟨f, rfl, _⟩ := h
    rfl
  · obtain ⟨w, ds, r, rfl, hO, hv, ⟨f, rfl, rfl, hf⟩, k⟩ := h
    refine ⟨_, (pss_cons (ps_set (i := 1) sc_claims.nd rfl (Or.inl rfl) (pe_ix (r := rIx K) ix_seq (pv 0) pe_int (fun _ _ => rfl)))
      (pss_cons (ps_if (pt_cmpR (r := rInA K false) (op_inA (hu65 hr)) (pv 1) (pe_tup (pa_cons pe_str (pa_cons pe_str (pa_cons pe_str (pa_cons pe_str pa_nil))))) (by rfl)) (pss_one (ps_ret (pe_lc (own := [("key", 2)]) (g := gName 2) rfl sc_claims.nd (pi_tup (pe_slice (r := rSlA K) sl_tupA (pv 0) (po_some pe_int) po_none)) (blkOk_by (N := ["fault", "word", "key"]) (sc := defScope s_claims) (by decide +kernel)) (fun _ _ _ _ _ => (pg_name (i := 2) sc_claims.nd rfl (Or.inl rfl))) (fun _ _ _ _ _ => pts_nil) (fun _ _ _ _ _ => (pe_tup (pa_cons pe_str (pa_cons (pv 2) pa_nil))))))) pss_nil)
      (pss_cons (ps_if (pt_cmpR (r := rInA K false) (op_inA (hu65 hr)) (pv 1) (pe_tup (pa_cons pe_str (pa_cons pe_str pa_nil))) (by rfl)) (pss_one (ps_ret (pe_lst (pa_cons (pe_tup (pa_cons pe_str pa_nil)) pa_nil)))) pss_nil)
      (pss_cons (ps_if (pt_cmpR op_eq (pv 1) pe_str (nomark _)) (pss_one (ps_ret (pe_lst (pa_cons (pe_tup (pa_cons pe_str pa_nil)) pa_nil)))) pss_nil)
      (pss_one (ps_ret (pe_lst (pa_cons (pv 0) pa_nil)))))))), ?_⟩
    have e0 := env_start (N := ["fault", "word", "key"]) (allP_of hv)
    refine q_seq (q_asg (ev_op (ev_var rfl) ev_int (rv_ixT (atI_nat (j := 0) rfl))) e0 hO fun σ1 w1 s1 e1 => ?_)
    refine q_seq (q_if (et_test (ev_op (ev_var rfl) (ev_tup ws4 (ea_cons ev_str (ea_cons ev_str (ea_cons ev_str (ea_cons ev_str ea_nil))))) (rv_inT (neg := false) (word_shaped f) (by decide +kernel)))) e1 s1.ok (fun hb w2 s2 e2 => ?_) (fun hb w2 s2 e2 => q_next ?_))
    · have hn : f.nums.length ≤ 100000 := by cases f <;> simp [Ft.nums]
      have sl := ev_slT (w := w2) (R := R0) (K := K) (Γ := [some (dat K f.enc), some (dat K (.str f.word)), none]) (ds := .str f.word :: f.nums) (ev_var (p := dat K f.enc) (i := 0) rfl) (eo_some (i := 1) (ev_int (K := K))) eo_none
      rw [cut_tail] at sl
      refine q_ret (Ev.to (ev_lcT (fun _ => true) keyD hn sl (fun i d hi w3 s3 => et_yes) (fun i d hi w3 s3 _ => ev_tup [.str "key", d] (ea_cons ev_str (ea_cons (ev_var rfl) ea_nil)) (hl := two_le))) (d' := .list f.cl) ?_) e2 s2.ok fun v w3 s3 hv => k v w3 ((s1.trans s2).trans s3) hv
      rw [picked_all, w4_yes hb]
    refine q_seq (q_if (et_test (ev_op (ev_var rfl) (ev_tup ws2 (ea_cons ev_str (ea_cons ev_str ea_nil))) (rv_inT (neg := false) (word_shaped f) (by decide +kernel)))) e2 s2.ok (fun hb2 w3 s3 e3 => ?_) (fun hb2 w3 s3 e3 => q_next ?_))
    · exact q_ret (Ev.to (ev_lst [.tuple [.str "lock"]] (ea_cons (ev_tup [.str "lock"] (ea_cons ev_str ea_nil)) ea_nil)) (congrArg PyData.list (w2_yes hb hb2).symm)) e3 s3.ok fun v w4 s4 hv => k v w4 (((s1.trans s2).trans s3).trans s4) hv
    refine q_seq (q_if (et_test (ev_op (ev_var rfl) ev_str (rv_eq rfl))) e3 s3.ok (fun hb3 w4 s4 e4 => ?_) (fun hb3 w4 s4 e4 => q_next ?_))
    · exact q_ret (Ev.to (ev_lst [.tuple [.str "feed"]] (ea_cons (ev_tup [.str "feed"] (ea_cons ev_str ea_nil)) ea_nil)) (congrArg PyData.list (cfd_yes hb3).symm)) e4 s4.ok fun v w5 s5 hv => k v w5 ((((s1.trans s2).trans s3).trans s4).trans s5) hv
    · exact q_ret (Ev.to (ev_lst [f.enc] (ea_cons (ev_var rfl) ea_nil) (hl := one_le)) (congrArg PyData.list (crest_yes hb hb2 hb3).symm)) e4 s4.ok fun v w5 s5 hv => k v w5 ((((s1.trans s2).trans s3).trans s4).trans s5) hv
theorem ok_clashes_T (T : Txt K mg a) : FnOk P W K mg base CX0 2 a.f_clashes a.d_clashes ["fault", "others"] (spR K (relClash .tuple)) := by
  have G_claims := ok_claims (P := P) (W := W) (base := base) T
  refine T.F_clashes.ok sc_clashes (spR_len fun ds r h => ?_) (fun cdv A outer s H vs Q E hr h => ?_)
  · obtain ⟨f, gs, rfl, _⟩ := h
    rfl
  · obtain ⟨w, ds, r, rfl, hO, hv, ⟨f, gs, rfl, rfl, hf, hgs, hln⟩, k⟩ := h
    refine ⟨_, (pss_cons (ps_set (i := 2) sc_clashes.nd rfl (Or.inr rfl) (pe_call G_claims (hr.mono (by decide)) (by rfl) T.g_claims T.F_claims.kp T.bi_claims .nil pass0 (pa_cons (pv 0) pa_nil)))
      (pss_cons (ps_for PassesOwn.never rfl (pi_tup (pv 1)) (pg_name (i := 3) sc_clashes.nd rfl (Or.inl rfl))
        (pss_one (ps_if (pt_val (pe_callB (cr_any rfl) (by rfl) T.b_any (by decide +kernel) (pa_cons (pe_lc (own := [("claim", 4)]) (g := gName 4) rfl sc_clashes.nd (pi_list (pe_call G_claims (hr.mono (by decide)) (by rfl) T.g_claims T.F_claims.kp T.bi_claims .nil pass0 (pa_cons (pv 3) pa_nil))) (blkOk_by (N := ["fault", "others", "claimed", "other", "claim"]) (sc := defScope s_clashes) (by decide +kernel)) (fun _ _ _ _ _ => (pg_name (i := 4) sc_clashes.nd rfl (Or.inl rfl))) (fun _ _ _ _ _ => pts_nil) (fun _ _ _ _ _ => (pe_cmpR (r := rInA K false) (op_inA (hu65 hr)) (pv 4) (pv 2) (by rfl)))) pa_nil))) (pss_one (ps_ret pe_bl)) pss_nil)))
      (pss_one (ps_ret pe_bl)))), ?_⟩
    have e0 := env_start (N := ["fault", "others", "claimed", "other", "claim"]) (allP_of hv)
    refine q_seq (q_asg (ev_callR (ds := [f.enc]) (r := .list f.cl) (ea_cons (ev_var rfl) ea_nil) ⟨f, rfl, rfl, hf⟩) e0 hO fun σ1 w1 s1 e1 => ?_)
    refine q_seq (q_forT (ds := encs gs) (ev_var (p := dat K (.tuple (encs gs))) rfl) e1 s1.ok fun w2 s2 e2 => ⟨fun i σ' w' => Stp R0 w2 w' ∧ EnvOk w'.g [some (dat K f.enc), some (dat K (.tuple (encs gs))), some (dat K (.list f.cl)), none, none] σ' ∧ ((gs.take i).any fun g => clash f g) = false,
      ⟨Stp.refl s2.ok, e2, rfl⟩, fun i σ' w' h => h.1.fst, fun i σ' w' N hi hI hN d v hd hv => ?_, fun σ' w' hI => ?_⟩)
    · obtain ⟨st, en, hno⟩ := hI
      rw [encs_len] at hi
      have hg : gs[i]? = some gs[i] := List.getElem?_eq_getElem hi
      have hd2 : d = gs[i].enc := by
        unfold encs at hd
        rw [List.getElem?_map, hg] at hd
        exact (Option.some.inj hd).symm
      subst hd2
      have gok := hgs _ (List.getElem_mem hi)
      have en2 := en.set (p := dat K gs[i].enc) hv 3
      have cm : Ev R0 (([some (dat K f.enc), some (dat K (.tuple (encs gs))), some (dat K (.list f.cl)), none, none] : Sl).set 3 (some (dat K gs[i].enc))) w' (tLc (iList K (tCall (spR K relCl) [] E0 (tCons (tVar 3) tNil))) (gName 4) tYes (tOp (rInA K false) (tVar 4) (tVar 2)) [4]) (dat K (.list ((gs[i].cl.map fun c => f.cl.any fun z => PyData.eqv z c).map .bool))) := by
        have q := ev_lcL (K := K) (R := R0) (w := w') (Γ := ([some (dat K f.enc), some (dat K (.tuple (encs gs))), some (dat K (.list f.cl)), none, none] : Sl).set 3 (some (dat K gs[i].enc))) (j := 4) (tl := tCall (spR K relCl) [] E0 (tCons (tVar 3) tNil)) (te := tOp (rInA K false) (tVar 4) (tVar 2)) (tt := tYes) (ds := gs[i].cl) (fun _ => true) (fun c => .bool (f.cl.any fun z => PyData.eqv z c)) (Nat.le_trans (cl_len _) (by decide))
          (ev_callR (ds := [gs[i].enc]) (ea_cons (ev_var rfl) ea_nil) ⟨gs[i], rfl, rfl, gok⟩) (fun j c hc w3 s3 => et_yes)
          (fun j c hc w3 s3 _ => ev_op (ev_var rfl) (ev_var rfl) (rv_inL (neg := false) (shaped_of (cl_lay gok c (List.mem_of_getElem? hc))) (shaped_list fun d m => by have := cl_lay hf d m; exact ⟨this.1, by omega⟩)))
        rw [picked_all] at q
        rw [List.map_map]
        exact q
      refine q_if (et_B (ev_cb (ea_cons cm ea_nil) rc_any)) en2 st.ok (fun hb w3 s3 e3 => ?_) (fun hb w3 s3 e3 => q_next (hN _ _ ⟨st.trans s3, e3.forget 3, ?_⟩))
      · refine q_ret (ev_bl (K := K) (b := true)) e3 s3.ok fun v w4 s4 hv => ?_
        have ea : (gs.any fun g => clash f g) = true := List.any_eq_true.mpr ⟨gs[i], List.getElem_mem hi, by
          unfold clash
          rw [List.any_map] at hb
          exact hb⟩
        rw [ea] at k
        exact k v w4 ((((s1.trans s2).trans st).trans s3).trans s4) hv
      · rw [take_snoc hg, List.any_append, hno]
        rw [List.any_map] at hb
        show (false || (clash f gs[i] || false)) = false
        rw [Bool.false_or, Bool.or_false]
        exact hb
    · obtain ⟨st, en, hno⟩ := hI
      rw [encs_len, List.take_length] at hno
      rw [hno] at k
      dsimp only
      exact q_ret (ev_bl (K := K) (b := false)) en st.ok fun v w4 s4 hv => k v w4 (((s1.trans s2).trans st).trans s4) hv
theorem ok_clashes_L (T : Txt K mg a) : FnOk P W K mg base CX0 2 a.f_clashes a.d_clashes ["fault", "others"] (spR K (relClash .list)) := by
  have G_claims := ok_claims (P := P) (W := W) (base := base) T
  refine T.F_clashes.ok sc_clashes (spR_len fun ds r h => ?_) (fun cdv A outer s H vs Q E hr h => ?_)
  · obtain ⟨f, gs, rfl, _⟩ := h
    rfl
  · obtain ⟨w, ds, r, rfl, hO, hv, ⟨f, gs, rfl, rfl, hf, hgs, hln⟩, k⟩ := h
    refine ⟨_, (pss_cons (ps_set (i := 2) sc_clashes.nd rfl (Or.inr rfl) (pe_call G_claims (hr.mono (by decide)) (by rfl) T.g_claims T.F_claims.kp T.bi_claims .nil pass0 (pa_cons (pv 0) pa_nil)))
      (pss_cons (ps_for PassesOwn.never rfl (pi_list (pv 1)) (pg_name (i := 3) sc_clashes.nd rfl (Or.inl rfl))
        (pss_one (ps_if (pt_val (pe_callB (cr_any rfl) (by rfl) T.b_any (by decide +kernel) (pa_cons (pe_lc (own := [("claim", 4)]) (g := gName 4) rfl sc_clashes.nd (pi_list (pe_call G_claims (hr.mono (by decide)) (by rfl) T.g_claims T.F_claims.kp T.bi_claims .nil pass0 (pa_cons (pv 3) pa_nil))) (blkOk_by (N := ["fault", "others", "claimed", "other", "claim"]) (sc := defScope s_clashes) (by decide +kernel)) (fun _ _ _ _ _ => (pg_name (i := 4) sc_clashes.nd rfl (Or.inl rfl))) (fun _ _ _ _ _ => pts_nil) (fun _ _ _ _ _ => (pe_cmpR (r := rInA K false) (op_inA (hu65 hr)) (pv 4) (pv 2) (by rfl)))) pa_nil))) (pss_one (ps_ret pe_bl)) pss_nil)))
      (pss_one (ps_ret pe_bl)))), ?_⟩
    have e0 := env_start (N := ["fault", "others", "claimed", "other", "claim"]) (allP_of hv)
    refine q_seq (q_asg (ev_callR (ds := [f.enc]) (r := .list f.cl) (ea_cons (ev_var rfl) ea_nil) ⟨f, rfl, rfl, hf⟩) e0 hO fun σ1 w1 s1 e1 => ?_)
    refine q_seq (q_forL (ds := encs gs) (ev_var (p := dat K (.list (encs gs))) rfl) e1 s1.ok fun w2 s2 e2 => ⟨fun i σ' w' => Stp R0 w2 w' ∧ EnvOk w'.g [some (dat K f.enc), some (dat K (.list (encs gs))), some (dat K (.list f.cl)), none, none] σ' ∧ ((gs.take i).any fun g => clash f g) = false,
      ⟨Stp.refl s2.ok, e2, rfl⟩, fun i σ' w' h => h.1.fst, fun i σ' w' N hi hI hN d v hd hv => ?_, fun σ' w' hI => ?_⟩)
    · obtain ⟨st, en, hno⟩ := hI
      rw [encs_len] at hi
      have hg : gs[i]? = some gs[i] := List.getElem?_eq_getElem hi
      have hd2 : d = gs[i].enc := by
        unfold encs at hd
        rw [List.getElem?_map, hg] at hd
        exact (Option.some.inj hd).symm
      subst hd2
      have gok := hgs _ (List.getElem_mem hi)
      have en2 := en.set (p := dat K gs[i].enc) hv 3
      have cm : Ev R0 (([some (dat K f.enc), some (dat K (.list (encs gs))), some (dat K (.list f.cl)), none, none] : Sl).set 3 (some (dat K gs[i].enc))) w' (tLc (iList K (tCall (spR K relCl) [] E0 (tCons (tVar 3) tNil))) (gName 4) tYes (tOp (rInA K false) (tVar 4) (tVar 2)) [4]) (dat K (.list ((gs[i].cl.map fun c => f.cl.any fun z => PyData.eqv z c).map .bool))) := by
        have q := ev_lcL (K := K) (R := R0) (w := w') (Γ := ([some (dat K f.enc), some (dat K (.list (encs gs))), some (dat K (.list f.cl)), none, none] : Sl).set 3 (some (dat K gs[i].enc))) (j := 4) (tl := tCall (spR K relCl) [] E0 (tCons (tVar 3) tNil)) (te := tOp (rInA K false) (tVar 4) (tVar 2)) (tt := tYes) (ds := gs[i].cl) (fun _ => true) (fun c => .bool (f.cl.any fun z => PyData.eqv z c)) (Nat.le_trans (cl_len _) (by decide))
          (ev_callR (ds := [gs[i].enc]) (ea_cons (ev_var rfl) ea_nil) ⟨gs[i], rfl, rfl, gok⟩) (fun j c hc w3 s3 => et_yes)
          (fun j c hc w3 s3 _ => ev_op (ev_var rfl) (ev_var rfl) (rv_inL (neg := false) (shaped_of (cl_lay gok c (List.mem_of_getElem? hc))) (shaped_list fun d m => by have := cl_lay hf d m; exact ⟨this.1, by omega⟩)))
        rw [picked_all] at q
        rw [List.map_map]
        exact q
      refine q_if (et_B (ev_cb (ea_cons cm ea_nil) rc_any)) en2 st.ok (fun hb w3 s3 e3 => ?_) (fun hb w3 s3 e3 => q_next (hN _ _ ⟨st.trans s3, e3.forget 3, ?_⟩))
      · refine q_ret (ev_bl (K := K) (b := true)) e3 s3.ok fun v w4 s4 hv => ?_
        have ea : (gs.any fun g => clash f g) = true := List.any_eq_true.mpr ⟨gs[i], List.getElem_mem hi, by
          unfold clash
          rw [List.any_map] at hb
          exact hb⟩
        rw [ea] at k
        exact k v w4 ((((s1.trans s2).trans st).trans s3).trans s4) hv
      · rw [take_snoc hg, List.any_append, hno]
        rw [List.any_map] at hb
        show (false || (clash f gs[i] || false)) = false
        rw [Bool.false_or, Bool.or_false]
        exact hb
    · obtain ⟨st, en, hno⟩ := hI
      rw [encs_len, List.take_length] at hno
      rw [hno] at k
      dsimp only
      exact q_ret (ev_bl (K := K) (b := false)) en st.ok fun v w4 s4 hv => k v w4 (((s1.trans s2).trans st).trans s4) hv
end
end Tf
namespace Tf
open PySem L2 PyProof.Rows
def oi : Option Nat -> PyData
  | none => .none
  | some i => .int (i : Int)
theorem find_some {n i : Nat} {q : Nat -> Bool} (hi : i < n) (h : q i = true) (hn : ∀ j, j < i -> q j = false) : (List.range n).find? q = some i := by
  have e : List.range n = List.range i ++ i :: (List.range (n - i - 1)).map (fun k => i + 1 + k) := by
    have h1 : n = i + (1 + (n - i - 1)) := by omega
    rw [h1, List.range_add, List.range_add, List.map_append]
    have e2 : i + (1 + (n - i - 1)) - i - 1 = n - i - 1 := by omega
    rw [e2]
    congr 1
    simp only [List.range_one, List.map_cons, List.map_nil, Nat.add_zero, List.singleton_append, List.map_map]
    congr 1
    apply List.map_congr_left
    intro x _
    simp only [Function.comp_apply]
    omega
  rw [e, List.find?_append]
  have e0 : (List.range i).find? q = none := by
    rw [List.find?_eq_none]
    intro j hj z
    rw [hn j (List.mem_range.mp hj)] at z
    cases z
  rw [e0]
  simp only [Option.none_or, List.find?_cons, h]
theorem find_none {n : Nat} {q : Nat -> Bool} (hn : ∀ j, j < n -> q j = false) : (List.range n).find? q = none := by
  rw [List.find?_eq_none]
  intro j hj z
  rw [hn j (List.mem_range.mp hj)] at z
  cases z
def spFwf (a : Ad) (K : Fr) (L : List PyData -> PyData) : Sp := fun vs H Q _ => ∃ (w : Wd) (v u : V) (ks : List Str) (wd : Int) (fs : List Ft), w.h = H ∧ vs = [v, .int wd, u] ∧ Ok R0 w ∧ KbAt K a v w.g ks ∧ ks.length ≤ 1000 ∧ Dp K w.g u (L (encs fs)) ∧ (∀ f ∈ fs, f.ok) ∧ fs.length ≤ 1000 ∧ ∀ v w', Stp R0 w w' → Dp K w'.g v (oi (firstW ks.length wd fs)) → Q v w'.h
theorem rs_fwf {K : Fr} {a : Ad} {L : List PyData -> PyData} {R : Rg} {w : Wd} {ks : List Str} {wd : Int} {fs : List Ft} (hs : ks.length ≤ 1000) (hf : ∀ f ∈ fs, f.ok) (hl : fs.length ≤ 1000) : RS R w (spFwf a K L) [kbP K a ks, dat K (.int wd), dat K (L (encs fs))] (dat K (oi (firstW ks.length wd fs))) := fun xs w1 s1 hx Q k E => by
  cases hx with
  | cons h1 t =>
    cases t with
    | cons h2 t =>
      cases t with
      | cons h3 t =>
        cases t
        cases h2
        exact ⟨w1, _, _, ks, wd, fs, rfl, rfl, s1.ok.low, h1, hs, h3, hf, hl, fun v w2 s2 hv => k v w2 (s2.lift s1.ok) hv⟩
theorem encs_take (fs : List Ft) (i : Nat) : (encs fs).take i = encs (fs.take i) := by
  unfold encs
  rw [List.map_take]
theorem encs_get {fs : List Ft} {i : Nat} {d : PyData} (h : (encs fs)[i]? = some d) : ∃ f, fs[i]? = some f ∧ d = f.enc := by
  unfold encs at h
  rw [List.getElem?_map] at h
  cases e : fs[i]? with
  | none =>
    rw [e] at h
    cases h
  | some f =>
    rw [e] at h
    exact ⟨f, rfl, (Option.some.inj h).symm⟩
section
variable {P : Program} {W : World} {K : Fr} {mg : Str -> Option Value} {base : Heap} {a : Ad}
theorem ok_fwf_T (T : Txt K mg a) : FnOk P W K mg base CX0 4 a.f_first_wrong_fault a.d_first_wrong_fault ["keyboard", "width", "faults"] (spFwf a K .tuple) := by
  have G_fault_in_range := ok_fir (P := P) (W := W) (base := base) T
  have G_clashes := ok_clashes_T (P := P) (W := W) (base := base) T
  refine T.F_first_wrong_fault.ok sc_first_wrong_fault (fun vs H Q E h => ?_) (fun cdv A outer s H vs Q E hr h => ?_)
  · obtain ⟨w, v, u, ks, wd, fs, rfl, rfl, _⟩ := h
    rfl
  · obtain ⟨w, v, u, ks, wd, fs, rfl, rfl, hO, hk, hks, hu, hf, hl, k⟩ := h
    refine ⟨_, (pss_cons (ps_for PassesOwn.never rfl (pi_enumT (by rfl) T.b_enumerate (pa_cons (pv 2) pa_nil)) (pg_tup rfl (pgs_cons (pg_name (i := 3) sc_first_wrong_fault.nd rfl (Or.inl rfl)) (pgs_cons (pg_name (i := 4) sc_first_wrong_fault.nd rfl (Or.inl rfl)) pgs_nil)))
        (pss_one (ps_if (PW.pt (pw_or (pt_not (pt_val (pe_call G_fault_in_range (hr.mono (by decide)) (by rfl) T.g_fault_in_range T.F_fault_in_range.kp T.bi_fault_in_range .nil pass0 (pa_cons (pv 0) (pa_cons (pv 1) (pa_cons (pv 4) pa_nil)))))) (pw_or1 (pt_val (pe_call G_clashes (hr.mono (by decide)) (by rfl) T.g_clashes T.F_clashes.kp T.bi_clashes .nil pass0 (pa_cons (pv 4) (pa_cons (pe_slice (r := rSlA K) sl_tupA (pv 2) po_none (po_some (pv 3))) pa_nil))))))) (pss_one (ps_ret (pv 3))) pss_nil)))
      (pss_one (ps_ret pe_non))), ?_⟩
    have e0 := env_start (N := ["keyboard", "width", "faults", "index", "fault"]) (AllP.cons hk (.cons (.int wd) (.cons hu .nil)) : AllP w.g [kbP K a ks, dat K (.int wd), dat K (.tuple (encs fs))] [v, .int wd, u])
    refine q_seq (q_forEnT (ds := encs fs) (ea_cons (ev_var (p := dat K (.tuple (encs fs))) rfl) ea_nil) e0 hO fun w2 s2 e2 => ⟨fun i σ' w' => Stp R0 w2 w' ∧ EnvOk w'.g [some (kbP K a ks), some (dat K (.int wd)), some (dat K (.tuple (encs fs))), none, none] σ' ∧ ∀ j, j < i → wrongAt ks.length wd fs j = false,
      ⟨Stp.refl s2.ok, e2, fun j h => absurd h (Nat.not_lt_zero j)⟩, fun i σ' w' h => h.1.fst, fun i σ' w' N hi hI hN d v T hd hv hT => ?_, fun σ' w' hI => ?_⟩)
    · obtain ⟨st, en, hno⟩ := hI
      rw [encs_len] at hi
      obtain ⟨f, hg, rfl⟩ := encs_get hd
      have fok := hf f (List.mem_of_getElem? hg)
      have sT := Stp.new (o := .tup [.int (i : Int), v]) st.ok hT
      have en2 := ((en.mono sT.sg).set (p := dat K (.int (i : Int))) (.int _) 3).set (p := dat K f.enc) (dp_mono K sT.sg _ _ hv) 4
      have cut := ev_slT (w := ⟨upd w'.g T (.tup [.int (i : Int), v]), upd w'.h T (.tup [.int (i : Int), v])⟩) (R := R0) (K := K) (ds := encs fs) (ev_var (Γ := (([some (kbP K a ks), some (dat K (.int wd)), some (dat K (.tuple (encs fs))), none, none] : Sl).set 3 (some (dat K (.int (i : Int))))).set 4 (some (dat K f.enc))) (p := dat K (.tuple (encs fs))) (i := 2) rfl) eo_none (eo_some (ev_var (p := dat K (.int (i : Int))) (i := 3) rfl))
      rw [cut_to, encs_take] at cut
      refine q_if (b := !f.inR ks.length wd || (fs.take i).any fun g => clash f g) (et_or (et_not (et_test (ev_call (ea_cons (ev_var rfl) (ea_cons (ev_var rfl) (ea_cons (ev_var rfl) ea_nil))) (rs_fir hks fok)))) fun _ => et_test (ev_callR (ds := [f.enc, .tuple (encs (fs.take i))]) (r := .bool ((fs.take i).any fun g => clash f g)) (ea_cons (ev_var rfl) (ea_cons cut ea_nil)) ⟨f, fs.take i, rfl, rfl, fok, fun g m => hf g (List.mem_of_mem_take m), by rw [List.length_take]; omega⟩)) en2 sT.ok (fun hb w3 s3 e3 => ?_) (fun hb w3 s3 e3 => q_next (hN _ _ ⟨(st.trans sT).trans s3, (e3.forget 3).forget 4, fun j hj => ?_⟩))
      · refine q_ret (ev_var (p := dat K (.int (i : Int))) rfl) e3 s3.ok fun v w4 s4 hv => k v w4 ((((s2.trans st).trans sT).trans s3).trans s4) ?_
        have ew : wrongAt ks.length wd fs i = true := by
          unfold wrongAt
          rw [hg]
          exact hb
        have : firstW ks.length wd fs = some i := find_some hi ew hno
        rw [this]
        exact hv
      · rcases Nat.lt_succ_iff_lt_or_eq.mp hj with h | rfl
        · exact hno j h
        · unfold wrongAt
          rw [hg]
          exact hb
    · obtain ⟨st, en, hno⟩ := hI
      rw [encs_len] at hno
      have : firstW ks.length wd fs = none := find_none hno
      rw [this] at k
      dsimp only
      exact q_ret (ev_non (K := K)) en st.ok fun v w4 s4 hv => k v w4 ((s2.trans st).trans s4) hv
theorem ok_fwf_L (T : Txt K mg a) : FnOk P W K mg base CX0 4 a.f_first_wrong_fault a.d_first_wrong_fault ["keyboard", "width", "faults"] (spFwf a K .list) := by
  have G_fault_in_range := ok_fir (P := P) (W := W) (base := base) T
  have G_clashes := ok_clashes_L (P := P) (W := W) (base := base) T
  refine T.F_first_wrong_fault.ok sc_first_wrong_fault (fun vs H Q E h => ?_) (fun cdv A outer s H vs Q E hr h => ?_)
  · obtain ⟨w, v, u, ks, wd, fs, rfl, rfl, _⟩ := h
    rfl
  · obtain ⟨w, v, u, ks, wd, fs, rfl, rfl, hO, hk, hks, hu, hf, hl, k⟩ := h
    refine ⟨_, (pss_cons (ps_for PassesOwn.never rfl (pi_enum (by rfl) T.b_enumerate (pa_cons (pv 2) pa_nil)) (pg_tup rfl (pgs_cons (pg_name (i := 3) sc_first_wrong_fault.nd rfl (Or.inl rfl)) (pgs_cons (pg_name (i := 4) sc_first_wrong_fault.nd rfl (Or.inl rfl)) pgs_nil)))
        (pss_one (ps_if (PW.pt (pw_or (pt_not (pt_val (pe_call G_fault_in_range (hr.mono (by decide)) (by rfl) T.g_fault_in_range T.F_fault_in_range.kp T.bi_fault_in_range .nil pass0 (pa_cons (pv 0) (pa_cons (pv 1) (pa_cons (pv 4) pa_nil)))))) (pw_or1 (pt_val (pe_call G_clashes (hr.mono (by decide)) (by rfl) T.g_clashes T.F_clashes.kp T.bi_clashes .nil pass0 (pa_cons (pv 4) (pa_cons (pe_slice (r := rSlL K) sl_list (pv 2) po_none (po_some (pv 3))) pa_nil))))))) (pss_one (ps_ret (pv 3))) pss_nil)))
      (pss_one (ps_ret pe_non))), ?_⟩
    have e0 := env_start (N := ["keyboard", "width", "faults", "index", "fault"]) (AllP.cons hk (.cons (.int wd) (.cons hu .nil)) : AllP w.g [kbP K a ks, dat K (.int wd), dat K (.list (encs fs))] [v, .int wd, u])
    refine q_seq (q_forEnL (ds := encs fs) (ea_cons (ev_var (p := dat K (.list (encs fs))) rfl) ea_nil) e0 hO fun w2 s2 e2 => ⟨fun i σ' w' => Stp R0 w2 w' ∧ EnvOk w'.g [some (kbP K a ks), some (dat K (.int wd)), some (dat K (.list (encs fs))), none, none] σ' ∧ ∀ j, j < i → wrongAt ks.length wd fs j = false,
      ⟨Stp.refl s2.ok, e2, fun j h => absurd h (Nat.not_lt_zero j)⟩, fun i σ' w' h => h.1.fst, fun i σ' w' N hi hI hN d v T hd hv hT => ?_, fun σ' w' hI => ?_⟩)
    · obtain ⟨st, en, hno⟩ := hI
      rw [encs_len] at hi
      obtain ⟨f, hg, rfl⟩ := encs_get hd
      have fok := hf f (List.mem_of_getElem? hg)
      have sT := Stp.new (o := .tup [.int (i : Int), v]) st.ok hT
      have en2 := ((en.mono sT.sg).set (p := dat K (.int (i : Int))) (.int _) 3).set (p := dat K f.enc) (dp_mono K sT.sg _ _ hv) 4
      have cut := ev_slL (w := ⟨upd w'.g T (.tup [.int (i : Int), v]), upd w'.h T (.tup [.int (i : Int), v])⟩) (R := R0) (K := K) (ds := encs fs) (ev_var (Γ := (([some (kbP K a ks), some (dat K (.int wd)), some (dat K (.list (encs fs))), none, none] : Sl).set 3 (some (dat K (.int (i : Int))))).set 4 (some (dat K f.enc))) (p := dat K (.list (encs fs))) (i := 2) rfl) eo_none (eo_some (ev_var (p := dat K (.int (i : Int))) (i := 3) rfl))
      rw [cut_to, encs_take] at cut
      refine q_if (b := !f.inR ks.length wd || (fs.take i).any fun g => clash f g) (et_or (et_not (et_test (ev_call (ea_cons (ev_var rfl) (ea_cons (ev_var rfl) (ea_cons (ev_var rfl) ea_nil))) (rs_fir hks fok)))) fun _ => et_test (ev_callR (ds := [f.enc, .list (encs (fs.take i))]) (r := .bool ((fs.take i).any fun g => clash f g)) (ea_cons (ev_var rfl) (ea_cons cut ea_nil)) ⟨f, fs.take i, rfl, rfl, fok, fun g m => hf g (List.mem_of_mem_take m), by rw [List.length_take]; omega⟩)) en2 sT.ok (fun hb w3 s3 e3 => ?_) (fun hb w3 s3 e3 => q_next (hN _ _ ⟨(st.trans sT).trans s3, (e3.forget 3).forget 4, fun j hj => ?_⟩))
      · refine q_ret (ev_var (p := dat K (.int (i : Int))) rfl) e3 s3.ok fun v w4 s4 hv => k v w4 ((((s2.trans st).trans sT).trans s3).trans s4) ?_
        have ew : wrongAt ks.length wd fs i = true := by
          unfold wrongAt
          rw [hg]
          exact hb
        have : firstW ks.length wd fs = some i := find_some hi ew hno
        rw [this]
        exact hv
      · rcases Nat.lt_succ_iff_lt_or_eq.mp hj with h | rfl
        · exact hno j h
        · unfold wrongAt
          rw [hg]
          exact hb
    · obtain ⟨st, en, hno⟩ := hI
      rw [encs_len] at hno
      have : firstW ks.length wd fs = none := find_none hno
      rw [this] at k
      dsimp only
      exact q_ret (ev_non (K := K)) en st.ok fun v w4 s4 hv => k v w4 ((s2.trans st).trans s4) hv
end
end Tf
namespace Tf
open PySem L2 PyProof.Rows
def relHts (ds : List PyData) (r : PyData) : Prop := ∃ k : Str, ds = [.str k] ∧ r = .bool (hts k) ∧ k.length ≤ 100000
def relFwk (ds : List PyData) (r : PyData) : Prop := ∃ ks : List Str, ds = [tS ks] ∧ r = oi (fwk ks) ∧ (∀ k ∈ ks, k.length ≤ 1000) ∧ ks.length ≤ 1000
theorem at0 {c d : Nat} : atI [c, d] 0 = some c := rfl
theorem at1 {c d : Nat} : atI [c, d] 1 = some d := rfl
section
variable {P : Program} {W : World} {K : Fr} {mg : Str -> Option Value} {base : Heap} {a : Ad}
theorem ok_hts (T : Txt K mg a) : FnOk P W K mg base CX0 1 a.f_has_two_signs a.d_has_two_signs ["key"] (spR K relHts) := by
  refine T.F_has_two_signs.ok sc_has_two_signs (spR_len fun ds r h => ?_) (fun cdv A outer s H vs Q E hr h => ?_)
  · obtain ⟨k, rfl, _⟩ := h
    rfl
  · obtain ⟨w, ds, r, rfl, hO, hv, ⟨z, rfl, rfl, hl⟩, k⟩ := h
    refine ⟨_, (pss_one (ps_ret (pe_and (pe_callB (r := rIsi K) call_isi (by rfl) T.b_isinstance (by decide +kernel) (pa_cons (pv 0) (pa_cons (pe_bltn (v := .ty "str") (by rfl) T.b_str (by decide +kernel) rfl) pa_nil))) (pe_and (pe_cmpR op_eq (pe_callB (r := rLen K) call_len (by rfl) T.b_len (by decide +kernel) (pa_cons (pv 0) pa_nil)) pe_int (nomark _)) (pe_and (pe_cmpR op_in_sign (pe_ix (r := rIx K) ix_seq (pv 0) pe_int (fun _ _ => rfl)) (pe_glob (v := .str "!,-.0123456789:;?ABCDEFGHIJKLMNOPQRSTUVWXYZabcdefghijklmnopqrstuvwxyz") (by rfl) T.g_SIGNS ⟨_, rfl⟩) (by rfl)) (pe_one (pe_cmpR op_in_sign (pe_ix (r := rIx K) ix_seq (pv 0) pe_int (fun _ _ => rfl)) (pe_glob (v := .str "!,-.0123456789:;?ABCDEFGHIJKLMNOPQRSTUVWXYZabcdefghijklmnopqrstuvwxyz") (by rfl) T.g_SIGNS ⟨_, rfl⟩) (by rfl)))))))), ?_⟩
    have e0 := env_start (N := ["key"]) (allP_of hv)
    have key : hts z = (true && (sq (.int (z.length : Int)) (.int 2) && hts z)) := by
      rw [Bool.true_and]
      cases h : hts z with
      | false => rw [Bool.and_false]
      | true =>
        obtain ⟨_, _, _, _, l⟩ := hts_two h
        rw [l]
        rfl
    rw [key] at k
    refine q_ret (ev_andV (ev_cb (ea_cons (ev_var rfl) (ea_cons (ev_cp (p := tyP "str") fun _ => rfl) ea_nil)) (rc_isi (kitS (.str z)))) fun _ => ev_andV (ev_op (ev_cb (ea_cons (ev_var rfl) ea_nil) (rc_lenS hl)) ev_int (rv_eq rfl)) fun h2 => (?_ : Ev R0 _ _ _ (dat K (.bool (hts z))))) e0 hO k
    have h3 : z.cps.toList.length = 2 := by
      have : (z.length : Int) = 2 := by simpa [sq] using h2
      show z.cps.toList.length = 2
      have e : z.cps.toList.length = z.length := by simp [Str.length]
      omega
    obtain ⟨c, d, e⟩ : ∃ c d, z.cps.toList = [c, d] := by
      match h : z.cps.toList, h3 with
      | [c, d], _ => exact ⟨c, d, rfl⟩
    have eh : hts z = (decide (c ∈ SG.cps.toList) && decide (d ∈ SG.cps.toList)) := by
      unfold hts
      rw [e]
    rw [eh]
    exact ev_andV (ev_op (ev_op (ev_var rfl) ev_int (rv_ixS hl (by rw [e]; exact at0))) ev_str rv_inSg) fun _ => ev_op (ev_op (ev_var rfl) ev_int (rv_ixS hl (by rw [e]; exact at1))) ev_str rv_inSg
theorem ok_fwk (T : Txt K mg a) : FnOk P W K mg base CX0 2 a.f_first_wrong_key a.d_first_wrong_key ["keys"] (spR K relFwk) := by
  have G_has_two_signs := ok_hts (P := P) (W := W) (base := base) T
  refine T.F_first_wrong_key.ok sc_first_wrong_key (spR_len fun ds r h => ?_) (fun cdv A outer s H vs Q E hr h => ?_)
  · obtain ⟨ks, rfl, _⟩ := h
    rfl
  · obtain ⟨w, ds, r, rfl, hO, hv, ⟨ks, rfl, rfl, hk, hl⟩, k⟩ := h
    refine ⟨_, (pss_cons (ps_set (i := 1) sc_first_wrong_key.nd rfl (Or.inl rfl) pe_str)
      (pss_cons (ps_for PassesOwn.never rfl (pi_enumT (by rfl) T.b_enumerate (pa_cons (pv 0) pa_nil)) (pg_tup rfl (pgs_cons (pg_name (i := 2) sc_first_wrong_key.nd rfl (Or.inl rfl)) (pgs_cons (pg_name (i := 3) sc_first_wrong_key.nd rfl (Or.inl rfl)) pgs_nil)))
        (pss_cons (ps_if (PW.pt (pw_or (pt_cmpR op_eq (pv 2) (pe_glob (v := .int 10) (by rfl) T.g_MOST_KEYS ⟨_, rfl⟩) (nomark _)) (pw_or1 (pt_not (pt_val (pe_call G_has_two_signs (hr.mono (by decide)) (by rfl) T.g_has_two_signs T.F_has_two_signs.kp T.bi_has_two_signs .nil pass0 (pa_cons (pv 3) pa_nil))))))) (pss_one (ps_ret (pv 2))) pss_nil)
        (pss_cons (ps_if (PW.pt (pw_or (pt_cmpR op_eq (pe_ix (r := rIx K) ix_seq (pv 3) pe_int (fun _ _ => rfl)) (pe_ix (r := rIx K) ix_seq (pv 3) pe_int (fun _ _ => rfl)) (nomark _)) (pw_or (pt_cmpR op_in_sign (pe_ix (r := rIx K) ix_seq (pv 3) pe_int (fun _ _ => rfl)) (pv 1) (by rfl)) (pw_or1 (pt_cmpR op_in_sign (pe_ix (r := rIx K) ix_seq (pv 3) pe_int (fun _ _ => rfl)) (pv 1) (by rfl)))))) (pss_one (ps_ret (pv 2))) pss_nil)
        (pss_one (ps_set (i := 1) sc_first_wrong_key.nd rfl (Or.inl rfl) (pe_op op_add_str (pv 1) (pv 3)))))))
      (pss_one (ps_ret (pe_ifExp (pt_cmpR op_lt (pe_callB (r := rLen K) call_len (by rfl) T.b_len (by decide +kernel) (pa_cons (pv 0) pa_nil)) (pe_glob (v := .int 2) (by rfl) T.g_FEWEST_KEYS ⟨_, rfl⟩) (nomark _)) (pe_callB (r := rLen K) call_len (by rfl) T.b_len (by decide +kernel) (pa_cons (pv 0) pa_nil)) pe_non))))), ?_⟩
    have e0 := env_start (N := ["keys", "earlier", "index", "key"]) (allP_of hv)
    refine q_seq (q_asg (ev_str (K := K) (x := "")) e0 hO fun σ1 w1 s1 e1 => ?_)
    refine q_seq (q_forEnT (ds := ks.map .str) (ea_cons (ev_var (p := dat K (tS ks)) rfl) ea_nil) e1 s1.ok fun w2 s2 e2 => ⟨fun i σ' w' => ∃ x : Str, x.cps.toList = early (ks.take i) ∧ Stp R0 w2 w' ∧ EnvOk w'.g [some (dat K (tS ks)), some (dat K (.str x)), none, none] σ' ∧ (∀ j, j < i → kwrong ks j = false) ∧ ∀ k ∈ ks.take i, hts k = true,
      ⟨"", by rw [List.take_zero]; decide +kernel, Stp.refl s2.ok, e2, fun j h => absurd h (Nat.not_lt_zero j), fun k m => by simp at m⟩, fun i σ' w' h => by obtain ⟨x, _, st, _⟩ := h; exact st.fst, fun i σ' w' N hi hI hN d v Tp hd hv hT => ?_, fun σ' w' hI => ?_⟩)
    · obtain ⟨x, hx, st, en, hno, hgood⟩ := hI
      rw [List.length_map] at hi
      have hg : ks[i]? = some ks[i] := List.getElem?_eq_getElem hi
      have hd2 : d = .str ks[i] := by
        rw [List.getElem?_map, hg] at hd
        exact (Option.some.inj hd).symm
      subst hd2
      have kl := hk _ (List.getElem_mem hi)
      have sT := Stp.new (o := .tup [.int (i : Int), v]) st.ok hT
      have en2 := ((en.mono sT.sg).set (p := dat K (.int (i : Int))) (.int _) 2).set (p := dat K (.str ks[i])) (dp_mono K sT.sg _ _ hv) 3
      have done : ∀ {w3 : Wd}, Stp R0 w' w3 → kwrong ks i = true → ∀ v w4, Stp R0 w3 w4 → (dat K (.int (i : Int))).P v w4.g → Q v w4.h := fun {w3} s3 hb v w4 s4 hv => by
        have : fwk ks = some i := by
          unfold fwk
          rw [find_some hi hb hno]
        rw [this] at k
        exact k v w4 ((((s1.trans s2).trans st).trans s3).trans s4) hv
      refine q_seq (q_if (b := decide (i = 10) || !hts ks[i]) (et_or (EvT.to (et_test (ev_op (ev_var (p := dat K (.int (i : Int))) rfl) ev_int (rv_eq rfl))) (?_ : sq (.int (i : Int)) (.int 10) = decide (i = 10))) fun _ => et_not (et_test (ev_callR (ds := [.str ks[i]]) (r := .bool (hts ks[i])) (ea_cons (ev_var rfl) ea_nil) ⟨_, rfl, rfl, by omega⟩))) en2 sT.ok (fun hb w3 s3 e3 => ?_) (fun hb w3 s3 e3 => q_next ?_))
      · show decide ((i : Int) = 10) = decide (i = 10)
        exact decide_eq_decide.mpr (by omega)
      · refine q_ret (ev_var (p := dat K (.int (i : Int))) rfl) e3 s3.ok (done (sT.trans s3) ?_)
        unfold kwrong
        rw [hg]
        simp only [hb, Bool.true_or]
      have hgk : hts ks[i] = true := by
        cases h : hts ks[i] with
        | true => rfl
        | false =>
          rw [h, Bool.not_false, Bool.or_true] at hb
          cases hb
      obtain ⟨c, d, ek, _, l2⟩ := hts_two hgk
      have hgood2 : ∀ k ∈ ks.take (i + 1), hts k = true := fun z m => by
        rw [take_snoc hg] at m
        rcases List.mem_append.mp m with m | m
        · exact hgood z m
        · rw [List.mem_singleton.mp m]
          exact hgk
      have hxl : x.length ≤ 2 * i := by
        have h1 := (early_len _ hgood).1
        have h2 : x.length = x.cps.toList.length := by simp [Str.length]
        rw [h2, hx, h1, List.length_take]
        omega
      have ix0 : ∀ {Γ : Sl} {w : Wd}, Γ[3]? = some (some (dat K (.str ks[i]))) → Ev R0 Γ w (tOp (rIx K) (tVar 3) (tC (.int 0))) (dat K (.str ⟨#[c]⟩)) := fun {Γ w} h => ev_op (ev_var h) ev_int (rv_ixS (by omega) (by rw [ek]; exact at0))
      have ix1 : ∀ {Γ : Sl} {w : Wd}, Γ[3]? = some (some (dat K (.str ks[i]))) → Ev R0 Γ w (tOp (rIx K) (tVar 3) (tC (.int 1))) (dat K (.str ⟨#[d]⟩)) := fun {Γ w} h => ev_op (ev_var h) ev_int (rv_ixS (by omega) (by rw [ek]; exact at1))
      refine q_seq (q_if (b := sq (.str ⟨#[c]⟩) (.str ⟨#[d]⟩) || (decide (c ∈ x.cps.toList) || decide (d ∈ x.cps.toList))) (et_or (et_test (ev_op (ix0 rfl) (ix1 rfl) (rv_eq rfl))) fun _ => et_or (et_test (ev_op (ix0 rfl) (ev_var rfl) rv_inSg)) fun _ => et_test (ev_op (ix1 rfl) (ev_var rfl) rv_inSg)) e3 s3.ok (fun hb2 w4 s4 e4 => ?_) (fun hb2 w4 s4 e4 => q_next ?_))
      · refine q_ret (ev_var (p := dat K (.int (i : Int))) rfl) e4 s4.ok (done ((sT.trans s3).trans s4) ?_)
        unfold kwrong
        rw [hg]
        simp only [ek, hb, Bool.false_or]
        rw [hx] at hb2
        have e1 : sq (.str ⟨#[c]⟩) (.str ⟨#[d]⟩) = decide (c = d) := by
          show decide (_ = _) = _
          exact decide_eq_decide.mpr ⟨fun h => by cases h; rfl, fun h => by rw [h]⟩
        rw [e1] at hb2
        exact hb2
      · refine q_asg (ev_op (ev_var (p := dat K (.str x)) rfl) (ev_var (p := dat K (.str ks[i])) rfl) (rv_catS (by omega))) e4 s4.ok fun σ5 w5 s5 e5 => hN _ _ ⟨x ++ ks[i], ?_, (((st.trans sT).trans s3).trans s4).trans s5, (e5.forget 2).forget 3, fun j hj => ?_, hgood2⟩
        · rw [take_snoc hg, early_snoc, ← hx]
          show (x.cps ++ ks[i].cps).toList = _
          rw [Array.toList_append]
        · rcases Nat.lt_succ_iff_lt_or_eq.mp hj with h | rfl
          · exact hno j h
          · unfold kwrong
            rw [hg]
            simp only [ek, hb, Bool.false_or]
            rw [hx] at hb2
            have e1 : sq (.str ⟨#[c]⟩) (.str ⟨#[d]⟩) = decide (c = d) := by
              show decide (_ = _) = _
              exact decide_eq_decide.mpr ⟨fun h => by cases h; rfl, fun h => by rw [h]⟩
            rw [e1] at hb2
            exact hb2
    · obtain ⟨x, hx, st, en, hno, hgood⟩ := hI
      rw [List.length_map] at hno
      dsimp only
      have hf : fwk ks = if ks.length < 2 then some ks.length else none := by
        unfold fwk
        rw [find_none hno]
      rw [hf] at k
      have len : ∀ {Γ : Sl} {w : Wd}, Γ[0]? = some (some (dat K (tS ks))) → Ev R0 Γ w (tCB (rLen K) (tCons (tVar 0) tNil)) (dat K (.int (ks.length : Int))) := fun {Γ w} h => by
        have q := ev_cb (R := R0) (Γ := Γ) (w := w) (ea_cons (ev_var h) ea_nil) (rc_lenT (K := K) (ds := ks.map .str))
        rw [List.length_map] at q
        exact q
      refine q_ret (ev_ifE (b := decide ((ks.length : Int) < 2)) (p := dat K (oi (if ks.length < 2 then some ks.length else none))) (et_test (ev_op (len rfl) ev_int rv_lt)) (fun h => ?_) (fun h => ?_)) en st.ok fun v w4 s4 hv => k v w4 (((s1.trans s2).trans st).trans s4) hv
      · have : ks.length < 2 := by have := of_decide_eq_true h; omega
        rw [if_pos this]
        exact len rfl
      · have : ¬ ks.length < 2 := by have := of_decide_eq_false h; omega
        rw [if_neg this]
        exact ev_non
end
end Tf
namespace Tf
open PySem L2 PyProof.Rows
def spPl (K : Fr) : Sp := fun vs H Q _ => ∃ (w : Wd) (v : V) (ks : List Str), w.h = H ∧ vs = [v] ∧ Ok R0 w ∧ Dp K w.g v (tS ks) ∧ (∀ k ∈ ks, hts k = true) ∧ ks.length ≤ 1000 ∧ ∀ pd w', Stp R0 w w' → Q (.ref pd) w'.h
def refP : Pd := ⟨fun v _ => ∃ a, v = .ref a, fun _ _ _ _ h => h⟩
theorem rs_pl {K : Fr} {R : Rg} {w : Wd} {ks : List Str} (h : ∀ k ∈ ks, hts k = true) (hl : ks.length ≤ 1000) : RS R w (spPl K) [dat K (tS ks)] refP := fun xs w1 s1 hx Q k E => by
  cases hx with
  | cons h1 t =>
    cases t
    exact ⟨w1, _, ks, rfl, rfl, s1.ok.low, h1, h, hl, fun pd w2 s2 => k _ w2 (s2.lift s1.ok) ⟨pd, rfl⟩⟩
def spKInit (a : Ad) (K : Fr) : Sp := fun vs H Q _ => ∃ (w0 : Wd) (x dx : Addr) (v : V) (ks : List Str), H = upd (upd w0.h dx (.own x)) x (.ins a.C_Keyboard dx []) ∧ vs = [.ref x, v] ∧ Ok R0 w0 ∧ w0.h x = none ∧ w0.h dx = none ∧ dx ≠ x ∧ Dp K w0.g v (tS ks) ∧ KG ks ∧
  ∀ kt pd w', Stp R0 w0 w' → w'.g x = none → w'.h x = some (.ins a.C_Keyboard dx (kbF kt (signsOf ks) pd)) → Dp K w'.g kt (tS ks) → Q .non w'.h
theorem kbF_put (kt sg pd : V) : putF "_places" pd (putF "signs" sg (putF "key_signs" kt [])) = ([("key_signs", kt), ("signs", sg), ("_places", pd)] : List (Str × V)) := by
  have h1 : ("key_signs" : Str) ≠ "signs" := by decide +kernel
  have h2 : ("key_signs" : Str) ≠ "_places" := by decide +kernel
  have h3 : ("signs" : Str) ≠ "_places" := by decide +kernel
  simp only [putF, if_neg h1, if_neg h2, if_neg h3]
section
variable {P : Program} {W : World} {K : Fr} {mg : Str -> Option Value} {base : Heap} {a : Ad}
theorem ok_pl (T : Txt K mg a) : FnOk P W K mg base CX0 1 a.f_places_of_signs a.d_places_of_signs ["keys"] (spPl K) := by
  refine T.F_places_of_signs.ok sc_places_of_signs (fun vs H Q E h => ?_) (fun cdv A outer s H vs Q E hr h => ?_)
  · obtain ⟨w, v, ks, rfl, rfl, _⟩ := h
    rfl
  · obtain ⟨w, v, ks, rfl, rfl, hO, hv, hk, hl, k⟩ := h
    refine ⟨_, (pss_cons (ps_set (i := 1) sc_places_of_signs.nd rfl (Or.inl rfl) pe_dnewK)
      (pss_cons (ps_for PassesOwn.never rfl (pi_enumT (by rfl) T.b_enumerate (pa_cons (pv 0) pa_nil)) (pg_tup rfl (pgs_cons (pg_name (i := 2) sc_places_of_signs.nd rfl (Or.inl rfl)) (pgs_cons (pg_name (i := 3) sc_places_of_signs.nd rfl (Or.inl rfl)) pgs_nil)))
        (pss_cons (ps_dput (hu_of hr) (pv 1) (pe_ix (r := rIx K) ix_seq (pv 3) pe_int (fun _ _ => rfl)) (pe_tup (pa_cons (pv 2) (pa_cons pe_bl pa_nil))) rfl)
        (pss_one (ps_dput (hu_of hr) (pv 1) (pe_ix (r := rIx K) ix_seq (pv 3) pe_int (fun _ _ => rfl)) (pe_tup (pa_cons (pv 2) (pa_cons pe_bl pa_nil))) rfl))))
      (pss_one (ps_ret (pv 1))))), ?_⟩
    have e0 := env_start (N := ["keys", "places", "number", "key"]) (AllP.cons hv .nil : AllP w.g [dat K (tS ks)] [v])
    refine q_seq fun D hD => ?_
    have s1 := Stp.newM (o := .dK []) hO hD
    have e1 := (e0.mono s1.sg).set (p := own D) (v := .ref D) rfl 1
    refine q_seq (q_forEnT (w := ⟨w.g, upd w.h D (.dK [])⟩) (ds := ks.map .str) (ea_cons (ev_var (p := dat K (tS ks)) rfl) ea_nil) e1 s1.ok fun w2 s2 e2 => ⟨fun i σ' w' => Stp R0 w w' ∧ Fst w2 w' ∧ EnvOk w'.g [some (dat K (tS ks)), some (own D), none, none] σ' ∧ w'.g D = none ∧ ∃ kvs, w'.h D = some (.dK kvs) ∧ kvs.length ≤ 2 * i,
      ⟨s1.trans s2, (Stp.refl s2.ok).fst, e2, s2.hid D _ upd_same (hO.gnone hD), [], s2.keep D _ upd_same (fun z => z), Nat.zero_le _⟩, fun i σ' w' h => h.2.1, fun i σ' w' N hi hI hN d v Tp hd hv hT => ?_, fun σ' w' hI => ?_⟩)
    · obtain ⟨st, st2, en, hg, kvs, hkv, hln⟩ := hI
      rw [List.length_map] at hi
      have hgk : ks[i]? = some ks[i] := List.getElem?_eq_getElem hi
      have hd2 : d = .str ks[i] := by
        rw [List.getElem?_map, hgk] at hd
        exact (Option.some.inj hd).symm
      subst hd2
      obtain ⟨c, e, ek, _, l2⟩ := hts_two (hk _ (List.getElem_mem hi))
      have sT := Stp.new (o := .tup [.int (i : Int), v]) st.ok hT
      have en2 := ((en.mono sT.sg).set (p := dat K (.int (i : Int))) (.int _) 2).set (p := dat K (.str ks[i])) (dp_mono K sT.sg _ _ hv) 3
      have ix0 : ∀ {Γ : Sl} {w : Wd}, Γ[3]? = some (some (dat K (.str ks[i]))) → Ev R0 Γ w (tOp (rIx K) (tVar 3) (tC (.int 0))) (dat K (.str ⟨#[c]⟩)) := fun {Γ w} h => ev_op (ev_var h) ev_int (rv_ixS (by omega) (by rw [ek]; exact at0))
      have ix1 : ∀ {Γ : Sl} {w : Wd}, Γ[3]? = some (some (dat K (.str ks[i]))) → Ev R0 Γ w (tOp (rIx K) (tVar 3) (tC (.int 1))) (dat K (.str ⟨#[e]⟩)) := fun {Γ w} h => ev_op (ev_var h) ev_int (rv_ixS (by omega) (by rw [ek]; exact at1))
      have tp : ∀ {Γ : Sl} {w : Wd} (b : Bool), Γ[2]? = some (some (dat K (.int (i : Int)))) → Ev R0 Γ w (tTup (tCons (tVar 2) (tCons (tC (.bl b)) tNil))) (dat K (.tuple [.int (i : Int), .bool b])) := fun {Γ w} b h => ev_tup [.int (i : Int), .bool b] (ea_cons (ev_var h) (ea_cons ev_bl ea_nil)) (hl := two_le)
      have gT : D ≠ Tp := fun z => by subst z; rw [hkv] at hT; cases hT
      refine q_seq (q_dput (w0 := w) (tp false rfl) (ev_var rfl) (ix0 rfl) en2 (st.trans sT) hD (by show upd w'.g Tp _ D = none; rw [upd_ne gT]; exact hg) (by show upd w'.h Tp _ D = _; rw [upd_ne gT]; exact hkv) (by omega) fun w3 kv3 s3 e3 g3 h3 l3 m3 => ?_)
      refine q_dput (w0 := w) (tp true rfl) (ev_var rfl) (ix1 rfl) e3 s3 hD g3 h3 (by omega) fun w4 kv4 s4 e4 g4 h4 l4 m4 => hN _ _ ⟨s4, ⟨fun b o z => m4 b o (m3 b o (sT.sg b o (st2.sg b o z))), s4.ok.sub⟩, (e4.forget 2).forget 3, g4, kv4, h4, by omega⟩
    · obtain ⟨st, st2, en, hg, kvs, hkv, hln⟩ := hI
      dsimp only
      refine q_ret (ev_var (p := own D) rfl) en st.ok fun v w4 s4 hv => ?_
      have hv' : v = .ref D := hv
      subst hv'
      exact k D w4 (st.trans s4)
end
end Tf
namespace Tf
open PySem L2 PyProof.Rows
theorem KG.short {ks : List Str} (h : KG ks) : ∀ k ∈ ks, k.length ≤ 1000 := fun k m => by
  obtain ⟨_, _, _, _, l⟩ := hts_two (h.two k m)
  omega
section
variable {P : Program} {W : World} {K : Fr} {mg : Str -> Option Value} {base : Heap} {a : Ad}
theorem ok_kinit (T : Txt K mg a) : FnOk P W K mg base CX0 3 a.f_Keyboard_init a.d_Keyboard_init ["self", "keys"] (spKInit a K) := by
  have G_first_wrong_key := ok_fwk (P := P) (W := W) (base := base) T
  have G_places_of_signs := ok_pl (P := P) (W := W) (base := base) T
  refine T.F_Keyboard_init.ok sc_Keyboard_init (fun vs H Q E h => ?_) (fun cdv A outer s H vs Q E hr h => ?_)
  · obtain ⟨w0, x, dx, v, ks, _, rfl, _⟩ := h
    rfl
  · obtain ⟨w0, x, dx, v, ks, rfl, rfl, hO, hx, hdx, hne, hv, hk, k⟩ := h
    refine ⟨_, (pss_cons (ps_set (i := 2) sc_Keyboard_init.nd rfl (Or.inl rfl) (pe_call G_first_wrong_key (hr.mono (by decide)) (by rfl) T.g_first_wrong_key T.F_first_wrong_key.kp T.bi_first_wrong_key .nil pass0 (pa_cons (pv 1) pa_nil)))
      (pss_cons (ps_if (pt_cmpR op_notN (pv 2) pe_non (nomark _)) (pss_one ps_never) pss_nil)
      (pss_cons (ps_fld (pv 0) (pe_callTy call_tuple_of (by rfl) T.b_tuple (by decide +kernel) (pa_cons (pv 1) pa_nil)) rfl)
      (pss_cons (ps_fld (pv 0) (pe_join pe_str (pe_callB (cr_sortA rfl hr) (by rfl) T.b_sorted (by decide +kernel) (pa_cons (pe_join pe_str (pv 1)) pa_nil))) rfl)
      (pss_one (ps_fld (pv 0) (pe_call G_places_of_signs (hr.mono (by decide)) (by rfl) T.g_places_of_signs T.F_places_of_signs.kp T.bi_places_of_signs .nil pass0 (pa_cons (pv 1) pa_nil)) rfl)))))), ?_⟩
    have s0 := Stp.made (C := a.C_Keyboard) hO hx hdx hne
    have e0 := env_start (N := ["self", "keys", "wrong"]) (AllP.cons (p := own x) (v := .ref x) rfl (AllP.cons hv .nil) : AllP w0.g [own x, dat K (tS ks)] [.ref x, v])
    refine q_seq (q_asg (w := ⟨w0.g, upd (upd w0.h dx (.own x)) x (.ins a.C_Keyboard dx [])⟩) (ev_callR (ds := [tS ks]) (r := oi (fwk ks)) (ea_cons (ev_var (p := dat K (tS ks)) rfl) ea_nil) ⟨ks, rfl, rfl, hk.short, by have := hk.hi; omega⟩) e0 s0.ok fun σ1 w1 s1 e1 => ?_)
    rw [hk.none] at e1
    refine q_seq (q_if (b := false) (et_test (ev_op (ev_var (p := dat K .none) rfl) ev_non ev_notN)) e1 s1.ok (fun hb => by cases hb) (fun hb w2 s2 e2 => q_next ?_))
    have s12 := s1.trans s2
    have g2 := s12.hid x _ upd_same (hO.gnone hx)
    have h2 := s12.keep x _ upd_same fun z => z
    refine q_seq (q_fld (w0 := w0) T.cl_Keyboard T.n_Keyboard_key_signs (ev_cb (ea_cons (ev_var (p := dat K (tS ks)) rfl) ea_nil) rc_tupT) (ev_var (p := own x) rfl) e2 (s0.trans s12) hx g2 h2 (Nat.zero_le _) fun kt w3 s3 e3 g3 h3 hkt _ => ?_)
    obtain ⟨l1, l2⟩ := early_len ks hk.two
    have := hk.hi
    refine q_seq (q_fld (w0 := w0) T.cl_Keyboard T.n_Keyboard_signs (ev_signs (ys := ks) (.inr rfl) (ev_var (p := dat K (tS ks)) rfl) (by omega) (by rw [join_len]; omega)) (ev_var (p := own x) rfl) e3 s3 hx g3 h3 (by simp [putF]) fun sg w4 s4 e4 g4 h4 hsg m4 => ?_)
    refine q_fld (w0 := w0) T.cl_Keyboard T.n_Keyboard_places (ev_call (ea_cons (ev_var (p := dat K (tS ks)) rfl) ea_nil) (rs_pl hk.two (by omega))) (ev_var (p := own x) rfl) e4 s4 hx g4 h4 (by simp [putF]; split <;> simp) fun pd w5 s5 e5 g5 h5 hpd m5 => ?_
    obtain ⟨pa, rfl⟩ := hpd
    cases hsg
    rw [kbF_put] at h5
    exact k kt pa w5 s5 g5 h5 (dp_mono K (fun b o z => m5 b o (m4 b o z)) _ _ hkt)
/-- Keyboard(keys) -/
theorem ev_kb {R : Rg} {Γ : Sl} {w : Wd} {tr : TA} {E : XK} {ks : List Str} (h : EvA R Γ w tr [dat K (tS ks)]) (hk : KG ks) : Ev R Γ w (tMake a.C_Keyboard (spKInit a K) [] E tr) (kbP K a ks) :=
  ev_make h fun w1 x dx vs hO hx hdx hne hv Q E k => by
    cases hv with
    | cons h1 t =>
      cases t
      exact ⟨w1, x, dx, _, ks, rfl, rfl, hO, hx, hdx, hne, h1, hk, fun kt pd w2 s2 g2 h2 hkt => k _ w2 s2 g2 h2 fun G hG gx => ⟨x, dx, kt, _, pd, rfl, gx, dp_mono K hG _ _ hkt⟩⟩
/-! ### machines -/
def maF (kb wd ft : V) : List (Str × V) := [("keyboard", kb), ("width", wd), ("faults", ft)]
theorem maF_put (kb wd ft : V) : putF "faults" ft (putF "width" wd (putF "keyboard" kb [])) = maF kb wd ft := by
  have h1 : ("keyboard" : Str) ≠ "width" := by decide +kernel
  have h2 : ("keyboard" : Str) ≠ "faults" := by decide +kernel
  have h3 : ("width" : Str) ≠ "faults" := by decide +kernel
  simp only [putF, if_neg h1, if_neg h2, if_neg h3]
  rfl
/-- a machine of these keys, this width, these faults -/
def MaAt (K : Fr) (a : Ad) (v : V) (G : Hp) (ks : List Str) (wd : Int) (fs : List Ft) : Prop := ∃ x dx kb ft, v = .ref x ∧ G x = some (.ins a.C_Machine dx (maF kb (.int wd) ft)) ∧ KbAt K a kb G ks ∧ Dp K G ft (.tuple (encs fs))
def maP (K : Fr) (a : Ad) (ks : List Str) (wd : Int) (fs : List Ft) : Pd := ⟨fun v G => MaAt K a v G ks wd fs, fun v G G' k ⟨x, dx, kb, ft, h1, h2, h3, h4⟩ => ⟨x, dx, kb, ft, h1, k _ _ h2, (kbP K a ks).st _ _ _ k h3, dp_mono K k _ _ h4⟩⟩
structure MaOk (ks : List Str) (wd : Int) (fs : List Ft) : Prop where
  kg : KG ks
  lo : 2 ≤ wd
  hi : wd ≤ 20
  wh : ∀ f ∈ fs, f.whole
  fl : fs.length ≤ 1000
  good : firstW ks.length wd fs = none
def spMInit (a : Ad) (K : Fr) (L : List PyData -> PyData) : Sp := fun vs H Q _ => ∃ (w0 : Wd) (x dx : Addr) (kb u : V) (ks : List Str) (wd : Int) (fs : List Ft), H = upd (upd w0.h dx (.own x)) x (.ins a.C_Machine dx []) ∧ vs = [.ref x, kb, .int wd, u] ∧ Ok R0 w0 ∧ w0.h x = none ∧ w0.h dx = none ∧ dx ≠ x ∧ KbAt K a kb w0.g ks ∧ Dp K w0.g u (L (encs fs)) ∧ MaOk ks wd fs ∧
  ∀ kb' ft w', Stp R0 w0 w' → w'.g x = none → w'.h x = some (.ins a.C_Machine dx (maF kb' (.int wd) ft)) → KbAt K a kb' w'.g ks → Dp K w'.g ft (.tuple (encs (sf fs))) → Q .non w'.h
theorem ok_minit_T (T : Txt K mg a) : FnOk P W K mg base CX0 5 a.f_Machine_init a.d_Machine_init ["self", "keyboard", "width", "faults"] (spMInit a K .tuple) := by
  have G_is_number := ok_isnum (P := P) (W := W) (base := base) T
  have G_first_wrong_fault := ok_fwf_T (P := P) (W := W) (base := base) T
  refine T.F_Machine_init.ok sc_Machine_init (fun vs H Q E h => ?_) (fun cdv A outer s H vs Q E hr h => ?_)
  · obtain ⟨w0, x, dx, kb, u, ks, wd, fs, _, rfl, _⟩ := h
    rfl
  · obtain ⟨w0, x, dx, kb, u, ks, wd, fs, rfl, rfl, hO, hx, hdx, hne, hkb, hu, hM, k⟩ := h
    refine ⟨_, (pss_cons (ps_if (pt_not (pt_val (pe_call G_is_number (hr.mono (by decide)) (by rfl) T.g_is_number T.F_is_number.kp T.bi_is_number .nil pass0 (pa_cons (pv 2) (pa_cons (pe_glob (v := .int 2) (by rfl) T.g_LEAST_WIDTH ⟨_, rfl⟩) (pa_cons (pe_glob (v := .int 20) (by rfl) T.g_MOST_WIDTH ⟨_, rfl⟩) pa_nil)))))) (pss_one ps_never) pss_nil)
      (pss_cons (ps_set (i := 4) sc_Machine_init.nd rfl (Or.inl rfl) (pe_call G_first_wrong_fault (hr.mono (by decide)) (by rfl) T.g_first_wrong_fault T.F_first_wrong_fault.kp T.bi_first_wrong_fault .nil pass0 (pa_cons (pv 1) (pa_cons (pv 2) (pa_cons (pv 3) pa_nil)))))
      (pss_cons (ps_if (pt_cmpR op_notN (pv 4) pe_non (nomark _)) (pss_one ps_never) pss_nil)
      (pss_cons (ps_fld (pv 0) (pv 1) rfl)
      (pss_cons (ps_fld (pv 0) (pv 2) rfl)
      (pss_one (ps_fld (pv 0) (pe_callTy call_tuple_of (by rfl) T.b_tuple (by decide +kernel) (pa_cons (pe_callB (cr_sortA rfl hr) (by rfl) T.b_sorted (by decide +kernel) (pa_cons (pv 3) pa_nil)) pa_nil)) rfl))))))), ?_⟩
    have s0 := Stp.made (C := a.C_Machine) hO hx hdx hne
    have e0 := env_start (N := ["self", "keyboard", "width", "faults", "wrong"]) (AllP.cons (p := own x) (v := .ref x) rfl (AllP.cons hkb (.cons (.int wd) (.cons hu .nil))) : AllP w0.g [own x, kbP K a ks, dat K (.int wd), dat K (.tuple (encs fs))] [.ref x, kb, .int wd, u])
    have hn : num (.int wd) 2 20 = true := by
      show (decide (2 ≤ wd) && decide (wd ≤ 20)) = true
      rw [decide_eq_true hM.lo, decide_eq_true hM.hi]
      rfl
    refine q_seq (q_if (b := false) (w := ⟨w0.g, upd (upd w0.h dx (.own x)) x (.ins a.C_Machine dx [])⟩) (EvT.to (et_not (et_test (ev_callR (K := K) (ds := [.int wd, .int 2, .int 20]) (ea_cons (ev_var (p := dat K (.int wd)) rfl) (ea_cons ev_int (ea_cons ev_int ea_nil))) ⟨_, _, _, rfl, rfl⟩))) (by rw [hn]; rfl)) e0 s0.ok (fun hb => by cases hb) (fun hb w1 s1 e1 => q_next ?_))
    refine q_seq (q_asg (ev_call (ea_cons (ev_var (p := kbP K a ks) rfl) (ea_cons (ev_var (p := dat K (.int wd)) rfl) (ea_cons (ev_var (p := dat K (.tuple (encs fs))) rfl) ea_nil))) (rs_fwf (by have := hM.kg.hi; omega) (fun f m => whole_ok (hM.wh f m)) hM.fl)) e1 s1.ok fun σ2 w2 s2 e2 => ?_)
    rw [hM.good] at e2
    refine q_seq (q_if (b := false) (et_test (ev_op (ev_var (p := dat K .none) rfl) ev_non ev_notN)) e2 s2.ok (fun hb => by cases hb) (fun hb w3 s3 e3 => q_next ?_))
    have s13 := (s1.trans s2).trans s3
    have g3 := s13.hid x _ upd_same (hO.gnone hx)
    have h3 := s13.keep x _ upd_same fun z => z
    refine q_seq (q_fld (w0 := w0) T.cl_Machine T.n_Machine_keyboard (ev_var (p := kbP K a ks) rfl) (ev_var (p := own x) rfl) e3 (s0.trans s13) hx g3 h3 (Nat.zero_le _) fun kv w4 s4 e4 g4 h4 hkv m4 => ?_)
    refine q_seq (q_fld (w0 := w0) T.cl_Machine T.n_Machine_width (ev_var (p := dat K (.int wd)) rfl) (ev_var (p := own x) rfl) e4 s4 hx g4 h4 (by simp [putF]) fun wv w5 s5 e5 g5 h5 hwv m5 => ?_)
    obtain ⟨q1, q2, q3⟩ := encs_sort hM.wh
    have hs := ev_cb (R := R0) (w := w5) (s := dat K (.tuple (encs (sf fs)))) (ea_cons (Ev.to (ev_cb (ea_cons (ev_var (p := dat K (.tuple (encs fs))) (Γ := ([some (own x), some (kbP K a ks), some (dat K (.int wd)), some (dat K (.tuple (encs fs))), some (dat K .none)] : Sl)) (i := 3) rfl) ea_nil) (rc_sort (w := w5) (R := R0) (K := K) (ds := encs fs) (by first | exact .inl rfl | exact .inr (.inl rfl)) q1 q2 q3 (by rw [encs_len]; have := hM.fl; omega))) (congrArg PyData.list (srt_encs fs))) ea_nil) rc_tupL
    refine q_fld (w0 := w0) T.cl_Machine T.n_Machine_faults hs (ev_var (p := own x) rfl) e5 s5 hx g5 h5 (by simp [putF]; split <;> simp) fun ft w6 s6 e6 g6 h6 hft m6 => ?_
    cases hwv
    rw [maF_put] at h6
    exact k kv ft w6 s6 g6 h6 ((kbP K a ks).st _ _ _ (fun b o z => m6 b o (m5 b o z)) hkv) hft
theorem ev_ma_T {R : Rg} {Γ : Sl} {w : Wd} {tr : TA} {E : XK} {ks : List Str} {wd : Int} {fs : List Ft} (h : EvA R Γ w tr [kbP K a ks, dat K (.int wd), dat K (.tuple (encs fs))]) (hM : MaOk ks wd fs) : Ev R Γ w (tMake a.C_Machine (spMInit a K .tuple) [] E tr) (maP K a ks wd (sf fs)) :=
  ev_make h fun w1 x dx vs hO hx hdx hne hv Q E k => by
    cases hv with
    | cons h1 t =>
      cases t with
      | cons h2 t =>
        cases t with
        | cons h3 t =>
          cases t
          cases h2
          exact ⟨w1, x, dx, _, _, ks, wd, fs, rfl, rfl, hO, hx, hdx, hne, h1, h3, hM, fun kb ft w2 s2 g2 e2 hkb hft => k _ w2 s2 g2 e2 fun G hG gx => ⟨x, dx, kb, ft, rfl, gx, (kbP K a ks).st _ _ _ hG hkb, dp_mono K hG _ _ hft⟩⟩
theorem ok_minit_L (T : Txt K mg a) : FnOk P W K mg base CX0 5 a.f_Machine_init a.d_Machine_init ["self", "keyboard", "width", "faults"] (spMInit a K .list) := by
  have G_is_number := ok_isnum (P := P) (W := W) (base := base) T
  have G_first_wrong_fault := ok_fwf_L (P := P) (W := W) (base := base) T
  refine T.F_Machine_init.ok sc_Machine_init (fun vs H Q E h => ?_) (fun cdv A outer s H vs Q E hr h => ?_)
  · obtain ⟨w0, x, dx, kb, u, ks, wd, fs, _, rfl, _⟩ := h
    rfl
  · obtain ⟨w0, x, dx, kb, u, ks, wd, fs, rfl, rfl, hO, hx, hdx, hne, hkb, hu, hM, k⟩ := h
    refine ⟨_, (pss_cons (ps_if (pt_not (pt_val (pe_call G_is_number (hr.mono (by decide)) (by rfl) T.g_is_number T.F_is_number.kp T.bi_is_number .nil pass0 (pa_cons (pv 2) (pa_cons (pe_glob (v := .int 2) (by rfl) T.g_LEAST_WIDTH ⟨_, rfl⟩) (pa_cons (pe_glob (v := .int 20) (by rfl) T.g_MOST_WIDTH ⟨_, rfl⟩) pa_nil)))))) (pss_one ps_never) pss_nil)
      (pss_cons (ps_set (i := 4) sc_Machine_init.nd rfl (Or.inl rfl) (pe_call G_first_wrong_fault (hr.mono (by decide)) (by rfl) T.g_first_wrong_fault T.F_first_wrong_fault.kp T.bi_first_wrong_fault .nil pass0 (pa_cons (pv 1) (pa_cons (pv 2) (pa_cons (pv 3) pa_nil)))))
      (pss_cons (ps_if (pt_cmpR op_notN (pv 4) pe_non (nomark _)) (pss_one ps_never) pss_nil)
      (pss_cons (ps_fld (pv 0) (pv 1) rfl)
      (pss_cons (ps_fld (pv 0) (pv 2) rfl)
      (pss_one (ps_fld (pv 0) (pe_callTy call_tuple_of (by rfl) T.b_tuple (by decide +kernel) (pa_cons (pe_callB (cr_sortA rfl hr) (by rfl) T.b_sorted (by decide +kernel) (pa_cons (pv 3) pa_nil)) pa_nil)) rfl))))))), ?_⟩
    have s0 := Stp.made (C := a.C_Machine) hO hx hdx hne
    have e0 := env_start (N := ["self", "keyboard", "width", "faults", "wrong"]) (AllP.cons (p := own x) (v := .ref x) rfl (AllP.cons hkb (.cons (.int wd) (.cons hu .nil))) : AllP w0.g [own x, kbP K a ks, dat K (.int wd), dat K (.list (encs fs))] [.ref x, kb, .int wd, u])
    have hn : num (.int wd) 2 20 = true := by
      show (decide (2 ≤ wd) && decide (wd ≤ 20)) = true
      rw [decide_eq_true hM.lo, decide_eq_true hM.hi]
      rfl
    refine q_seq (q_if (b := false) (w := ⟨w0.g, upd (upd w0.h dx (.own x)) x (.ins a.C_Machine dx [])⟩) (EvT.to (et_not (et_test (ev_callR (K := K) (ds := [.int wd, .int 2, .int 20]) (ea_cons (ev_var (p := dat K (.int wd)) rfl) (ea_cons ev_int (ea_cons ev_int ea_nil))) ⟨_, _, _, rfl, rfl⟩))) (by rw [hn]; rfl)) e0 s0.ok (fun hb => by cases hb) (fun hb w1 s1 e1 => q_next ?_))
    refine q_seq (q_asg (ev_call (ea_cons (ev_var (p := kbP K a ks) rfl) (ea_cons (ev_var (p := dat K (.int wd)) rfl) (ea_cons (ev_var (p := dat K (.list (encs fs))) rfl) ea_nil))) (rs_fwf (by have := hM.kg.hi; omega) (fun f m => whole_ok (hM.wh f m)) hM.fl)) e1 s1.ok fun σ2 w2 s2 e2 => ?_)
    rw [hM.good] at e2
    refine q_seq (q_if (b := false) (et_test (ev_op (ev_var (p := dat K .none) rfl) ev_non ev_notN)) e2 s2.ok (fun hb => by cases hb) (fun hb w3 s3 e3 => q_next ?_))
    have s13 := (s1.trans s2).trans s3
    have g3 := s13.hid x _ upd_same (hO.gnone hx)
    have h3 := s13.keep x _ upd_same fun z => z
    refine q_seq (q_fld (w0 := w0) T.cl_Machine T.n_Machine_keyboard (ev_var (p := kbP K a ks) rfl) (ev_var (p := own x) rfl) e3 (s0.trans s13) hx g3 h3 (Nat.zero_le _) fun kv w4 s4 e4 g4 h4 hkv m4 => ?_)
    refine q_seq (q_fld (w0 := w0) T.cl_Machine T.n_Machine_width (ev_var (p := dat K (.int wd)) rfl) (ev_var (p := own x) rfl) e4 s4 hx g4 h4 (by simp [putF]) fun wv w5 s5 e5 g5 h5 hwv m5 => ?_)
    obtain ⟨q1, q2, q3⟩ := encs_sort hM.wh
    have hs := ev_cb (R := R0) (w := w5) (s := dat K (.tuple (encs (sf fs)))) (ea_cons (Ev.to (ev_cb (ea_cons (ev_var (p := dat K (.list (encs fs))) (Γ := ([some (own x), some (kbP K a ks), some (dat K (.int wd)), some (dat K (.list (encs fs))), some (dat K .none)] : Sl)) (i := 3) rfl) ea_nil) (rc_sort (w := w5) (R := R0) (K := K) (ds := encs fs) (by first | exact .inl rfl | exact .inr (.inl rfl)) q1 q2 q3 (by rw [encs_len]; have := hM.fl; omega))) (congrArg PyData.list (srt_encs fs))) ea_nil) rc_tupL
    refine q_fld (w0 := w0) T.cl_Machine T.n_Machine_faults hs (ev_var (p := own x) rfl) e5 s5 hx g5 h5 (by simp [putF]; split <;> simp) fun ft w6 s6 e6 g6 h6 hft m6 => ?_
    cases hwv
    rw [maF_put] at h6
    exact k kv ft w6 s6 g6 h6 ((kbP K a ks).st _ _ _ (fun b o z => m6 b o (m5 b o z)) hkv) hft
theorem ev_ma_L {R : Rg} {Γ : Sl} {w : Wd} {tr : TA} {E : XK} {ks : List Str} {wd : Int} {fs : List Ft} (h : EvA R Γ w tr [kbP K a ks, dat K (.int wd), dat K (.list (encs fs))]) (hM : MaOk ks wd fs) : Ev R Γ w (tMake a.C_Machine (spMInit a K .list) [] E tr) (maP K a ks wd (sf fs)) :=
  ev_make h fun w1 x dx vs hO hx hdx hne hv Q E k => by
    cases hv with
    | cons h1 t =>
      cases t with
      | cons h2 t =>
        cases t with
        | cons h3 t =>
          cases t
          cases h2
          exact ⟨w1, x, dx, _, _, ks, wd, fs, rfl, rfl, hO, hx, hdx, hne, h1, h3, hM, fun kb ft w2 s2 g2 e2 hkb hft => k _ w2 s2 g2 e2 fun G hG gx => ⟨x, dx, kb, ft, rfl, gx, (kbP K a ks).st _ _ _ hG hkb, dp_mono K hG _ _ hft⟩⟩
end
end Tf
namespace Tf
open PySem L2 PyProof.Rows
section
variable {K : Fr} {R : Rg} {Γ : Sl} {w : Wd} {ta : TE}
theorem ev_fld {C : Addr} {f : Str} {p q : Pd} (c : Cls K C) (n : NoAttr K C f) (h : Ev R Γ w ta p) (hp : ∀ v G, p.P v G → ∃ x dx fs u, v = .ref x ∧ G x = some (.ins C dx fs) ∧ fs.lookup f = some u ∧ q.P u G) : Ev R Γ w (tFld K ta f) q := fun σ w1 e a Q k =>
  h σ w1 e a _ fun v w2 s2 hv => by
    obtain ⟨x, dx, fs, u, rfl, hx, hl, hq⟩ := hp v _ hv
    exact ⟨x, C, dx, fs, u, rfl, s2.ok.sub _ _ hx, c, n, hl, k u w2 s2 hq⟩
end
theorem maF_kb (kb wd ft : V) : (maF kb wd ft).lookup ("keyboard" : Str) = some kb := by
  unfold maF
  simp [List.lookup]
theorem maF_wd (kb wd ft : V) : (maF kb wd ft).lookup ("width" : Str) = some wd := by
  have h1 : (("width" : Str) == "keyboard") = false := by decide +kernel
  unfold maF
  simp [List.lookup, h1]
theorem maF_ft (kb wd ft : V) : (maF kb wd ft).lookup ("faults" : Str) = some ft := by
  have h1 : (("faults" : Str) == "keyboard") = false := by decide +kernel
  have h2 : (("faults" : Str) == "width") = false := by decide +kernel
  unfold maF
  simp [List.lookup, h1, h2]
section
variable {K : Fr} {a : Ad} {ks : List Str} {wd : Int} {fs : List Ft}
theorem kbP_ks : ∀ v G, (kbP K a ks).P v G → ∃ x dx gs u, v = .ref x ∧ G x = some (.ins a.C_Keyboard dx gs) ∧ gs.lookup ("key_signs" : Str) = some u ∧ (dat K (tS ks)).P u G := fun v G h => by
  obtain ⟨x, dx, kt, sg, pd, rfl, hx, hk⟩ := h
  exact ⟨x, dx, _, kt, rfl, hx, kbF_key _ _ _, hk⟩
theorem maP_kb : ∀ v G, (maP K a ks wd fs).P v G → ∃ x dx gs u, v = .ref x ∧ G x = some (.ins a.C_Machine dx gs) ∧ gs.lookup ("keyboard" : Str) = some u ∧ (kbP K a ks).P u G := fun v G h => by
  obtain ⟨x, dx, kb, ft, rfl, hx, hk, hf⟩ := h
  exact ⟨x, dx, _, kb, rfl, hx, maF_kb _ _ _, hk⟩
theorem maP_wd : ∀ v G, (maP K a ks wd fs).P v G → ∃ x dx gs u, v = .ref x ∧ G x = some (.ins a.C_Machine dx gs) ∧ gs.lookup ("width" : Str) = some u ∧ (dat K (.int wd)).P u G := fun v G h => by
  obtain ⟨x, dx, kb, ft, rfl, hx, hk, hf⟩ := h
  exact ⟨x, dx, _, _, rfl, hx, maF_wd _ _ _, .int wd⟩
theorem maP_ft : ∀ v G, (maP K a ks wd fs).P v G → ∃ x dx gs u, v = .ref x ∧ G x = some (.ins a.C_Machine dx gs) ∧ gs.lookup ("faults" : Str) = some u ∧ (dat K (.tuple (encs fs))).P u G := fun v G h => by
  obtain ⟨x, dx, kb, ft, rfl, hx, hk, hf⟩ := h
  exact ⟨x, dx, _, ft, rfl, hx, maF_ft _ _ _, hf⟩
theorem kbP_ins : ∀ v G, (kbP K a ks).P v G → InsOf a.C_Keyboard v G := fun v G h => by
  obtain ⟨x, dx, kt, sg, pd, rfl, hx, hk⟩ := h
  exact ⟨x, dx, _, rfl, hx⟩
theorem maP_ins : ∀ v G, (maP K a ks wd fs).P v G → InsOf a.C_Machine v G := fun v G h => by
  obtain ⟨x, dx, kb, ft, rfl, hx, hk, hf⟩ := h
  exact ⟨x, dx, _, rfl, hx⟩
end
def spKEq (a : Ad) (K : Fr) : Sp := fun vs H Q _ => ∃ (w : Wd) (v u : V) (ks js : List Str), w.h = H ∧ vs = [v, u] ∧ Ok R0 w ∧ KbAt K a v w.g ks ∧ KbAt K a u w.g js ∧ (∀ k ∈ ks, hts k = true) ∧ (∀ k ∈ js, hts k = true) ∧ ∀ w', Stp R0 w w' → Q (.bl (decide (ks = js))) w'.h
theorem encs_shaped {fs : List Ft} (h : ∀ f ∈ fs, f.whole) : SeqAt.shaped (.tuple (encs fs)) = true ∧ SeqAt.shaped (.list (encs fs)) = true := by
  have h1 : SeqAt.shaped (.list (encs fs)) = true := shaped_list fun d m => by
    obtain ⟨f, hf, rfl⟩ := encs_mem m
    obtain ⟨a, b⟩ := enc_lay (whole_ok (h f hf))
    exact ⟨a, by omega⟩
  exact ⟨by
    have e : SeqAt.shaped (.tuple (encs fs)) = SeqAt.shaped (.list (encs fs)) := by
      show (PyData.canLay0 _ && decide (PyData.depth _ ≤ 64)) = (PyData.canLay0 _ && decide (PyData.depth _ ≤ 64))
      simp only [PyData.canLay0, PyData.depth]
      rfl
    rw [e]
    exact h1, h1⟩
/-- machines alike -/
def maEq (ks js : List Str) (wd vd : Int) (fs gs : List Ft) : Bool := decide (ks = js) && (decide (wd = vd) && PyData.eqv (.tuple (encs fs)) (.tuple (encs gs)))
def spMEq (a : Ad) (K : Fr) : Sp := fun vs H Q _ => ∃ (w : Wd) (v u : V) (ks js : List Str) (wd vd : Int) (fs gs : List Ft), w.h = H ∧ vs = [v, u] ∧ Ok R0 w ∧ MaAt K a v w.g ks wd fs ∧ MaAt K a u w.g js vd gs ∧ KG ks ∧ KG js ∧ (∀ f ∈ fs, f.whole) ∧ (∀ f ∈ gs, f.whole) ∧ ∀ w', Stp R0 w w' → Q (.bl (maEq ks js wd vd fs gs)) w'.h
section
variable {P : Program} {W : World} {K : Fr} {mg : Str -> Option Value} {base : Heap} {a : Ad}
theorem ok_keq (T : Txt K mg a) : FnOk P W K mg base CX0 1 a.f_Keyboard_eq a.d_Keyboard_eq ["self", "other"] (spKEq a K) := by
  refine T.F_Keyboard_eq.ok sc_Keyboard_eq (fun vs H Q E h => ?_) (fun cdv A outer s H vs Q E hr h => ?_)
  · obtain ⟨w, v, u, ks, js, rfl, rfl, _⟩ := h
    rfl
  · obtain ⟨w, v, u, ks, js, rfl, rfl, hO, hv, hu, h1, h2, k⟩ := h
    refine ⟨_, (pss_one (ps_ret (pe_and (pe_callB (r := rIsi K) call_isi (by rfl) T.b_isinstance (by decide +kernel) (pa_cons (pv 1) (pa_cons (pe_glob (v := .ref a.C_Keyboard) (by rfl) T.g_Keyboard rfl) pa_nil))) (pe_one (pe_cmpR (r := rEqD K) (op_eqD hr.units) (pe_fld (pv 0) rfl) (pe_fld (pv 1) rfl) (nomark _)))))), ?_⟩
    have e0 := env_start (N := ["self", "other"]) (AllP.cons hv (.cons hu .nil) : AllP w.g [kbP K a ks, kbP K a js] [v, u])
    refine q_ret (Ev.to (ev_andV (ev_cb (ea_cons (ev_var (p := kbP K a js) rfl) (ea_cons (ev_cp (p := clsP a.C_Keyboard) fun _ => rfl) ea_nil)) (rc_isiC T.ty_Keyboard T.cl_Keyboard kbP_ins)) fun _ => ev_op (ev_fld T.cl_Keyboard T.n_Keyboard_key_signs (ev_var (p := kbP K a ks) rfl) kbP_ks) (ev_fld T.cl_Keyboard T.n_Keyboard_key_signs (ev_var (p := kbP K a js) rfl) kbP_ks) (rv_eqD (tS_shaped h1) (tS_shaped h2))) (d' := .bool (decide (ks = js))) (by rw [eqv_tS]; rfl)) e0 hO fun v w' s' hv => ?_
    cases hv
    exact k w' s'
theorem rv_keq {R : Rg} {w : Wd} {ks js : List Str} (h1 : ∀ k ∈ ks, hts k = true) (h2 : ∀ k ∈ js, hts k = true) : RV R w (rEqO a.C_Keyboard (spKEq a K) E0) (kbP K a ks) (kbP K a js) (dat K (.bool (decide (ks = js)))) := fun x y w1 s1 hx hy Q k => by
  have hx' := hx
  have hy' := hy
  obtain ⟨x, dx, kt, sg, pd, rfl, ex, _⟩ := hx
  obtain ⟨y, dy, kt', sg', pd', rfl, ey, _⟩ := hy
  exact ⟨x, y, dx, dy, _, _, rfl, rfl, s1.ok.sub _ _ ex, s1.ok.sub _ _ ey, w1, _, _, ks, js, rfl, rfl, s1.ok.low, hx', hy', h1, h2, fun w2 s2 => ⟨_, rfl, k _ w2 (s2.lift s1.ok) (.bl _)⟩⟩
theorem ok_meq (T : Txt K mg a) : FnOk P W K mg base CX0 2 a.f_Machine_eq a.d_Machine_eq ["self", "other"] (spMEq a K) := by
  have G_Keyboard_eq := ok_keq (P := P) (W := W) (base := base) T
  refine T.F_Machine_eq.ok sc_Machine_eq (fun vs H Q E h => ?_) (fun cdv A outer s H vs Q E hr h => ?_)
  · obtain ⟨w, v, u, ks, js, wd, vd, fs, gs, rfl, rfl, _⟩ := h
    rfl
  · obtain ⟨w, v, u, ks, js, wd, vd, fs, gs, rfl, rfl, hO, hv, hu, h1, h2, h3, h4, k⟩ := h
    refine ⟨_, (pss_one (ps_ret (pe_and (pe_callB (r := rIsi K) call_isi (by rfl) T.b_isinstance (by decide +kernel) (pa_cons (pv 1) (pa_cons (pe_glob (v := .ref a.C_Machine) (by rfl) T.g_Machine rfl) pa_nil))) (pe_and (pe_cmpR (r := rEqO a.C_Keyboard (spKEq a K) E0) (op_eqO G_Keyboard_eq (hr.mono (by decide)) T.m_Keyboard_eq.at_ T.m_Keyboard_eq.fn T.bi_Keyboard_eq pass0) (pe_fld (pv 0) rfl) (pe_fld (pv 1) rfl) (nomark _)) (pe_and (pe_cmpR op_eq (pe_fld (pv 0) rfl) (pe_fld (pv 1) rfl) (nomark _)) (pe_one (pe_cmpR (r := rEqD K) (op_eqD hr.units) (pe_fld (pv 0) rfl) (pe_fld (pv 1) rfl) (nomark _)))))))), ?_⟩
    have e0 := env_start (N := ["self", "other"]) (AllP.cons hv (.cons hu .nil) : AllP w.g [maP K a ks wd fs, maP K a js vd gs] [v, u])
    refine q_ret (Ev.to (ev_andV (ev_cb (ea_cons (ev_var (p := maP K a js vd gs) rfl) (ea_cons (ev_cp (p := clsP a.C_Machine) fun _ => rfl) ea_nil)) (rc_isiC T.ty_Machine T.cl_Machine maP_ins)) fun _ =>
      ev_andV (ev_op (ev_fld T.cl_Machine T.n_Machine_keyboard (ev_var (p := maP K a ks wd fs) rfl) maP_kb) (ev_fld T.cl_Machine T.n_Machine_keyboard (ev_var (p := maP K a js vd gs) rfl) maP_kb) (rv_keq h1.two h2.two)) fun _ =>
      ev_andV (ev_op (ev_fld T.cl_Machine T.n_Machine_width (ev_var (p := maP K a ks wd fs) rfl) maP_wd) (ev_fld T.cl_Machine T.n_Machine_width (ev_var (p := maP K a js vd gs) rfl) maP_wd) (rv_eq rfl)) fun _ =>
      ev_op (ev_fld T.cl_Machine T.n_Machine_faults (ev_var (p := maP K a ks wd fs) rfl) maP_ft) (ev_fld T.cl_Machine T.n_Machine_faults (ev_var (p := maP K a js vd gs) rfl) maP_ft) (rv_eqD (encs_shaped h3).1 (encs_shaped h4).1)) (d' := .bool (maEq ks js wd vd fs gs)) rfl) e0 hO fun v w' s' hv => ?_
    cases hv
    exact k w' s'
theorem rv_meq {R : Rg} {w : Wd} {ks js : List Str} {wd vd : Int} {fs gs : List Ft} (h1 : KG ks) (h2 : KG js) (h3 : ∀ f ∈ fs, f.whole) (h4 : ∀ f ∈ gs, f.whole) : RV R w (rEqO a.C_Machine (spMEq a K) E0) (maP K a ks wd fs) (maP K a js vd gs) (dat K (.bool (maEq ks js wd vd fs gs))) := fun x y w1 s1 hx hy Q k => by
  have hx' := hx
  have hy' := hy
  obtain ⟨x, dx, kt, sg, rfl, ex, _⟩ := hx
  obtain ⟨y, dy, kt', sg', rfl, ey, _⟩ := hy
  exact ⟨x, y, dx, dy, _, _, rfl, rfl, s1.ok.sub _ _ ex, s1.ok.sub _ _ ey, w1, _, _, ks, js, wd, vd, fs, gs, rfl, rfl, s1.ok.low, hx', hy', h1, h2, h3, h4, fun w2 s2 => ⟨_, rfl, k _ w2 (s2.lift s1.ok) (.bl _)⟩⟩
theorem rv_mne {R : Rg} {w : Wd} {ks js : List Str} {wd vd : Int} {fs gs : List Ft} (h1 : KG ks) (h2 : KG js) (h3 : ∀ f ∈ fs, f.whole) (h4 : ∀ f ∈ gs, f.whole) : RV R w (rNeO a.C_Machine (spMEq a K) E0) (maP K a ks wd fs) (maP K a js vd gs) (dat K (.bool (!maEq ks js wd vd fs gs))) := fun x y w1 s1 hx hy Q k => by
  have hx' := hx
  have hy' := hy
  obtain ⟨x, dx, kt, sg, rfl, ex, _⟩ := hx
  obtain ⟨y, dy, kt', sg', rfl, ey, _⟩ := hy
  exact ⟨x, y, dx, dy, _, _, rfl, rfl, s1.ok.sub _ _ ex, s1.ok.sub _ _ ey, w1, _, _, ks, js, wd, vd, fs, gs, rfl, rfl, s1.ok.low, hx', hy', h1, h2, h3, h4, fun w2 s2 => ⟨_, rfl, k _ w2 (s2.lift s1.ok) (.bl _)⟩⟩
/-! ### with_fault, repaired -/
def spWf (a : Ad) (K : Fr) : Sp := fun vs H Q _ => ∃ (w : Wd) (v u : V) (ks : List Str) (wd : Int) (fs : List Ft) (f : Ft), w.h = H ∧ vs = [v, u] ∧ Ok R0 w ∧ MaAt K a v w.g ks wd fs ∧ Dp K w.g u f.enc ∧ MaOk ks wd (fs ++ [f]) ∧ ∀ v' w', Stp R0 w w' → MaAt K a v' w'.g ks wd (sf (fs ++ [f])) → Q v' w'.h
theorem encs_snoc (fs : List Ft) (f : Ft) : encs (fs ++ [f]) = encs fs ++ [f.enc] := by
  unfold encs
  rw [List.map_append]
  rfl
theorem ok_wf (T : Txt K mg a) : FnOk P W K mg base CX0 7 a.f_Machine_with_fault a.d_Machine_with_fault ["self", "fault"] (spWf a K) := by
  have G_Machine_init := ok_minit_T (P := P) (W := W) (base := base) T
  refine T.F_Machine_with_fault.ok sc_Machine_with_fault (fun vs H Q E h => ?_) (fun cdv A outer s H vs Q E hr h => ?_)
  · obtain ⟨w, v, u, ks, wd, fs, f, rfl, rfl, _⟩ := h
    rfl
  · obtain ⟨w, v, u, ks, wd, fs, f, rfl, rfl, hO, hv, hu, hM, k⟩ := h
    refine ⟨_, (pss_one (ps_ret (pe_make T.mk_Machine G_Machine_init (hr.mono (by decide)) (by rfl) T.g_Machine T.bi_Machine_init .nil pass0 (pa_cons (pe_fld (pv 0) rfl) (pa_cons (pe_fld (pv 0) rfl) (pa_cons (pe_op (r := rCatA K) op_catA (pe_fld (pv 0) rfl) (pe_tup (pa_cons (pv 1) pa_nil))) pa_nil)))))), ?_⟩
    have e0 := env_start (N := ["self", "fault"]) (AllP.cons hv (.cons hu .nil) : AllP w.g [maP K a ks wd fs, dat K f.enc] [v, u])
    have hl := hM.fl
    rw [List.length_append] at hl
    refine q_ret (ev_ma_T (ea_cons (ev_fld T.cl_Machine T.n_Machine_keyboard (ev_var (p := maP K a ks wd fs) rfl) maP_kb) (ea_cons (ev_fld T.cl_Machine T.n_Machine_width (ev_var (p := maP K a ks wd fs) rfl) maP_wd) (ea_cons (Ev.to (ev_op (ev_fld T.cl_Machine T.n_Machine_faults (ev_var (p := maP K a ks wd fs) rfl) maP_ft) (ev_tup [f.enc] (ea_cons (ev_var rfl) ea_nil) (hl := one_le)) (rv_catT (by rw [encs_len, List.length_singleton]; rw [List.length_singleton] at hl; omega))) (congrArg PyData.tuple (encs_snoc fs f).symm)) ea_nil))) hM) e0 hO fun v' w' s' hv' => k v' w' s' hv'
theorem picked_encs (fs gs : List Ft) : picked (fun d => !(encs gs).any fun z => PyData.eqv z d) id (encs fs) = encs (leftF fs gs) := by
  unfold picked leftF inF encs
  rw [List.map_id, List.filter_map]
  congr 1
  congr 1
  funext f
  show (!(gs.map Ft.enc).any fun z => PyData.eqv z f.enc) = _
  rw [List.any_map]
  rfl
def spRep (a : Ad) (K : Fr) (L : List PyData -> PyData) : Sp := fun vs H Q _ => ∃ (w : Wd) (v u : V) (ks : List Str) (wd : Int) (fs gs : List Ft), w.h = H ∧ vs = [v, u] ∧ Ok R0 w ∧ MaAt K a v w.g ks wd fs ∧ (∀ f ∈ fs, f.whole) ∧ fs.length ≤ 1000 ∧ Dp K w.g u (L (encs gs)) ∧ (∀ f ∈ gs, f.whole) ∧ gs.length ≤ 1000 ∧ MaOk ks wd (leftF fs gs) ∧ ∀ v' w', Stp R0 w w' → MaAt K a v' w'.g ks wd (sf (leftF fs gs)) → Q v' w'.h
theorem ok_rep_T (T : Txt K mg a) : FnOk P W K mg base CX0 7 a.f_Machine_repaired a.d_Machine_repaired ["self", "faults"] (spRep a K .tuple) := by
  have G_Machine_init := ok_minit_L (P := P) (W := W) (base := base) T
  refine T.F_Machine_repaired.ok sc_Machine_repaired (fun vs H Q E h => ?_) (fun cdv A outer s H vs Q E hr h => ?_)
  · obtain ⟨w, v, u, ks, wd, fs, gs, rfl, rfl, _⟩ := h
    rfl
  · obtain ⟨w, v, u, ks, wd, fs, gs, rfl, rfl, hO, hv, hf, hfl, hu, hg, hgl, hM, k⟩ := h
    refine ⟨_, (pss_cons (ps_setLc (i := 2) (own := [("fault", 3)]) (g := gName 3) rfl sc_Machine_repaired.nd rfl rfl (sw_true rfl rfl rfl (by decide +kernel)) (pi_tup (pe_fld (pv 0) rfl)) (blkOk_by (N := ["self", "faults", "left", "fault"]) (sc := defScope s_Machine_repaired) (by decide +kernel)) (fun _ _ _ _ _ => (pg_name (i := 3) sc_Machine_repaired.nd rfl (Or.inl rfl))) (fun _ _ _ _ _ => (pts_one (pt_cmpR (r := rInA K true) (op_notInA (hu65 hr)) (pv 3) (pv 1) (by rfl)))) (fun _ _ _ _ _ => (pv 3)))
      (pss_one (ps_ret (pe_make T.mk_Machine G_Machine_init (hr.mono (by decide)) (by rfl) T.g_Machine T.bi_Machine_init .nil pass0 (pa_cons (pe_fld (pv 0) rfl) (pa_cons (pe_fld (pv 0) rfl) (pa_cons (pv 2) pa_nil))))))), ?_⟩
    have e0 := env_start (N := ["self", "faults", "left", "fault"]) (AllP.cons hv (.cons hu .nil) : AllP w.g [maP K a ks wd fs, dat K (.tuple (encs gs))] [v, u])
    have cm : Ev R0 ([some (maP K a ks wd fs), some (dat K (.tuple (encs gs))), none, none] : Sl) w (tLc (iTup K (tFld K (tVar 0) "faults")) (gName 3) (tTest (tOp (rInA K true) (tVar 3) (tVar 1))) (tVar 3) [3]) (dat K (.list (encs (leftF fs gs)))) := by
      have q := ev_lcT (K := K) (R := R0) (w := w) (Γ := ([some (maP K a ks wd fs), some (dat K (.tuple (encs gs))), none, none] : Sl)) (j := 3) (tt := tTest (tOp (rInA K true) (tVar 3) (tVar 1))) (te := tVar 3) (ds := encs fs) (fun d => !(encs gs).any fun z => PyData.eqv z d) id (by rw [encs_len]; omega)
        (ev_fld T.cl_Machine T.n_Machine_faults (ev_var (p := maP K a ks wd fs) (i := 0) rfl) maP_ft) (fun i d hd w3 s3 => by
          obtain ⟨f, hi, rfl⟩ := encs_get hd
          exact et_test (ev_op (ev_var (p := dat K f.enc) rfl) (ev_var (p := dat K (.tuple (encs gs))) rfl) (rv_inT (neg := true) (shaped_of (enc_lay (whole_ok (hf f (List.mem_of_getElem? hi))))) (encs_shaped hg).2))) (fun i d hd w3 s3 _ => ev_var (p := dat K d) rfl)
      rw [picked_encs] at q
      exact q
    refine q_seq (q_asg cm e0 hO fun σ1 w1 s1 e1 => ?_)
    exact q_ret (ev_ma_L (ea_cons (ev_fld T.cl_Machine T.n_Machine_keyboard (ev_var (p := maP K a ks wd fs) rfl) maP_kb) (ea_cons (ev_fld T.cl_Machine T.n_Machine_width (ev_var (p := maP K a ks wd fs) rfl) maP_wd) (ea_cons (ev_var (p := dat K (.list (encs (leftF fs gs)))) rfl) ea_nil))) hM) e1 s1.ok fun v' w' s' hv' => k v' w' (s1.trans s') hv'
theorem ok_rep_L (T : Txt K mg a) : FnOk P W K mg base CX0 7 a.f_Machine_repaired a.d_Machine_repaired ["self", "faults"] (spRep a K .list) := by
  have G_Machine_init := ok_minit_L (P := P) (W := W) (base := base) T
  refine T.F_Machine_repaired.ok sc_Machine_repaired (fun vs H Q E h => ?_) (fun cdv A outer s H vs Q E hr h => ?_)
  · obtain ⟨w, v, u, ks, wd, fs, gs, rfl, rfl, _⟩ := h
    rfl
  · obtain ⟨w, v, u, ks, wd, fs, gs, rfl, rfl, hO, hv, hf, hfl, hu, hg, hgl, hM, k⟩ := h
    refine ⟨_, (pss_cons (ps_setLc (i := 2) (own := [("fault", 3)]) (g := gName 3) rfl sc_Machine_repaired.nd rfl rfl (sw_true rfl rfl rfl (by decide +kernel)) (pi_tup (pe_fld (pv 0) rfl)) (blkOk_by (N := ["self", "faults", "left", "fault"]) (sc := defScope s_Machine_repaired) (by decide +kernel)) (fun _ _ _ _ _ => (pg_name (i := 3) sc_Machine_repaired.nd rfl (Or.inl rfl))) (fun _ _ _ _ _ => (pts_one (pt_cmpR (r := rInA K true) (op_notInA (hu65 hr)) (pv 3) (pv 1) (by rfl)))) (fun _ _ _ _ _ => (pv 3)))
      (pss_one (ps_ret (pe_make T.mk_Machine G_Machine_init (hr.mono (by decide)) (by rfl) T.g_Machine T.bi_Machine_init .nil pass0 (pa_cons (pe_fld (pv 0) rfl) (pa_cons (pe_fld (pv 0) rfl) (pa_cons (pv 2) pa_nil))))))), ?_⟩
    have e0 := env_start (N := ["self", "faults", "left", "fault"]) (AllP.cons hv (.cons hu .nil) : AllP w.g [maP K a ks wd fs, dat K (.list (encs gs))] [v, u])
    have cm : Ev R0 ([some (maP K a ks wd fs), some (dat K (.list (encs gs))), none, none] : Sl) w (tLc (iTup K (tFld K (tVar 0) "faults")) (gName 3) (tTest (tOp (rInA K true) (tVar 3) (tVar 1))) (tVar 3) [3]) (dat K (.list (encs (leftF fs gs)))) := by
      have q := ev_lcT (K := K) (R := R0) (w := w) (Γ := ([some (maP K a ks wd fs), some (dat K (.list (encs gs))), none, none] : Sl)) (j := 3) (tt := tTest (tOp (rInA K true) (tVar 3) (tVar 1))) (te := tVar 3) (ds := encs fs) (fun d => !(encs gs).any fun z => PyData.eqv z d) id (by rw [encs_len]; omega)
        (ev_fld T.cl_Machine T.n_Machine_faults (ev_var (p := maP K a ks wd fs) (i := 0) rfl) maP_ft) (fun i d hd w3 s3 => by
          obtain ⟨f, hi, rfl⟩ := encs_get hd
          exact et_test (ev_op (ev_var (p := dat K f.enc) rfl) (ev_var (p := dat K (.list (encs gs))) rfl) (rv_inL (neg := true) (shaped_of (enc_lay (whole_ok (hf f (List.mem_of_getElem? hi))))) (encs_shaped hg).2))) (fun i d hd w3 s3 _ => ev_var (p := dat K d) rfl)
      rw [picked_encs] at q
      exact q
    refine q_seq (q_asg cm e0 hO fun σ1 w1 s1 e1 => ?_)
    exact q_ret (ev_ma_L (ea_cons (ev_fld T.cl_Machine T.n_Machine_keyboard (ev_var (p := maP K a ks wd fs) rfl) maP_kb) (ea_cons (ev_fld T.cl_Machine T.n_Machine_width (ev_var (p := maP K a ks wd fs) rfl) maP_wd) (ea_cons (ev_var (p := dat K (.list (encs (leftF fs gs)))) rfl) ea_nil))) hM) e1 s1.ok fun v' w' s' hv' => k v' w' (s1.trans s') hv'
end
end Tf
namespace Tf
open PySem L2 PyProof.Rows
section
variable {P : Program} {W : World} {K : Fr} {mg : Str -> Option Value} {base : Heap} {a : Ad}
theorem ok_l_fault (T : Txt K mg a) : FnOk P W K mg base CX0 2 a.f_l_fault a.d_l_fault ["_law_h", "_law_keys_here", "_law_width"] (spFault K) := by
  have G_l_next := ok_next (P := P) (W := W) (base := base) T
  refine T.F_l_fault.ok sc_l_fault (fun vs H Q E h => ?_) (fun cdv A outer s H vs Q E hr h => ?_)
  · obtain ⟨w, p, c, u, ks, wd, rfl, rfl, _⟩ := h
    rfl
  · obtain ⟨w, p, c, u, ks, wd, rfl, rfl, hO, hu, hk1, hk2, hw1, hw2, k⟩ := h
    refine ⟨_, (pss_cons (ps_par3 (i := 3) (j := 4) (l := 5) (by rfl) sc_l_fault.nd rfl rfl rfl (by decide) (by decide) (by decide) rfl rfl rfl (pa_cons (pe_call G_l_next (hr.mono (by decide)) (by rfl) T.g__law_next T.F_l_next.kp T.bi_l_next .nil pass0 (pa_cons (pv 0) (pa_cons pe_int pa_nil))) (pa_cons (pe_call G_l_next (hr.mono (by decide)) (by rfl) T.g__law_next T.F_l_next.kp T.bi_l_next .nil pass0 (pa_cons (pv 0) (pa_cons (pe_callB (r := rLen K) call_len (by rfl) T.b_len (by decide +kernel) (pa_cons (pv 1) pa_nil)) pa_nil))) (pa_cons (pe_call G_l_next (hr.mono (by decide)) (by rfl) T.g__law_next T.F_l_next.kp T.bi_l_next .nil pass0 (pa_cons (pv 0) (pa_cons (pe_callB (r := rLen K) call_len (by rfl) T.b_len (by decide +kernel) (pa_cons (pv 1) pa_nil)) pa_nil))) pa_nil))) (by rfl))
      (pss_cons (ps_if (pt_cmpR op_lt (pv 3) pe_int (nomark _)) (pss_one (ps_ret (pe_ix (r := rIx K) ix_seq (pe_lst (pa_cons (pe_tup (pa_cons pe_str pa_nil)) (pa_cons (pe_tup (pa_cons pe_str pa_nil)) (pa_cons (pe_tup (pa_cons pe_str pa_nil)) (pa_cons (pe_tup (pa_cons pe_str pa_nil)) pa_nil))))) (pv 3) (fun _ _ => rfl)))) pss_nil)
      (pss_cons (ps_if (pt_cmpR op_eq (pv 3) pe_int (nomark _)) (pss_one (ps_ret (pe_tup (pa_cons pe_str (pa_cons (pe_ix (r := rIx K) ix_seq (pe_lst (pa_cons pe_int (pa_cons pe_int pa_nil))) (pe_call G_l_next (hr.mono (by decide)) (by rfl) T.g__law_next T.F_l_next.kp T.bi_l_next .nil pass0 (pa_cons (pv 0) (pa_cons pe_int pa_nil))) (fun _ _ => rfl)) pa_nil))))) pss_nil)
      (pss_cons (ps_if (PW.pt (pw_and (pt_cmpR op_lt (pv 3) pe_int (nomark _)) (pw_and1 (pt_cmpR op_gt (pv 2) pe_int (nomark _))))) (pss_one (ps_ret (pe_tup (pa_cons pe_str (pa_cons (pe_op op_add pe_int (pe_call G_l_next (hr.mono (by decide)) (by rfl) T.g__law_next T.F_l_next.kp T.bi_l_next .nil pass0 (pa_cons (pv 0) (pa_cons (pe_op op_sub (pv 2) pe_int) pa_nil)))) pa_nil))))) pss_nil)
      (pss_cons (ps_if (PW.pt (pw_and (pt_cmpR op_eq (pv 3) pe_int (nomark _)) (pw_and1 (pt_cmpR op_ne (pv 4) (pv 5) (nomark _))))) (pss_one (ps_ret (pe_tup (pa_cons pe_str (pa_cons (pe_callB (call_min2 rfl) (by rfl) T.b_min (by decide +kernel) (pa_cons (pv 4) (pa_cons (pv 5) pa_nil))) (pa_cons (pe_callB (call_max2 rfl) (by rfl) T.b_max (by decide +kernel) (pa_cons (pv 4) (pa_cons (pv 5) pa_nil))) pa_nil)))))) pss_nil)
      (pss_one (ps_ret (pe_tup (pa_cons (pe_ix (r := rIx K) ix_seq (pe_lst (pa_cons pe_str (pa_cons pe_str (pa_cons pe_str pa_nil)))) (pe_call G_l_next (hr.mono (by decide)) (by rfl) T.g__law_next T.F_l_next.kp T.bi_l_next .nil pass0 (pa_cons (pv 0) (pa_cons pe_int pa_nil))) (fun _ _ => rfl)) (pa_cons (pv 4) pa_nil)))))))))), ?_⟩
    have e0 := env_start (N := ["_law_h", "_law_keys_here", "_law_width", "_law_kind", "_law_key", "_law_other"]) (AllP.cons (p := own p) (v := .ref p) rfl (.cons hu (.cons (.int wd) .nil)) : AllP w.g [own p, dat K (tS ks), dat K (.int wd)] [.ref p, u, .int wd])
    have len : ∀ {Γ : Sl} {w : Wd}, Γ[1]? = some (some (dat K (tS ks))) → Ev (Src p c) Γ w (tCB (rLen K) (tCons (tVar 1) tNil)) (dat K (.int (ks.length : Int))) := fun {Γ w} h => by
      have q := ev_cb (R := Src p c) (Γ := Γ) (w := w) (ea_cons (ev_var h) ea_nil) (rc_lenT (K := K) (ds := ks.map .str))
      rw [List.length_map] at q
      exact q
    refine q_seq (q_par3 (p := drawP K 11) (q := drawP K ks.length) (r := drawP K ks.length) (ea_cons (ev_draw (n := 11) (ev_var rfl) ev_int (by decide) (by decide)) (ea_cons (ev_draw (n := (ks.length : Int)) (ev_var rfl) (len rfl) (by omega) (by omega)) (ea_cons (ev_draw (n := (ks.length : Int)) (ev_var rfl) (len rfl) (by omega) (by omega)) ea_nil))) e0 hO fun σ1 w1 s1 e1 => ?_)
    obtain ⟨⟨kd, k0, k1⟩, e1⟩ := e1.wit 3 rfl
    obtain ⟨⟨ky, y0, y1⟩, e1⟩ := e1.wit 4 rfl
    obtain ⟨⟨ot, o0, o1⟩, e1⟩ := e1.wit 5 rfl
    have fin : ∀ {w3 : Wd}, Stp (Src p c) w w3 → ∀ v w', Stp (Src p c) w3 w' → (ftP K ks.length wd).P v w'.g → Q v w'.h := fun {w3} st v w' s' hv => k v w' (st.trans s') hv
    refine q_seq (q_if (et_test (ev_op (ev_var (p := dat K (.int kd)) rfl) ev_int rv_lt)) e1 s1.ok (fun hb w2 s2 e2 => ?_) (fun hb w2 s2 e2 => q_next ?_))
    · have hb' := of_decide_eq_true hb
      refine q_ret (p := ftP K ks.length wd) ?_ e2 s2.ok (fin (s1.trans s2))
      have ls : ∀ {Γ : Sl} {w : Wd}, Ev (Src p c) Γ w (tLst (tCons (tTup (tCons (tC (.str "back")) tNil)) (tCons (tTup (tCons (tC (.str "space")) tNil)) (tCons (tTup (tCons (tC (.str "down")) tNil)) (tCons (tTup (tCons (tC (.str "up")) tNil)) tNil))))) (dat K (.list (encs [.back, .space, .down, .up]))) := ev_lst (encs [.back, .space, .down, .up]) (ea_cons (ev_tup [.str "back"] (ea_cons ev_str ea_nil)) (ea_cons (ev_tup [.str "space"] (ea_cons ev_str ea_nil)) (ea_cons (ev_tup [.str "down"] (ea_cons ev_str ea_nil)) (ea_cons (ev_tup [.str "up"] (ea_cons ev_str ea_nil)) ea_nil))))
      have : kd = 0 ∨ kd = 1 ∨ kd = 2 ∨ kd = 3 := by omega
      rcases this with rfl | rfl | rfl | rfl
      · exact ev_ex (⟨.back, rfl⟩ : goodF ks.length wd) (ev_op ls (ev_var rfl) (rv_ixL rfl))
      · exact ev_ex (⟨.space, rfl⟩ : goodF ks.length wd) (ev_op ls (ev_var rfl) (rv_ixL rfl))
      · exact ev_ex (⟨.down, rfl⟩ : goodF ks.length wd) (ev_op ls (ev_var rfl) (rv_ixL rfl))
      · exact ev_ex (⟨.up, rfl⟩ : goodF ks.length wd) (ev_op ls (ev_var rfl) (rv_ixL rfl))
    refine q_seq (q_if (et_test (ev_op (ev_var (p := dat K (.int kd)) rfl) ev_int (rv_eq rfl))) e2 s2.ok (fun hb2 w3 s3 e3 => ?_) (fun hb2 w3 s3 e3 => q_next ?_))
    · refine q_ret (p := ftP K ks.length wd) ?_ e3 s3.ok (fin ((s1.trans s2).trans s3))
      refine ev_exw (ev_tupX (fun z : below 2 => [.str "feed", .int (if z.1 = 0 then 0 else 2)]) (eax_r ev_str (eax_l (ev_opXr (g := fun z : below 2 => dat K (.int (if z.1 = 0 then 0 else 2))) (ev_lst [.int 0, .int 2] (ea_cons ev_int (ea_cons ev_int ea_nil))) (ev_draw (n := 2) (ev_var rfl) ev_int (by decide) (by decide)) fun z => rv_ixL ?_) ea_nil)) fun _ => two_le) fun z => ⟨⟨.feed (.int (if z.1 = 0 then 0 else 2)), ?_⟩, fun v G h => h⟩
      · obtain ⟨z, z0, z1⟩ := z
        have : z = 0 ∨ z = 1 := by omega
        rcases this with rfl | rfl
        · rfl
        · rfl
      · obtain ⟨z, z0, z1⟩ := z
        have : z = 0 ∨ z = 1 := by omega
        rcases this with rfl | rfl
        · rfl
        · rfl
    refine q_seq (q_if (et_and (et_test (ev_op (ev_var (p := dat K (.int kd)) rfl) ev_int rv_lt)) fun _ => et_test (ev_op (ev_var (p := dat K (.int wd)) rfl) ev_int rv_gt)) e3 s3.ok (fun hb3 w4 s4 e4 => ?_) (fun hb3 w4 s4 e4 => q_next ?_))
    · obtain ⟨_, hb4⟩ := Bool.and_eq_true_iff.mp hb3
      have hw := of_decide_eq_true hb4
      refine q_ret (p := ftP K ks.length wd) ?_ e4 s4.ok (fin (((s1.trans s2).trans s3).trans s4))
      refine ev_exw (ev_tupX (fun z : below (wd - 2) => [.str "slip", .int (1 + z.1)]) (eax_r ev_str (eax_l (ev_opXr (g := fun z : below (wd - 2) => dat K (.int (1 + z.1))) ev_int (ev_draw (n := wd - 2) (ev_var rfl) (ev_op (ev_var rfl) ev_int rv_sub) (by omega) (by omega)) fun z => rv_add) ea_nil)) fun _ => two_le) fun z => ⟨⟨.slip (.int (1 + z.1)), ?_⟩, fun v G h => h⟩
      have := z.2.1
      have := z.2.2
      show (decide (1 ≤ 1 + z.1) && decide (1 + z.1 ≤ wd - 2)) = true
      rw [decide_eq_true (by omega), decide_eq_true (by omega)]
      rfl
    refine q_seq (q_if (et_and (et_test (ev_op (ev_var (p := dat K (.int kd)) rfl) ev_int (rv_eq rfl))) fun _ => et_test (ev_op (ev_var (p := dat K (.int ky)) rfl) (ev_var (p := dat K (.int ot)) rfl) (rv_ne rfl))) e4 s4.ok (fun hb5 w5 s5 e5 => ?_) (fun hb5 w5 s5 e5 => q_next ?_))
    · obtain ⟨_, hb6⟩ := Bool.and_eq_true_iff.mp hb5
      have hne : ky ≠ ot := fun z => by
        subst z
        simp [sq] at hb6
      refine q_ret (p := ftP K ks.length wd) ?_ e5 s5.ok (fin ((((s1.trans s2).trans s3).trans s4).trans s5))
      refine ev_ex (⟨.swap (.int (if ot < ky then ot else ky)) (.int (if ot > ky then ot else ky)), ?_⟩ : goodF ks.length wd) (ev_tup [.str "swap", .int (if ot < ky then ot else ky), .int (if ot > ky then ot else ky)] (ea_cons ev_str (ea_cons (ev_cb (ea_cons (ev_var rfl) (ea_cons (ev_var rfl) ea_nil)) rc_min2) (ea_cons (ev_cb (ea_cons (ev_var rfl) (ea_cons (ev_var rfl) ea_nil)) rc_max2) ea_nil))) (hl := by show 3 ≤ 100000; decide))
      show ((decide (0 ≤ (if ot > ky then ot else ky)) && decide ((if ot > ky then ot else ky) ≤ (ks.length : Int) - 1)) && (decide (0 ≤ (if ot < ky then ot else ky)) && decide ((if ot < ky then ot else ky) ≤ (if ot > ky then ot else ky) - 1))) = true
      rw [decide_eq_true (by split <;> omega), decide_eq_true (by split <;> omega), decide_eq_true (by split <;> omega), decide_eq_true (by split <;> split <;> omega)]
      rfl
    · dsimp only
      refine q_ret (p := ftP K ks.length wd) ?_ e5 s5.ok (fin ((((s1.trans s2).trans s3).trans s4).trans s5))
      refine ev_exw (ev_tupX (fun z : below 3 => [.str (if z.1 = 0 then "dead" else if z.1 = 1 then "double" else "stuck"), .int ky]) (eax_l (ev_opXr (g := fun z : below 3 => dat K (.str (if z.1 = 0 then "dead" else if z.1 = 1 then "double" else "stuck"))) (ev_lst [.str "dead", .str "double", .str "stuck"] (ea_cons ev_str (ea_cons ev_str (ea_cons ev_str ea_nil)))) (ev_draw (n := 3) (ev_var rfl) ev_int (by decide) (by decide)) fun z => rv_ixL ?_) (ea_cons (ev_var rfl) ea_nil)) fun _ => two_le) fun z => ?_
      · obtain ⟨z, z0, z1⟩ := z
        have : z = 0 ∨ z = 1 ∨ z = 2 := by omega
        rcases this with rfl | rfl | rfl <;> rfl
      · have hn : num (.int ky) 0 ((ks.length : Int) - 1) = true := by
          show (decide (0 ≤ ky) && decide (ky ≤ (ks.length : Int) - 1)) = true
          rw [decide_eq_true (by omega), decide_eq_true (by omega)]
          rfl
        obtain ⟨z, z0, z1⟩ := z
        have : z = 0 ∨ z = 1 ∨ z = 2 := by omega
        rcases this with rfl | rfl | rfl
        · exact ⟨⟨.dead (.int ky), hn⟩, fun v G h => h⟩
        · exact ⟨⟨.double (.int ky), hn⟩, fun v G h => h⟩
        · exact ⟨⟨.stuck (.int ky), hn⟩, fun v G h => h⟩
end
end Tf
namespace Tf
open PySem L2 PyProof.Rows
def relLc (ds : List PyData) (r : PyData) : Prop := ∃ f g : Ft, ds = [f.enc, g.enc] ∧ r = .bool (clash f g) ∧ f.whole ∧ g.whole
theorem int_lay {d : PyData} (h : isI1 d = true) : d.canLay0 = true ∧ d.depth = 0 := by
  cases d <;> first | exact ⟨rfl, rfl⟩ | (simp [isI1] at h; done)
theorem nums_shaped {f : Ft} (h : f.whole) : SeqAt.shaped (.list f.nums) = true := shaped_list fun d m => ⟨(int_lay (h d m)).1, by rw [(int_lay (h d m)).2]; omega⟩
theorem shared_sub (f g : Ft) : ∀ d ∈ sharedN f g, d ∈ f.nums := fun d m => by
  unfold sharedN picked at m
  rw [List.map_id] at m
  exact (List.mem_filter.mp m).1
theorem shared_shaped {f g : Ft} (h : f.whole) : SeqAt.shaped (.list (sharedN f g)) = true := shaped_list fun d m => by
  have q := h d (shared_sub f g d m)
  exact ⟨(int_lay q).1, by rw [(int_lay q).2]; omega⟩
theorem nums_len (f : Ft) : f.nums.length ≤ 2 := by cases f <;> simp [Ft.nums]
section
variable {P : Program} {W : World} {K : Fr} {mg : Str -> Option Value} {base : Heap} {a : Ad}
theorem ok_l_clash (T : Txt K mg a) : FnOk P W K mg base CX0 1 a.f_l_clash a.d_l_clash ["_law_one", "_law_other"] (spR K relLc) := by
  refine T.F_l_clash.ok sc_l_clash (spR_len fun ds r h => ?_) (fun cdv A outer s H vs Q E hr h => ?_)
  · obtain ⟨f, g, rfl, _⟩ := h
    rfl
  · obtain ⟨w, ds, r, rfl, hO, hv, ⟨f, g, rfl, rfl, hf, hg⟩, k⟩ := h
    refine ⟨_, (pss_cons (ps_set (i := 2) sc_l_clash.nd rfl (Or.inl rfl) (pe_tup (pa_cons pe_str (pa_cons pe_str (pa_cons pe_str (pa_cons pe_str pa_nil))))))
      (pss_cons (ps_if (PW.pt (pw_and (pt_cmpR (r := rInA K false) (op_inA (hu65 hr)) (pe_ix (r := rIx K) ix_seq (pv 0) pe_int (fun _ _ => rfl)) (pv 2) (by rfl)) (pw_and1 (pt_cmpR (r := rInA K false) (op_inA (hu65 hr)) (pe_ix (r := rIx K) ix_seq (pv 1) pe_int (fun _ _ => rfl)) (pv 2) (by rfl))))) (pss_one (ps_ret (pe_cmpR (r := rNeD K) (op_neD hr.units) (pe_lc (own := [("_law_key", 4)]) (g := gName 4) rfl sc_l_clash.nd (pi_tup (pe_slice (r := rSlA K) sl_tupA (pv 0) (po_some pe_int) po_none)) (blkOk_by (N := ["_law_one", "_law_other", "_law_words", "_law_lock", "_law_key"]) (sc := defScope s_l_clash) (by decide +kernel)) (fun _ _ _ _ _ => (pg_name (i := 4) sc_l_clash.nd rfl (Or.inl rfl))) (fun _ _ _ _ _ => (pts_one (pt_cmpR (r := rInA K false) (op_inA (hu65 hr)) (pv 4) (pe_slice (r := rSlA K) sl_tupA (pv 1) (po_some pe_int) po_none) (by rfl)))) (fun _ _ _ _ _ => (pv 4))) (pe_lst pa_nil) (nomark _)))) pss_nil)
      (pss_cons (ps_set (i := 3) sc_l_clash.nd rfl (Or.inl rfl) (pe_and (pe_cmpR (r := rInA K false) (op_inA (hu65 hr)) (pe_ix (r := rIx K) ix_seq (pv 0) pe_int (fun _ _ => rfl)) (pe_tup (pa_cons pe_str (pa_cons pe_str pa_nil))) (by rfl)) (pe_one (pe_cmpR (r := rInA K false) (op_inA (hu65 hr)) (pe_ix (r := rIx K) ix_seq (pv 1) pe_int (fun _ _ => rfl)) (pe_tup (pa_cons pe_str (pa_cons pe_str pa_nil))) (by rfl)))))
      (pss_one (ps_ret (pe_or (pe_cmpR (r := rEqD K) (op_eqD hr.units) (pv 0) (pv 1) (nomark _)) (pe_or (pv 3) (pe_one (pe_and (pe_cmpR op_eq (pe_ix (r := rIx K) ix_seq (pv 0) pe_int (fun _ _ => rfl)) pe_str (nomark _)) (pe_one (pe_cmpR op_eq (pe_ix (r := rIx K) ix_seq (pv 1) pe_int (fun _ _ => rfl)) pe_str (nomark _)))))))))))), ?_⟩
    rw [← lclash_eq] at k
    have e0 := env_start (N := ["_law_one", "_law_other", "_law_words", "_law_lock", "_law_key"]) (allP_of hv)
    have w0 : ∀ {Γ : Sl} {w : Wd}, Γ[0]? = some (some (dat K f.enc)) → Ev R0 Γ w (tOp (rIx K) (tVar 0) (tC (.int 0))) (dat K (.str f.word)) := fun h => ev_op (ev_var h) ev_int (rv_ixT (atI_nat (j := 0) rfl))
    have w1' : ∀ {Γ : Sl} {w : Wd}, Γ[1]? = some (some (dat K g.enc)) → Ev R0 Γ w (tOp (rIx K) (tVar 1) (tC (.int 0))) (dat K (.str g.word)) := fun h => ev_op (ev_var h) ev_int (rv_ixT (atI_nat (j := 0) rfl))
    refine q_seq (q_asg (ev_tup (K := K) wsK (ea_cons ev_str (ea_cons ev_str (ea_cons ev_str (ea_cons ev_str ea_nil))))) e0 hO fun σ1 w1 s1 e1 => ?_)
    refine q_seq (q_if (b := oneOf wsK f && oneOf wsK g) (et_and (et_test (ev_op (w0 rfl) (ev_var (p := dat K (.tuple wsK)) rfl) (rv_inT (neg := false) (word_shaped f) (by decide +kernel)))) fun _ => et_test (ev_op (w1' rfl) (ev_var (p := dat K (.tuple wsK)) rfl) (rv_inT (neg := false) (word_shaped g) (by decide +kernel)))) e1 s1.ok (fun hb w2 s2 e2 => ?_) (fun hb w2 s2 e2 => q_next ?_))
    · have sl1 : ∀ {Γ : Sl} {w : Wd}, Γ[0]? = some (some (dat K f.enc)) → Ev R0 Γ w (tSl (rSlA K) (tVar 0) (tPart (tC (.int 1))) tNoPart) (dat K (.tuple f.nums)) := fun {Γ w} h => by
        have q := ev_slT (w := w) (R := R0) (K := K) (Γ := Γ) (ds := .str f.word :: f.nums) (ev_var (p := dat K f.enc) h) (eo_some (i := 1) (ev_int (K := K))) eo_none
        rw [cut_tail] at q
        exact q
      have sl2 : ∀ {Γ : Sl} {w : Wd}, Γ[1]? = some (some (dat K g.enc)) → Ev R0 Γ w (tSl (rSlA K) (tVar 1) (tPart (tC (.int 1))) tNoPart) (dat K (.tuple g.nums)) := fun {Γ w} h => by
        have q := ev_slT (w := w) (R := R0) (K := K) (Γ := Γ) (ds := .str g.word :: g.nums) (ev_var (p := dat K g.enc) h) (eo_some (i := 1) (ev_int (K := K))) eo_none
        rw [cut_tail] at q
        exact q
      have er : lclash f g = !PyData.eqv (.list (sharedN f g)) (.list []) := by
        unfold lclash
        rw [if_pos hb]
      rw [er] at k
      refine q_ret (ev_op (ev_lcT (fun d => g.nums.any fun z => PyData.eqv z d) id (Nat.le_trans (nums_len f) (by decide)) (sl1 rfl) (fun i d hi w3 s3 => et_test (ev_op (ev_var rfl) (sl2 rfl) (rv_inT (neg := false) (by
        have := int_lay (hf d (List.mem_of_getElem? hi))
        show (d.canLay0 && decide (d.depth ≤ 64)) = true
        rw [this.1, this.2]
        rfl) (nums_shaped hg)))) (fun i d hi w3 s3 _ => ev_var rfl)) (ev_lst [] ea_nil) (rv_neD (shared_shaped hf) (by decide +kernel))) e2 s2.ok fun v w3 s3 hv => k v w3 ((s1.trans s2).trans s3) hv
    have er : lclash f g = (PyData.eqv f.enc g.enc || ((oneOf wsL f && oneOf wsL g) || (sq (.str f.word) (.str "feed") && sq (.str g.word) (.str "feed")))) := by
      unfold lclash
      rw [hb]
      rfl
    rw [er] at k
    refine q_seq (q_asg (ev_andV (a := oneOf wsL f) (b := oneOf wsL g) (ev_op (w0 rfl) (ev_tup wsL (ea_cons ev_str (ea_cons ev_str ea_nil))) (rv_inT (neg := false) (word_shaped f) (by decide +kernel))) fun _ => ev_op (w1' rfl) (ev_tup wsL (ea_cons ev_str (ea_cons ev_str ea_nil))) (rv_inT (neg := false) (word_shaped g) (by decide +kernel))) e2 s2.ok fun σ3 w3 s3 e3 => ?_)
    exact q_ret (ev_orV (ev_op (ev_var (p := dat K f.enc) rfl) (ev_var (p := dat K g.enc) rfl) (rv_eqD (shaped_of (enc_lay (whole_ok hf))) (shaped_of (enc_lay (whole_ok hg))))) fun _ => ev_orV (ev_var (p := dat K (.bool (oneOf wsL f && oneOf wsL g))) rfl) fun _ => ev_andV (ev_op (w0 rfl) ev_str (rv_eq rfl)) fun _ => ev_op (w1' rfl) ev_str (rv_eq rfl)) e3 s3.ok fun v w4 s4 hv => k v w4 (((s1.trans s2).trans s3).trans s4) hv
end
end Tf
namespace Tf
open PySem L2 PyProof.Rows
theorem enc_inj {f g : Ft} (h : f.enc = g.enc) : f = g := by
  unfold Ft.enc at h
  simp only [PyData.tuple.injEq, List.cons.injEq, PyData.str.injEq] at h
  exact word_inj h.1 h.2
open Classical in
noncomputable def clD (fs : List Ft) (f : Ft) (d : PyData) : Bool := decide (∃ g, g ∈ fs ∧ g.enc = d ∧ clash f g = true)
open Classical in
theorem clD_eq {fs : List Ft} {f g : Ft} (h : g ∈ fs) : clD fs f g.enc = clash f g := by
  unfold clD
  cases e : clash f g with
  | true => exact decide_eq_true ⟨g, h, rfl, e⟩
  | false =>
    refine decide_eq_false fun z => ?_
    obtain ⟨g', _, eg, hc⟩ := z
    rw [enc_inj eg, e] at hc
    cases hc
theorem Gd.snoc {nk wd : Int} {fs : List Ft} {f : Ft} (h : Gd nk wd fs) (hf : f.inR nk wd = true) (hc : ∀ g ∈ fs, clash f g = false) : Gd nk wd (fs ++ [f]) :=
  ⟨fun g m => by
    rcases List.mem_append.mp m with m | m
    · exact h.inr g m
    · rw [List.mem_singleton.mp m]
      exact hf, by
    rw [List.pairwise_append]
    refine ⟨h.pw, List.pairwise_singleton _ _, fun g m x hx => ?_⟩
    rw [List.mem_singleton.mp hx, clash_comm]
    exact hc g m⟩
section
variable {P : Program} {W : World} {K : Fr} {mg : Str -> Option Value} {base : Heap} {a : Ad}
theorem ok_l_faults (T : Txt K mg a) : FnOk P W K mg base CX0 3 a.f_l_faults a.d_l_faults ["_law_h", "_law_keys_here", "_law_width", "_law_most"] (spFaults K) := by
  have G_l_next := ok_next (P := P) (W := W) (base := base) T
  have G_l_fault := ok_l_fault (P := P) (W := W) (base := base) T
  have G_l_clash := ok_l_clash (P := P) (W := W) (base := base) T
  refine T.F_l_faults.ok sc_l_faults (fun vs H Q E h => ?_) (fun cdv A outer s H vs Q E hr h => ?_)
  · obtain ⟨w, p, c, u, ks, wd, n, rfl, rfl, _⟩ := h
    rfl
  · obtain ⟨w, p, c, u, ks, wd, n, rfl, rfl, hO, hu, hk1, hk2, hw1, hw2, hn, k⟩ := h
    refine ⟨_, (pss_cons (ps_set (i := 4) sc_l_faults.nd rfl (Or.inl rfl) (pe_lst pa_nil))
      (pss_cons (ps_for PassesOwn.never rfl (pi_range1 rfl T.b_range (pa_cons (pe_call G_l_next (hr.mono (by decide)) (by rfl) T.g__law_next T.F_l_next.kp T.bi_l_next .nil pass0 (pa_cons (pv 0) (pa_cons (pe_op op_add (pv 3) pe_int) pa_nil))) pa_nil)) (pg_name (i := 5) sc_l_faults.nd rfl (Or.inl rfl))
        (pss_cons (ps_set (i := 6) sc_l_faults.nd rfl (Or.inr rfl) (pe_call G_l_fault (hr.mono (by decide)) (by rfl) T.g__law_fault T.F_l_fault.kp T.bi_l_fault .nil pass0 (pa_cons (pv 0) (pa_cons (pv 1) (pa_cons (pv 2) pa_nil)))))
        (pss_one (ps_if (pt_cmpR (r := rEqD K) (op_eqD hr.units) (pe_lc (own := [("_law_other", 7)]) (g := gName 7) rfl sc_l_faults.nd (pi_list (pv 4)) (blkOk_by (N := ["_law_h", "_law_keys_here", "_law_width", "_law_most", "_law_found", "_law_k", "_law_fault_here", "_law_other"]) (sc := defScope s_l_faults) (by decide +kernel)) (fun _ _ _ _ _ => (pg_name (i := 7) sc_l_faults.nd rfl (Or.inl rfl))) (fun _ _ _ _ _ => (pts_one (pt_val (pe_call G_l_clash (hr.mono (by decide)) (by rfl) T.g__law_clash T.F_l_clash.kp T.bi_l_clash .nil pass0 (pa_cons (pv 6) (pa_cons (pv 7) pa_nil)))))) (fun _ _ _ _ _ => (pv 7))) (pe_lst pa_nil) (nomark _)) (pss_one (ps_expr (pe_bm PySem.F.plainAttrs_list PySem.F.slot_list_append PySem.F.type_list_append mt_append (pv 4) (pa_cons (pv 6) pa_nil)))) pss_nil))))
      (pss_one (ps_ret (pe_callTy call_tuple_of (by rfl) T.b_tuple (by decide +kernel) (pa_cons (pv 4) pa_nil)))))), ?_⟩
    have e0 := env_start (N := ["_law_h", "_law_keys_here", "_law_width", "_law_most", "_law_found", "_law_k", "_law_fault_here", "_law_other"]) (AllP.cons (p := own p) (v := .ref p) rfl (.cons hu (.cons (.int wd) (.cons (.int n) .nil))) : AllP w.g [own p, dat K (tS ks), dat K (.int wd), dat K (.int (n : Int))] [.ref p, u, .int wd, .int (n : Int)])
    refine q_seq ⟨by show 0 ≤ sizeLine; decide, fun m hm => ?_⟩
    have s1 := Stp.newM (R := Src p c) (o := .lst []) hO hm
    have nm := hO.notmut hm
    have e1 := (e0.mono s1.sg).set (p := own m) (v := .ref m) rfl 4
    refine q_seq (q_forRD (w := ⟨w.g, upd w.h m (.lst [])⟩) (n := (n : Int) + 1) (ea_cons (ev_draw (n := (n : Int) + 1) (ev_var rfl) (ev_op (ev_var (p := dat K (.int (n : Int))) rfl) ev_int rv_add) (by omega) (by omega)) ea_nil) (by omega) e1 s1.ok fun z w2 hz s2 e2 => ⟨fun i σ' w' => Stp (Src p c) w w' ∧ Fst w2 w' ∧ w'.g m = none ∧ ∃ (vs : List V) (fs : List Ft), w'.h m = some (.lst vs) ∧ DpAll K w'.g vs (encs fs) ∧ Gd ks.length wd fs ∧ fs.length ≤ i ∧ EnvOk w'.g [some (own p), some (dat K (tS ks)), some (dat K (.int wd)), some (dat K (.int (n : Int))), some (own m), none, none, none] σ',
      ⟨s1.trans s2, (Stp.refl s2.ok).fst, s2.hid m _ upd_same (hO.gnone hm), [], [], s2.keep m _ upd_same nm, .nil, Gd.nil, Nat.zero_le _, e2⟩, fun i σ' w' h => h.2.1, fun i σ' w' N hi hI hN => ?_, fun σ' w' hI => ?_⟩)
    · obtain ⟨st, fst, hg, vs, fs, hmv, hd, gd, hl, en⟩ := hI
      have en2 := en.set (p := dat K (.int (i : Int))) (v := .int (i : Int)) (.int _) 5
      refine q_seq (q_asg (ev_fault (ks := ks) (wd := wd) (ev_var rfl) (ev_var rfl) (ev_var rfl) hk1 hk2 hw1 hw2) en2 st.ok fun σ3 w3 s3 e3 => ?_)
      obtain ⟨⟨f, hf⟩, e3⟩ := e3.wit 6 rfl
      have hm3 := s3.keep m _ hmv nm
      have hg3 := s3.hid m _ hmv hg
      have hd3 := dpAll_mono K s3.sg _ _ hd
      have fw := whole_of hf
      have ev : EnvOk (upd w3.g m (.lst vs)) [some (own p), some (dat K (tS ks)), some (dat K (.int wd)), some (dat K (.int (n : Int))), some (dat K (.list (encs fs))), some (dat K (.int (i : Int))), some (dat K f.enc), none] σ3 := by
        obtain ⟨v4, hv4, hp4⟩ := e3.get (i := 4) rfl
        have hp4' : v4 = .ref m := hp4
        subst hp4'
        exact (e3.mono (fixg hg3)).put (p := dat K (.list (encs fs))) 4 hv4 (.lst (SqL.of upd_same) (dpAll_mono K (fixg hg3) _ _ hd3))
      have mem : ∀ {d : PyData}, d ∈ picked (clD fs f) id (encs fs) → d ∈ encs fs := fun {d} q => by
        unfold picked at q
        rw [List.map_id] at q
        exact (List.mem_filter.mp q).1
      have hsh : SeqAt.shaped (.list (picked (clD fs f) id (encs fs))) = true := shaped_list fun d q => by
        obtain ⟨g, mg, rfl⟩ := encs_mem (mem q)
        obtain ⟨x, y⟩ := enc_lay (whole_ok (gd.wh g mg))
        exact ⟨x, by omega⟩
      refine q_ifV (m := m) (o := .lst vs) (et_test (ev_op (ev_lcL (K := K) (clD fs f) id (by rw [encs_len]; omega) (ev_var (p := dat K (.list (encs fs))) rfl) (fun j d hj w4 s4 => by
        obtain ⟨g, hgj, rfl⟩ := encs_get hj
        have mg := List.mem_of_getElem? hgj
        rw [clD_eq mg]
        exact et_B (ev_callR (ds := [f.enc, g.enc]) (r := .bool (clash f g)) (ea_cons (ev_var rfl) (ea_cons (ev_var rfl) ea_nil)) ⟨f, g, rfl, rfl, fw, gd.wh g mg⟩)) (fun j d hj w4 s4 _ => ev_var (p := dat K d) rfl)) (ev_lst [] ea_nil) (rv_eqD hsh (by decide +kernel)))) ev s3.ok hm3 hg3 nm (fun hb w4 s4 eg => ?_) (fun hb w4 s4 eg => ?_)
      · have hno : ∀ g ∈ fs, clash f g = false := fun g mg => by
          rw [eqv_nil] at hb
          cases e : clash f g with
          | false => rfl
          | true =>
            exfalso
            have : g.enc ∈ picked (clD fs f) id (encs fs) := by
              unfold picked
              rw [List.map_id]
              exact List.mem_filter.mpr ⟨List.mem_map.mpr ⟨g, mg, rfl⟩, by rw [clD_eq mg]; exact e⟩
            rw [List.isEmpty_iff.mp hb] at this
            cases this
        have e4 : EnvOk w4.g [some (own p), some (dat K (tS ks)), some (dat K (.int wd)), some (dat K (.int (n : Int))), some (own m), some (dat K (.int (i : Int))), some (dat K f.enc), none] σ3 := e3.mono s4.sg
        have hm4 := s4.keep m _ hm3 nm
        have hg4 := s4.hid m _ hm3 hg3
        refine q_app (w0 := w) (ev_var (p := own m) rfl) (ev_var (p := dat K f.enc) rfl) e4 ((st.trans s3).trans s4) hm hg4 hm4 nm (by rw [dpAll_len K hd, encs_len]; omega) fun v w5 s5 e5 g5 h5 hv5 m5 => hN _ _ ⟨s5, ⟨fun b o q => m5 b o (s4.sg b o (s3.sg b o (fst.sg b o q))), s5.ok.sub⟩, g5, vs ++ [v], fs ++ [f], h5, ?_, gd.snoc hf hno, by rw [List.length_append]; show fs.length + 1 ≤ i + 1; omega, (e5.forget 5).forget 6⟩
        rw [encs_snoc]
        exact dpAll_app K (dpAll_mono K m5 _ _ (dpAll_mono K s4.sg _ _ hd3)) (.cons hv5 .nil)
      · have hm4 := s4.keep m _ hm3 nm
        have hg4 := s4.hid m _ hm3 hg3
        exact q_next (hN _ _ ⟨(st.trans s3).trans s4, ⟨fun b o q => s4.sg b o (s3.sg b o (fst.sg b o q)), s4.ok.sub⟩, hg4, vs, fs, hm4, dpAll_mono K s4.sg _ _ hd3, gd, by omega, ((e3.mono s4.sg).forget 5).forget 6⟩)
    · obtain ⟨st, fst, hg, vs, fs, hmv, hd, gd, hl, en⟩ := hI
      dsimp only
      have s5 := Stp.fix st hmv hm hg nm
      have e5 : EnvOk (upd w'.g m (.lst vs)) [some (own p), some (dat K (tS ks)), some (dat K (.int wd)), some (dat K (.int (n : Int))), some (dat K (.list (encs fs))), none, none, none] σ' := by
        obtain ⟨v4, hv4, hp4⟩ := en.get (i := 4) rfl
        have hp4' : v4 = .ref m := hp4
        subst hp4'
        exact (en.mono (fixg hg)).put (p := dat K (.list (encs fs))) 4 hv4 (.lst (SqL.of upd_same) (dpAll_mono K (fixg hg) _ _ hd))
      exact q_ret (w := ⟨upd w'.g m (.lst vs), w'.h⟩) (ev_cb (ea_cons (ev_var (p := dat K (.list (encs fs))) rfl) ea_nil) rc_tupL) e5 s5.ok fun v w6 s6 hv => k v w6 (s5.trans s6) ⟨⟨fs, gd, by omega⟩, hv⟩
end
end Tf
namespace Tf
open PySem L2 PyProof.Rows
def keysT (n : Int) : Type := { ks : List Str // KeysOk n ks }
def keysP (K : Fr) (n : Int) : Pd := Pd.ex fun ks : keysT n => dat K (tS ks.1)
structure Dr (n : Nat) where
  ks : List Str
  wd : Int
  fs : List Ft
  hk : KeysOk 4 ks
  lo : 2 ≤ wd
  hi : wd ≤ 7
  gd : Gd ks.length wd fs
  hl : fs.length ≤ n
def Dr.d {n : Nat} (x : Dr n) : PyData := .tuple [tS x.ks, .int x.wd, .tuple (encs x.fs)]
def drP (K : Fr) (n : Nat) : Pd := Pd.ex fun x : Dr n => dat K x.d
def spDrawn (K : Fr) : Sp := fun vs H Q _ => ∃ (w : Wd) (p c : Addr) (n : Nat), w.h = H ∧ vs = [.ref p, .int (n : Int)] ∧ Ok (Src p c) w ∧ n ≤ 100 ∧ ∀ v w', Stp (Src p c) w w' → (drP K n).P v w'.g → Q v w'.h
def spMac (a : Ad) (K : Fr) : Sp := fun vs H Q _ => ∃ (w : Wd) (v : V) (ks : List Str) (wd : Int) (fs : List Ft), w.h = H ∧ vs = [v] ∧ Ok R0 w ∧ Dp K w.g v (.tuple [tS ks, .int wd, .tuple (encs fs)]) ∧ MaOk ks wd fs ∧ ∀ v' w', Stp R0 w w' → MaAt K a v' w'.g ks wd (sf fs) → Q v' w'.h
section
variable {K : Fr} {Γ : Sl} {w : Wd} {a : Ad} {R : Rg}
theorem ev_keys {p c : Addr} {n : Int} {th tn : TE} {E : XK} (h1 : Ev (Src p c) Γ w th (own p)) (h2 : Ev (Src p c) Γ w tn (dat K (.int n))) (h0 : 2 ≤ n) (hi : n ≤ 8) : Ev (Src p c) Γ w (tCall (spKeys K) [] E (tCons th (tCons tn tNil))) (keysP K n) :=
  ev_call (ea_cons h1 (ea_cons h2 ea_nil)) fun xs w1 a hx Q k E => by
    cases hx with
    | cons q1 t =>
      cases t with
      | cons q2 t =>
        cases t
        cases q2
        have q1' : _ = V.ref p := q1
        subst q1'
        exact ⟨w1, p, c, n, rfl, rfl, a.ok, h0, hi, fun v w2 ks s2 hv hk => k v w2 s2 ⟨⟨ks, hk⟩, hv⟩⟩
theorem ev_drawn {p c : Addr} {n : Nat} {th tn : TE} {E : XK} (h1 : Ev (Src p c) Γ w th (own p)) (h2 : Ev (Src p c) Γ w tn (dat K (.int (n : Int)))) (hi : n ≤ 100) : Ev (Src p c) Γ w (tCall (spDrawn K) [] E (tCons th (tCons tn tNil))) (drP K n) :=
  ev_call (ea_cons h1 (ea_cons h2 ea_nil)) fun xs w1 a hx Q k E => by
    cases hx with
    | cons q1 t =>
      cases t with
      | cons q2 t =>
        cases t
        cases q2
        have q1' : _ = V.ref p := q1
        subst q1'
        exact ⟨w1, p, c, n, rfl, rfl, a.ok, hi, fun v w2 s2 hv => k v w2 s2 hv⟩
theorem ev_mac {ks : List Str} {wd : Int} {fs : List Ft} {td : TE} {E : XK} (h : Ev R Γ w td (dat K (.tuple [tS ks, .int wd, .tuple (encs fs)]))) (hM : MaOk ks wd fs) : Ev R Γ w (tCall (spMac a K) [] E (tCons td tNil)) (maP K a ks wd (sf fs)) :=
  ev_call (ea_cons h ea_nil) fun xs w1 s1 hx Q k E => by
    cases hx with
    | cons q1 t =>
      cases t
      exact ⟨w1, _, ks, wd, fs, rfl, rfl, s1.ok.low, q1, hM, fun v w2 s2 hv => k v w2 (s2.lift s1.ok) hv⟩
end
section
variable {P : Program} {W : World} {K : Fr} {mg : Str -> Option Value} {base : Heap} {a : Ad}
theorem ok_l_drawn (T : Txt K mg a) : FnOk P W K mg base CX0 4 a.f_l_drawn a.d_l_drawn ["_law_h", "_law_most"] (spDrawn K) := by
  have G_l_next := ok_next (P := P) (W := W) (base := base) T
  have G_l_keys := ok_keys (P := P) (W := W) (base := base) T
  have G_l_faults := ok_l_faults (P := P) (W := W) (base := base) T
  refine T.F_l_drawn.ok sc_l_drawn (fun vs H Q E h => ?_) (fun cdv A outer s H vs Q E hr h => ?_)
  · obtain ⟨w, p, c, n, rfl, rfl, _⟩ := h
    rfl
  · obtain ⟨w, p, c, n, rfl, rfl, hO, hn, k⟩ := h
    refine ⟨_, (pss_cons (ps_par (i := 2) (j := 3) (by rfl) sc_l_drawn.nd rfl rfl (by decide) rfl rfl (pa_cons (pe_call G_l_keys (hr.mono (by decide)) (by rfl) T.g__law_keys T.F_l_keys.kp T.bi_l_keys .nil pass0 (pa_cons (pv 0) (pa_cons pe_int pa_nil))) (pa_cons (pe_op op_add pe_int (pe_call G_l_next (hr.mono (by decide)) (by rfl) T.g__law_next T.F_l_next.kp T.bi_l_next .nil pass0 (pa_cons (pv 0) (pa_cons pe_int pa_nil)))) pa_nil)) (by rfl))
      (pss_one (ps_ret (pe_tup (pa_cons (pv 2) (pa_cons (pv 3) (pa_cons (pe_call G_l_faults (hr.mono (by decide)) (by rfl) T.g__law_faults T.F_l_faults.kp T.bi_l_faults .nil pass0 (pa_cons (pv 0) (pa_cons (pv 2) (pa_cons (pv 3) (pa_cons (pv 1) pa_nil))))) pa_nil))))))), ?_⟩
    have e0 := env_start (N := ["_law_h", "_law_most", "_law_keys_here", "_law_width"]) (AllP.cons (p := own p) (v := .ref p) rfl (.cons (.int n) .nil) : AllP w.g [own p, dat K (.int (n : Int))] [.ref p, .int (n : Int)])
    refine q_seq (q_par2 (p := keysP K 4) (q := Pd.ex fun z : below 6 => dat K (.int (2 + z.1))) (ea_cons (ev_keys (n := 4) (ev_var rfl) ev_int (by decide) (by decide)) (ea_cons (ev_opXr ev_int (ev_draw (n := 6) (ev_var rfl) ev_int (by decide) (by decide)) fun z => rv_add) ea_nil)) e0 hO fun σ1 w1 s1 e1 => ?_)
    obtain ⟨⟨ks, hk⟩, e1⟩ := e1.wit 2 rfl
    obtain ⟨⟨z, z0, z1⟩, e1⟩ := e1.wit 3 rfl
    have lo := hk.lo
    have hi := hk.hi
    refine q_ret (ev_exw (g := fun x : Dr n => dat K x.d) (ev_tupX (fun fs : someFs ks.length (2 + z) n => [tS ks, .int (2 + z), .tuple (encs fs.1)]) (eax_r (ev_var (p := dat K (tS ks)) rfl) (eax_r (ev_var (p := dat K (.int (2 + z))) rfl) (eax_l (ev_faults (ks := ks) (wd := 2 + z) (n := n) (ev_var rfl) (ev_var rfl) (ev_var rfl) (ev_var rfl) (by omega) (by omega) (by omega) (by omega) hn) ea_nil))) fun _ => by show 3 ≤ 100000; decide) fun fs => ⟨⟨ks, 2 + z, fs.1, hk, by omega, by omega, fs.2.1, fs.2.2⟩, fun v G h => h⟩) e1 s1.ok fun v w2 s2 hv => k v w2 (s1.trans s2) hv
theorem ok_l_machine (T : Txt K mg a) : FnOk P W K mg base CX0 7 a.f_l_machine a.d_l_machine ["_law_drawn_here"] (spMac a K) := by
  have G_Machine_init := ok_minit_T (P := P) (W := W) (base := base) T
  have G_Keyboard_init := ok_kinit (P := P) (W := W) (base := base) T
  refine T.F_l_machine.ok sc_l_machine (fun vs H Q E h => ?_) (fun cdv A outer s H vs Q E hr h => ?_)
  · obtain ⟨w, v, ks, wd, fs, rfl, rfl, _⟩ := h
    rfl
  · obtain ⟨w, v, ks, wd, fs, rfl, rfl, hO, hv, hM, k⟩ := h
    refine ⟨_, (pss_one (ps_ret (pe_make T.mk_Machine G_Machine_init (hr.mono (by decide)) (by rfl) T.g_Machine T.bi_Machine_init .nil pass0 (pa_cons (pe_make T.mk_Keyboard G_Keyboard_init (hr.mono (by decide)) (by rfl) T.g_Keyboard T.bi_Keyboard_init .nil pass0 (pa_cons (pe_ix (r := rIx K) ix_seq (pv 0) pe_int (fun _ _ => rfl)) pa_nil)) (pa_cons (pe_ix (r := rIx K) ix_seq (pv 0) pe_int (fun _ _ => rfl)) (pa_cons (pe_ix (r := rIx K) ix_seq (pv 0) pe_int (fun _ _ => rfl)) pa_nil)))))), ?_⟩
    have e0 := env_start (N := ["_law_drawn_here"]) (AllP.cons hv .nil : AllP w.g [dat K (.tuple [tS ks, .int wd, .tuple (encs fs)])] [v])
    exact q_ret (ev_ma_T (ea_cons (ev_kb (ks := ks) (ea_cons (ev_op (ev_var (p := dat K (.tuple [tS ks, .int wd, .tuple (encs fs)])) rfl) ev_int (rv_ixT (atI_nat (j := 0) rfl))) ea_nil) hM.kg) (ea_cons (ev_op (ev_var (p := dat K (.tuple [tS ks, .int wd, .tuple (encs fs)])) rfl) ev_int (rv_ixT (atI_nat (j := 1) rfl))) (ea_cons (ev_op (ev_var (p := dat K (.tuple [tS ks, .int wd, .tuple (encs fs)])) rfl) ev_int (rv_ixT (atI_nat (j := 2) rfl))) ea_nil))) hM) e0 hO fun v' w' s' hv' => k v' w' s' hv'
end
end Tf
namespace Tf
open PySem L2 PyProof.Rows
theorem Gd.ok {ks : List Str} {wd : Int} {fs : List Ft} (h : Gd ks.length wd fs) (hk : KG ks) (lo : 2 ≤ wd) (hi : wd ≤ 20) (hl : fs.length ≤ 1000) : MaOk ks wd fs := ⟨hk, lo, hi, h.wh, hl, h.first⟩
theorem maEq_self {ks : List Str} {wd : Int} {fs : List Ft} (h : ∀ f ∈ fs, f.whole) : maEq ks ks wd wd fs fs = true := by
  unfold maEq
  rw [encs_refl h, decide_eq_true rfl, decide_eq_true rfl]
  rfl
section
variable {K : Fr} {a : Ad} {ks : List Str} {wd : Int} {fs : List Ft} {R : Rg} {Γ : Sl} {w : Wd} {te tu : TE} {tr : TA} {E : XK}
theorem maP_none {m : Str} (h1 : (m == "keyboard") = false) (h2 : (m == "width") = false) (h3 : (m == "faults") = false) : ∀ v G, (maP K a ks wd fs).P v G → ∃ x dx gs, v = .ref x ∧ G x = some (.ins a.C_Machine dx gs) ∧ gs.lookup m = none := fun v G h => by
  obtain ⟨x, dx, kb, ft, rfl, hx, hk, hf⟩ := h
  refine ⟨x, dx, _, rfl, hx, ?_⟩
  unfold maF
  simp [List.lookup, h1, h2, h3]
theorem rs_wf {f : Ft} (hM : MaOk ks wd (fs ++ [f])) : RS R w (spWf a K) [maP K a ks wd fs, dat K f.enc] (maP K a ks wd (sf (fs ++ [f]))) := fun xs w1 s1 hx Q k E => by
  cases hx with
  | cons q1 t =>
    cases t with
    | cons q2 t =>
      cases t
      exact ⟨w1, _, _, ks, wd, fs, f, rfl, rfl, s1.ok.low, q1, q2, hM, fun v w2 s2 hv => k v w2 (s2.lift s1.ok) hv⟩
theorem rs_rep_T {gs : List Ft} (hf : ∀ f ∈ fs, f.whole) (hl : fs.length ≤ 1000) (hg : ∀ f ∈ gs, f.whole) (hgl : gs.length ≤ 1000) (hM : MaOk ks wd (leftF fs gs)) : RS R w (spRep a K .tuple) [maP K a ks wd fs, dat K (.tuple (encs gs))] (maP K a ks wd (sf (leftF fs gs))) := fun xs w1 s1 hx Q k E => by
  cases hx with
  | cons q1 t =>
    cases t with
    | cons q2 t =>
      cases t
      exact ⟨w1, _, _, ks, wd, fs, gs, rfl, rfl, s1.ok.low, q1, hf, hl, q2, hg, hgl, hM, fun v w2 s2 hv => k v w2 (s2.lift s1.ok) hv⟩
theorem rs_rep_L {gs : List Ft} (hf : ∀ f ∈ fs, f.whole) (hl : fs.length ≤ 1000) (hg : ∀ f ∈ gs, f.whole) (hgl : gs.length ≤ 1000) (hM : MaOk ks wd (leftF fs gs)) : RS R w (spRep a K .list) [maP K a ks wd fs, dat K (.list (encs gs))] (maP K a ks wd (sf (leftF fs gs))) := fun xs w1 s1 hx Q k E => by
  cases hx with
  | cons q1 t =>
    cases t with
    | cons q2 t =>
      cases t
      exact ⟨w1, _, _, ks, wd, fs, gs, rfl, rfl, s1.ok.low, q1, hf, hl, q2, hg, hgl, hM, fun v w2 s2 hv => k v w2 (s2.lift s1.ok) hv⟩
theorem ev_wf {f : Ft} (h1 : Ev R Γ w te (maP K a ks wd fs)) (h2 : Ev R Γ w tu (dat K f.enc)) (hM : MaOk ks wd (fs ++ [f])) : Ev R Γ w (tMeth a.C_Machine "with_fault" (spWf a K) [] E te (tCons tu tNil)) (maP K a ks wd (sf (fs ++ [f]))) :=
  ev_meth h1 (maP_none (by decide +kernel) (by decide +kernel) (by decide +kernel)) (ea_cons h2 ea_nil) (rs_wf hM)
theorem ev_rep_T {gs : List Ft} (h1 : Ev R Γ w te (maP K a ks wd fs)) (h2 : Ev R Γ w tu (dat K (.tuple (encs gs)))) (hf : ∀ f ∈ fs, f.whole) (hl : fs.length ≤ 1000) (hg : ∀ f ∈ gs, f.whole) (hgl : gs.length ≤ 1000) (hM : MaOk ks wd (leftF fs gs)) : Ev R Γ w (tMeth a.C_Machine "repaired" (spRep a K .tuple) [] E te (tCons tu tNil)) (maP K a ks wd (sf (leftF fs gs))) :=
  ev_meth h1 (maP_none (by decide +kernel) (by decide +kernel) (by decide +kernel)) (ea_cons h2 ea_nil) (rs_rep_T hf hl hg hgl hM)
/-- [x for x in fs if x not in gs] -/
theorem ev_left_T {gs : List Ft} {j k : Nat} (h : Ev R Γ w te (dat K (.tuple (encs fs)))) (hk : ((Γ.set j none)[k]? : Option (Option Pd)) = some (some (dat K (.tuple (encs gs))))) (hjk : k ≠ j) (hj : j < Γ.length) (hf : ∀ f ∈ fs, f.whole) (hl : fs.length ≤ 1000) (hg : ∀ f ∈ gs, f.whole) :
    Ev R Γ w (tLc (iTup K te) (gName j) (tTest (tOp (rInA K true) (tVar j) (tVar k))) (tVar j) [j]) (dat K (.list (encs (leftF fs gs)))) := by
  have at_ : ∀ (d : PyData), ((Γ.set j none).set j (some (dat K d)))[j]? = some (some (dat K d)) := fun d => by
    rw [List.getElem?_set_self (by rw [List.length_set]; exact hj)]
  have ak : ∀ (d : PyData), ((Γ.set j none).set j (some (dat K d)))[k]? = some (some (dat K (.tuple (encs gs)))) := fun d => by
    rw [List.getElem?_set_ne (fun z => hjk z.symm)]
    exact hk
  have q := ev_lcT (K := K) (R := R) (w := w) (Γ := Γ) (j := j) (tl := te) (tt := tTest (tOp (rInA K true) (tVar j) (tVar k))) (te := tVar j) (ds := encs fs) (fun d => !(encs gs).any fun z => PyData.eqv z d) id (by rw [encs_len]; omega) h (fun i d hd w3 s3 => by
      obtain ⟨f, hi, rfl⟩ := encs_get hd
      exact et_test (ev_op (ev_var (at_ _)) (ev_var (ak _)) (rv_inT (neg := true) (shaped_of (enc_lay (whole_ok (hf f (List.mem_of_getElem? hi))))) (encs_shaped hg).2))) (fun i d hd w3 s3 _ => ev_var (at_ _))
  rw [picked_encs] at q
  exact q
theorem ev_rep_L {gs : List Ft} (h1 : Ev R Γ w te (maP K a ks wd fs)) (h2 : Ev R Γ w tu (dat K (.list (encs gs)))) (hf : ∀ f ∈ fs, f.whole) (hl : fs.length ≤ 1000) (hg : ∀ f ∈ gs, f.whole) (hgl : gs.length ≤ 1000) (hM : MaOk ks wd (leftF fs gs)) : Ev R Γ w (tMeth a.C_Machine "repaired" (spRep a K .list) [] E te (tCons tu tNil)) (maP K a ks wd (sf (leftF fs gs))) :=
  ev_meth h1 (maP_none (by decide +kernel) (by decide +kernel) (by decide +kernel)) (ea_cons h2 ea_nil) (rs_rep_L hf hl hg hgl hM)
/-- [x for x in fs if x not in gs] -/
theorem ev_left_L {gs : List Ft} {j k : Nat} (h : Ev R Γ w te (dat K (.tuple (encs fs)))) (hk : ((Γ.set j none)[k]? : Option (Option Pd)) = some (some (dat K (.list (encs gs))))) (hjk : k ≠ j) (hj : j < Γ.length) (hf : ∀ f ∈ fs, f.whole) (hl : fs.length ≤ 1000) (hg : ∀ f ∈ gs, f.whole) :
    Ev R Γ w (tLc (iTup K te) (gName j) (tTest (tOp (rInA K true) (tVar j) (tVar k))) (tVar j) [j]) (dat K (.list (encs (leftF fs gs)))) := by
  have at_ : ∀ (d : PyData), ((Γ.set j none).set j (some (dat K d)))[j]? = some (some (dat K d)) := fun d => by
    rw [List.getElem?_set_self (by rw [List.length_set]; exact hj)]
  have ak : ∀ (d : PyData), ((Γ.set j none).set j (some (dat K d)))[k]? = some (some (dat K (.list (encs gs)))) := fun d => by
    rw [List.getElem?_set_ne (fun z => hjk z.symm)]
    exact hk
  have q := ev_lcT (K := K) (R := R) (w := w) (Γ := Γ) (j := j) (tl := te) (tt := tTest (tOp (rInA K true) (tVar j) (tVar k))) (te := tVar j) (ds := encs fs) (fun d => !(encs gs).any fun z => PyData.eqv z d) id (by rw [encs_len]; omega) h (fun i d hd w3 s3 => by
      obtain ⟨f, hi, rfl⟩ := encs_get hd
      exact et_test (ev_op (ev_var (at_ _)) (ev_var (ak _)) (rv_inL (neg := true) (shaped_of (enc_lay (whole_ok (hf f (List.mem_of_getElem? hi))))) (encs_shaped hg).2))) (fun i d hd w3 s3 _ => ev_var (at_ _))
  rw [picked_encs] at q
  exact q
theorem ft_encs {fs : List Ft} (hl : fs.length ≤ 1000) (hw : ∀ f ∈ fs, f.whole) : ft (.tuple (encs fs)) = true := by
  have h1 : ∀ l : List Ft, (∀ f ∈ l, f.whole) → ftAll (encs l) = true := fun l => by
    induction l with
    | nil => intro _; rfl
    | cons f l ih =>
      intro q
      have e : ft f.enc = true := by
        have : ftAll (.str f.word :: f.nums) = true := by
          have hn : ∀ m : List PyData, (∀ d ∈ m, isI1 d = true) → ftAll m = true := fun m => by
            induction m with
            | nil => intro _; rfl
            | cons d m ih2 =>
              intro q2
              have hd := q2 d List.mem_cons_self
              show (ft d && ftAll m) = true
              rw [ih2 fun d m' => q2 d (List.mem_cons_of_mem _ m')]
              cases d <;> first | rfl | (simp [isI1] at hd; done)
          show (ft (.str f.word) && ftAll f.nums) = true
          rw [hn _ (q f List.mem_cons_self)]
          cases f <;> simp only [Ft.word] <;> decide +kernel
        show (decide ((PyData.str f.word :: f.nums).length ≤ 1000) && ftAll (.str f.word :: f.nums)) = true
        rw [this, Bool.and_true]
        refine decide_eq_true ?_
        have := nums_len f
        rw [List.length_cons]
        omega
      show (ft f.enc && ftAll (encs l)) = true
      rw [e, ih fun f m => q f (List.mem_cons_of_mem _ m)]
      rfl
  show (decide ((encs fs).length ≤ 1000) && ftAll (encs fs)) = true
  rw [h1 fs hw, encs_len, decide_eq_true hl]
  rfl
theorem alk_d {wd : Int} {fs : List Ft} (hl : fs.length ≤ 1000) (hw : ∀ f ∈ fs, f.whole) : (PyData.list [.int wd, .tuple (encs fs)]).depth < 6 ∧ ft (.list [.int wd, .tuple (encs fs)]) = true := by
  have h1 := (encs_lay hw).2
  refine ⟨?_, ?_⟩
  · have e : (PyData.list [.int wd, .tuple (encs fs)]).depth = max 0 (max (PyData.tuple (encs fs)).depth 0) + 1 := by
      simp only [PyData.depth, PyData.depthAll]
    rw [e]
    omega
  · show (decide (2 ≤ 1000) && (ft (.int wd) && (ft (.tuple (encs fs)) && true))) = true
    rw [ft_encs hl hw]
    rfl
end
end Tf
namespace Tf
open PySem L2 PyProof.Rows
def spLaw (K : Fr) : Sp := fun vs H Q _ => ∃ (w : Wd) (b : Addr) (ns : List Int), w.h = H ∧ vs = [.ref b] ∧ Ok R0 w ∧ SqL K w.g b (ns.map V.int) ∧ ns.length ≤ 63 ∧ (∀ z ∈ ns, small z) ∧ ∀ H', Q (.bl true) H'
theorem law_start {K : Fr} {H : Hp} {a : Addr} {ns : List Int} (hl : ns.length ≤ 63) (hb : ∀ z ∈ ns, Builtin.Int.intBits z ≤ 1048576) (hO : Only H) (hS : SqL K H a (ns.map V.int)) : spLaw K [.ref a] H (fun v _ => v = .bl true) fun _ _ _ => False :=
  ⟨⟨H, H⟩, a, ns, rfl, rfl, ⟨fun b o e => e, trivial, fun b m => m.elim⟩, hS, hl, fun z m => law_small (hb z m), fun _ => rfl⟩
theorem encs_sublist {l : List PyData} {fs : List Ft} (h : l.Sublist (encs fs)) : ∃ gs, gs.Sublist fs ∧ l = encs gs := by
  obtain ⟨gs, h1, h2⟩ := List.sublist_map_iff.mp h
  exact ⟨gs, h1, h2⟩
theorem EnvOk.conv {G : Hp} {p q : Pd} {Γ : Sl} {σ : L2.St} (i : Nat) (h : EnvOk G Γ σ) (e : Γ[i]? = some (some p)) (k : ∀ v, p.P v G → q.P v G) : EnvOk G (Γ.set i (some q)) σ := by
  obtain ⟨v, hv, hp⟩ := h.get e
  exact h.put i hv (k v hp)
theorem fixed_len {ks : List Str} {wd : Int} {fs gs : List Ft} (h1 : ∀ f ∈ sf (leftF fs gs), f.whole) (h2 : ∀ f ∈ sf fs, f.whole) : (!true || !sq (.bool (maEq ks ks wd wd (sf (leftF fs gs)) (sf fs))) (.bool (sq (.int ((encs (sf (leftF fs gs))).length : Int)) (.int ((encs fs).length : Int))))) = false := by
  rw [encs_len, encs_len, sf_len]
  by_cases h : (leftF fs gs).length = fs.length
  · rw [left_len h, maEq_self h2]
    simp [sq]
  · have e1 : maEq ks ks wd wd (sf (leftF fs gs)) (sf fs) = false := by
      cases e : maEq ks ks wd wd (sf (leftF fs gs)) (sf fs) with
      | false => rfl
      | true =>
        unfold maEq at e
        have e2 := (Bool.and_eq_true_iff.mp (Bool.and_eq_true_iff.mp e).2).2
        have e3 : PyData.eqvAll (encs (sf (leftF fs gs))) (encs (sf fs)) = true := e2
        have := eqvAll_len e3
        rw [encs_len, encs_len, sf_len, sf_len] at this
        exact absurd this h
    rw [e1]
    have e2 : sq (.int ((leftF fs gs).length : Int)) (.int (fs.length : Int)) = false := by
      show decide (_ = _) = false
      exact decide_eq_false (by omega)
    rw [e2]
    rfl
section
variable {P : Program} {W : World} {K : Fr} {mg : Str -> Option Value} {base : Heap} {a : Ad}
theorem ok_law (T : Txt K mg a) : FnOk P W K mg base CX0 30 a.f_law a.d_law ["_law_script"] (spLaw K) := by
  have G_l_mix := ok_mix (P := P) (W := W) (base := base) T
  have G_l_next := ok_next (P := P) (W := W) (base := base) T
  have G_l_drawn := ok_l_drawn (P := P) (W := W) (base := base) T
  have G_l_machine := ok_l_machine (P := P) (W := W) (base := base) T
  have G_l_alike := ok_alike (P := P) (W := W) (base := base) T 6
  have G_l_fault := ok_l_fault (P := P) (W := W) (base := base) T
  have G_Machine_init_L := ok_minit_L (P := P) (W := W) (base := base) T
  have G_Machine_init_T := ok_minit_T (P := P) (W := W) (base := base) T
  have G_Keyboard_init := ok_kinit (P := P) (W := W) (base := base) T
  have G_Machine_eq := ok_meq (P := P) (W := W) (base := base) T
  have G_Machine_repaired_L := ok_rep_L (P := P) (W := W) (base := base) T
  have G_Machine_repaired_T := ok_rep_T (P := P) (W := W) (base := base) T
  have G_Machine_with_fault := ok_wf (P := P) (W := W) (base := base) T
  refine T.F_law.ok sc_law (fun vs H Q E h => ?_) (fun cdv A outer s H vs Q E hr h => ?_)
  · obtain ⟨w, b, ns, rfl, rfl, _⟩ := h
    rfl
  · obtain ⟨w, b, ns, rfl, rfl, hO, hS, hl, hs, k⟩ := h
    refine ⟨_, (pss_cons (ps_set (i := 1) sc_law.nd rfl (Or.inr rfl) (pe_call G_l_mix (hr.mono (by decide)) (by rfl) T.g__law_mix T.F_l_mix.kp T.bi_l_mix .nil pass0 (pa_cons (pv 0) (pa_cons pe_int pa_nil))))
      (pss_cons (ps_for PassesOwn.never rfl (pi_range1 rfl T.b_range (pa_cons pe_int pa_nil)) (pg_name (i := 2) sc_law.nd rfl (Or.inl rfl))
        (pss_cons (ps_set (i := 3) sc_law.nd rfl (Or.inl rfl) (pe_call G_l_drawn (hr.mono (by decide)) (by rfl) T.g__law_drawn T.F_l_drawn.kp T.bi_l_drawn .nil pass0 (pa_cons (pv 1) (pa_cons pe_int pa_nil))))
        (pss_cons (ps_par (i := 4) (j := 5) (by rfl) sc_law.nd rfl rfl (by decide) rfl rfl (pa_cons (pe_call G_l_machine (hr.mono (by decide)) (by rfl) T.g__law_machine T.F_l_machine.kp T.bi_l_machine .nil pass0 (pa_cons (pv 3) pa_nil)) (pa_cons (pe_ix (r := rIx K) ix_seq (pv 3) pe_int (fun _ _ => rfl)) pa_nil)) (by rfl))
        (pss_cons (ps_if (pt_not (pt_val (pe_call G_l_alike (hr.mono (by decide)) (by rfl) T.g__law_alike T.F_l_alike.kp T.bi_l_alike .nil pass0 (pa_cons (pe_lst (pa_cons (pe_fld (pv 4) rfl) (pa_cons (pe_fld (pv 4) rfl) pa_nil))) (pa_cons (pe_lst (pa_cons (pe_ix (r := rIx K) ix_seq (pv 3) pe_int (fun _ _ => rfl)) (pa_cons (pe_callTy call_tuple_of (by rfl) T.b_tuple (by decide +kernel) (pa_cons (pe_callB (cr_sortA rfl hr) (by rfl) T.b_sorted (by decide +kernel) (pa_cons (pv 5) pa_nil)) pa_nil)) pa_nil))) pa_nil))))) (pss_one (ps_ret pe_bl)) pss_nil)
        (pss_cons (ps_set (i := 6) sc_law.nd rfl (Or.inl rfl) (pe_make T.mk_Machine G_Machine_init_L (hr.mono (by decide)) (by rfl) T.g_Machine T.bi_Machine_init .nil pass0 (pa_cons (pe_make T.mk_Keyboard G_Keyboard_init (hr.mono (by decide)) (by rfl) T.g_Keyboard T.bi_Keyboard_init .nil pass0 (pa_cons (pe_ix (r := rIx K) ix_seq (pv 3) pe_int (fun _ _ => rfl)) pa_nil)) (pa_cons (pe_ix (r := rIx K) ix_seq (pv 3) pe_int (fun _ _ => rfl)) (pa_cons (pe_callTy call_list_of (by rfl) T.b_list (by decide +kernel) (pa_cons (pe_revT (pv 5)) pa_nil)) pa_nil)))))
        (pss_cons (ps_if (PW.pt (pw_or (pt_cmpR (r := rNeD K) (op_neD hr.units) (pe_fld (pe_fld (pv 4) rfl) rfl) (pe_ix (r := rIx K) ix_seq (pv 3) pe_int (fun _ _ => rfl)) (nomark _)) (pw_or1 (pt_cmpR (r := rNeO a.C_Machine (spMEq a K) E0) (op_neO G_Machine_eq (hr.mono (by decide)) T.ne_Machine T.bi_Machine_eq pass0) (pv 4) (pv 6) (nomark _))))) (pss_one (ps_ret pe_bl)) pss_nil)
        (pss_cons (ps_set (i := 7) sc_law.nd rfl (Or.inr rfl) (pe_op op_cat (pe_lc (own := [("_law_fault_here", 12)]) (g := gName 12) rfl sc_law.nd (pi_tup (pv 5)) (blkOk_by (N := ["_law_script", "_law_h", "_law_turn", "_law_drawn_here", "_law_machine_here", "_law_faults_here", "_law_again", "_law_some", "_law_left", "_law_fixed", "_law_plain", "_law_more", "_law_fault_here", "_law_wide", "_law_other"]) (sc := defScope s_law) (by decide +kernel)) (fun _ _ _ _ _ => (pg_name (i := 12) sc_law.nd rfl (Or.inl rfl))) (fun _ _ _ _ _ => (pts_one (pt_cmpR op_eq (pe_call G_l_next (hr.mono (by decide)) (by rfl) T.g__law_next T.F_l_next.kp T.bi_l_next .nil pass0 (pa_cons (pv 1) (pa_cons pe_int pa_nil))) pe_int (nomark _)))) (fun _ _ _ _ _ => (pv 12))) (pe_lst (pa_cons (pe_call G_l_fault (hr.mono (by decide)) (by rfl) T.g__law_fault T.F_l_fault.kp T.bi_l_fault .nil pass0 (pa_cons (pv 1) (pa_cons (pe_ix (r := rIx K) ix_seq (pv 3) pe_int (fun _ _ => rfl)) (pa_cons (pe_ix (r := rIx K) ix_seq (pv 3) pe_int (fun _ _ => rfl)) pa_nil)))) pa_nil))))
        (pss_cons (ps_set (i := 8) sc_law.nd rfl (Or.inr rfl) (pe_callTy call_tuple_of (by rfl) T.b_tuple (by decide +kernel) (pa_cons (pe_callB (cr_sortA rfl hr) (by rfl) T.b_sorted (by decide +kernel) (pa_cons (pe_lc (own := [("_law_fault_here", 12)]) (g := gName 12) rfl sc_law.nd (pi_tup (pv 5)) (blkOk_by (N := ["_law_script", "_law_h", "_law_turn", "_law_drawn_here", "_law_machine_here", "_law_faults_here", "_law_again", "_law_some", "_law_left", "_law_fixed", "_law_plain", "_law_more", "_law_fault_here", "_law_wide", "_law_other"]) (sc := defScope s_law) (by decide +kernel)) (fun _ _ _ _ _ => (pg_name (i := 12) sc_law.nd rfl (Or.inl rfl))) (fun _ _ _ _ _ => (pts_one (pt_cmpR (r := rInA K true) (op_notInA (hu65 hr)) (pv 12) (pv 7) (by rfl)))) (fun _ _ _ _ _ => (pv 12))) pa_nil)) pa_nil)))
        (pss_cons (ps_set (i := 9) sc_law.nd rfl (Or.inl rfl) (pe_meth (pv 4) T.cl_Machine T.m_Machine_repaired G_Machine_repaired_L (hr.mono (by decide)) T.bi_Machine_repaired .nil pass0 (pa_cons (pv 7) pa_nil)))
        (pss_cons (ps_if (PW.pt (pw_or (pt_not (pt_val (pe_call G_l_alike (hr.mono (by decide)) (by rfl) T.g__law_alike T.F_l_alike.kp T.bi_l_alike .nil pass0 (pa_cons (pe_fld (pv 9) rfl) (pa_cons (pv 8) pa_nil))))) (pw_or1 (pt_cmpR op_ne (pe_cmpR (r := rEqO a.C_Machine (spMEq a K) E0) (op_eqO G_Machine_eq (hr.mono (by decide)) T.m_Machine_eq.at_ T.m_Machine_eq.fn T.bi_Machine_eq pass0) (pv 9) (pv 4) (nomark _)) (pe_cmpR op_eq (pe_callB (r := rLen K) call_len (by rfl) T.b_len (by decide +kernel) (pa_cons (pv 8) pa_nil)) (pe_callB (r := rLen K) call_len (by rfl) T.b_len (by decide +kernel) (pa_cons (pv 5) pa_nil)) (nomark _)) (nomark _))))) (pss_one (ps_ret pe_bl)) pss_nil)
        (pss_cons (ps_set (i := 10) sc_law.nd rfl (Or.inl rfl) (pe_make T.mk_Machine G_Machine_init_T (hr.mono (by decide)) (by rfl) T.g_Machine T.bi_Machine_init .nil pass0 (pa_cons (pe_make T.mk_Keyboard G_Keyboard_init (hr.mono (by decide)) (by rfl) T.g_Keyboard T.bi_Keyboard_init .nil pass0 (pa_cons (pe_ix (r := rIx K) ix_seq (pv 3) pe_int (fun _ _ => rfl)) pa_nil)) (pa_cons (pe_ix (r := rIx K) ix_seq (pv 3) pe_int (fun _ _ => rfl)) (pa_cons (pe_tup pa_nil) pa_nil)))))
        (pss_cons (ps_if (PW.pt (pw_or (pt_cmpR (r := rNeD K) (op_neD hr.units) (pe_fld (pv 4) rfl) (pe_callTy call_tuple_of (by rfl) T.b_tuple (by decide +kernel) (pa_cons (pe_callB (cr_sortA rfl hr) (by rfl) T.b_sorted (by decide +kernel) (pa_cons (pv 5) pa_nil)) pa_nil)) (nomark _)) (pw_or1 (pt_cmpR (r := rNeO a.C_Machine (spMEq a K) E0) (op_neO G_Machine_eq (hr.mono (by decide)) T.ne_Machine T.bi_Machine_eq pass0) (pe_meth (pv 4) T.cl_Machine T.m_Machine_repaired G_Machine_repaired_T (hr.mono (by decide)) T.bi_Machine_repaired .nil pass0 (pa_cons (pv 5) pa_nil)) (pv 10) (nomark _))))) (pss_one (ps_ret pe_bl)) pss_nil)
        (pss_cons (ps_setLc (i := 11) (own := [("_law_fault_here", 12)]) (g := gName 12) rfl sc_law.nd rfl rfl (sw_true rfl rfl rfl (by decide +kernel)) (pi_tup (pv 5)) (blkOk_by (N := ["_law_script", "_law_h", "_law_turn", "_law_drawn_here", "_law_machine_here", "_law_faults_here", "_law_again", "_law_some", "_law_left", "_law_fixed", "_law_plain", "_law_more", "_law_fault_here", "_law_wide", "_law_other"]) (sc := defScope s_law) (by decide +kernel)) (fun _ _ _ _ _ => (pg_name (i := 12) sc_law.nd rfl (Or.inl rfl))) (fun _ _ _ _ _ => (pts_one (pt_cmpR (r := rInA K true) (op_notInA (hu65 hr)) (pv 12) (pv 8) (by rfl)))) (fun _ _ _ _ _ => (pv 12)))
        (pss_cons (ps_set (i := 6) sc_law.nd rfl (Or.inl rfl) (pv 9))
        (pss_cons (ps_for PassesOwn.never rfl (pi_list (pe_revL (pv 11))) (pg_name (i := 12) sc_law.nd rfl (Or.inl rfl))
          (pss_one (ps_set (i := 6) sc_law.nd rfl (Or.inl rfl) (pe_meth (pv 6) T.cl_Machine T.m_Machine_with_fault G_Machine_with_fault (hr.mono (by decide)) T.bi_Machine_with_fault .nil pass0 (pa_cons (pv 12) pa_nil)))))
        (pss_cons (ps_if (PW.pt (pw_or (pt_cmpR (r := rNeO a.C_Machine (spMEq a K) E0) (op_neO G_Machine_eq (hr.mono (by decide)) T.ne_Machine T.bi_Machine_eq pass0) (pv 6) (pv 4) (nomark _)) (pw_or1 (pt_not (pt_val (pe_call G_l_alike (hr.mono (by decide)) (by rfl) T.g__law_alike T.F_l_alike.kp T.bi_l_alike .nil pass0 (pa_cons (pe_fld (pv 6) rfl) (pa_cons (pe_fld (pv 4) rfl) pa_nil)))))))) (pss_one (ps_ret pe_bl)) pss_nil)
        (pss_cons (ps_set (i := 13) sc_law.nd rfl (Or.inl rfl) (pe_make T.mk_Machine G_Machine_init_T (hr.mono (by decide)) (by rfl) T.g_Machine T.bi_Machine_init .nil pass0 (pa_cons (pe_make T.mk_Keyboard G_Keyboard_init (hr.mono (by decide)) (by rfl) T.g_Keyboard T.bi_Keyboard_init .nil pass0 (pa_cons (pe_ix (r := rIx K) ix_seq (pv 3) pe_int (fun _ _ => rfl)) pa_nil)) (pa_cons (pe_op op_add (pe_ix (r := rIx K) ix_seq (pv 3) pe_int (fun _ _ => rfl)) pe_int) (pa_cons (pv 5) pa_nil)))))
        (pss_cons (ps_set (i := 14) sc_law.nd rfl (Or.inl rfl) (pe_make T.mk_Machine G_Machine_init_T (hr.mono (by decide)) (by rfl) T.g_Machine T.bi_Machine_init .nil pass0 (pa_cons (pe_make T.mk_Keyboard G_Keyboard_init (hr.mono (by decide)) (by rfl) T.g_Keyboard T.bi_Keyboard_init .nil pass0 (pa_cons (pe_revT (pe_ix (r := rIx K) ix_seq (pv 3) pe_int (fun _ _ => rfl))) pa_nil)) (pa_cons (pe_ix (r := rIx K) ix_seq (pv 3) pe_int (fun _ _ => rfl)) (pa_cons (pv 5) pa_nil)))))
        (pss_one (ps_if (PW.pt (pw_or (pt_cmpR (r := rEqO a.C_Machine (spMEq a K) E0) (op_eqO G_Machine_eq (hr.mono (by decide)) T.m_Machine_eq.at_ T.m_Machine_eq.fn T.bi_Machine_eq pass0) (pv 13) (pv 4) (nomark _)) (pw_or1 (pt_cmpR (r := rEqO a.C_Machine (spMEq a K) E0) (op_eqO G_Machine_eq (hr.mono (by decide)) T.m_Machine_eq.at_ T.m_Machine_eq.fn T.bi_Machine_eq pass0) (pv 14) (pv 4) (nomark _))))) (pss_one (ps_ret pe_bl)) pss_nil))))))))))))))))))))
      (pss_one (ps_ret pe_bl)))), ?_⟩
    have e0 := env_start (N := ["_law_script", "_law_h", "_law_turn", "_law_drawn_here", "_law_machine_here", "_law_faults_here", "_law_again", "_law_some", "_law_left", "_law_fixed", "_law_plain", "_law_more", "_law_fault_here", "_law_wide", "_law_other"]) (AllP.cons (p := own b) (v := .ref b) rfl .nil : AllP w.g [own b] [.ref b])
    refine q_seq (q_mix (b := b) (ns := ns) rfl e0 hO hS hl hs (by decide) (by decide) fun p c σ1 w1 ok1 e1 => ?_)
    refine q_seq (q_forR1 (n := 4) (ea_cons (ev_int (K := K)) ea_nil) (by decide) e1 ok1 fun w2 s2 e2 => ⟨fun i σ' w' => Stp (Src p c) w2 w' ∧ EnvOk w'.g [some (own b), some (own p), none, none, none, none, none, none, none, none, none, none, none, none, none] σ',
      ⟨Stp.refl s2.ok, e2⟩, fun i σ' w' h => h.1.fst, fun i σ' w' N hi hI hN => ?_, fun σ' w' hI => ?_⟩)
    · obtain ⟨st, en⟩ := hI
      have e3 := (en.set (p := dat K (.int (i : Int))) (v := .int (i : Int)) (.int _) 2).only 2
      -- drawn
      refine q_seq (q_asg (ev_drawn (n := 5) (ev_var rfl) ev_int (by decide)) e3 st.ok fun σ4 w4 s4 e4 => ?_)
      obtain ⟨x, e4⟩ := e4.wit 3 rfl
      obtain ⟨ks, wd, fs, hk, lo, hi7, gd, hfl⟩ := x
      have kg := hk.kg (by decide)
      have wh := gd.wh
      have hM := gd.ok kg lo (by omega) (by omega)
      have sfwh : ∀ f ∈ sf fs, f.whole := fun f m => wh f (sf_mem.mp m)
      have d0 : ∀ {Γ : Sl} {w : Wd}, Γ[3]? = some (some (dat K (Dr.d ⟨ks, wd, fs, hk, lo, hi7, gd, hfl⟩))) → Ev (Src p c) Γ w (tOp (rIx K) (tVar 3) (tC (.int 0))) (dat K (tS ks)) := fun h => ev_op (ev_var h) ev_int (rv_ixT (atI_nat (j := 0) rfl))
      have d1 : ∀ {Γ : Sl} {w : Wd}, Γ[3]? = some (some (dat K (Dr.d ⟨ks, wd, fs, hk, lo, hi7, gd, hfl⟩))) → Ev (Src p c) Γ w (tOp (rIx K) (tVar 3) (tC (.int 1))) (dat K (.int wd)) := fun h => ev_op (ev_var h) ev_int (rv_ixT (atI_nat (j := 1) rfl))
      have d2 : ∀ {Γ : Sl} {w : Wd}, Γ[3]? = some (some (dat K (Dr.d ⟨ks, wd, fs, hk, lo, hi7, gd, hfl⟩))) → Ev (Src p c) Γ w (tOp (rIx K) (tVar 3) (tC (.int 2))) (dat K (.tuple (encs fs))) := fun h => ev_op (ev_var h) ev_int (rv_ixT (atI_nat (j := 2) rfl))
      have kb : ∀ {Γ : Sl} {w : Wd} {E : XK}, Γ[3]? = some (some (dat K (Dr.d ⟨ks, wd, fs, hk, lo, hi7, gd, hfl⟩))) → Ev (Src p c) Γ w (tMake a.C_Keyboard (spKInit a K) [] E (tCons (tOp (rIx K) (tVar 3) (tC (.int 0))) tNil)) (kbP K a ks) := fun h => ev_kb (ea_cons (d0 h) ea_nil) kg
      have fld_ft : ∀ {Γ : Sl} {w : Wd} {j : Nat} {gs : List Ft}, Γ[j]? = some (some (maP K a ks wd gs)) → Ev (Src p c) Γ w (tFld K (tVar j) "faults") (dat K (.tuple (encs gs))) := fun h => ev_fld T.cl_Machine T.n_Machine_faults (ev_var h) maP_ft
      have fld_wd : ∀ {Γ : Sl} {w : Wd} {j : Nat} {gs : List Ft}, Γ[j]? = some (some (maP K a ks wd gs)) → Ev (Src p c) Γ w (tFld K (tVar j) "width") (dat K (.int wd)) := fun h => ev_fld T.cl_Machine T.n_Machine_width (ev_var h) maP_wd
      have e4 : EnvOk w4.g [some (own b), some (own p), none, some (dat K (Dr.d ⟨ks, wd, fs, hk, lo, hi7, gd, hfl⟩)), none, none, none, none, none, none, none, none, none, none, none] σ4 := e4
      have dv : ∀ {Γ : Sl} {w : Wd}, Γ[3]? = some (some (dat K (Dr.d ⟨ks, wd, fs, hk, lo, hi7, gd, hfl⟩))) → Ev (Src p c) Γ w (tVar 3) (dat K (.tuple [tS ks, .int wd, .tuple (encs fs)])) := fun h => ev_var h
      generalize dat K (Dr.d ⟨ks, wd, fs, hk, lo, hi7, gd, hfl⟩) = dP at d0 d1 d2 kb dv e4
      -- machine, faults
      refine q_seq (q_par2 (p := maP K a ks wd (sf fs)) (q := dat K (.tuple (encs fs))) (ea_cons (ev_mac (dv rfl) hM) (ea_cons (d2 rfl) ea_nil)) e4 s4.ok fun σ5 w5 s5 e5 => ?_)
      have e5 : EnvOk w5.g [some (own b), some (own p), none, some dP, some (maP K a ks wd (sf fs)), some (dat K (.tuple (encs fs))), none, none, none, none, none, none, none, none, none] σ5 := e5
      -- alike
      have al := alk_d (wd := wd) (fs := sf fs) (by rw [sf_len]; omega) sfwh
      refine q_seq (q_if (b := false) (et_not (a := true) (et_B (ev_call (ea_cons (ev_lst [.int wd, .tuple (encs (sf fs))] (ea_cons (fld_wd rfl) (ea_cons (fld_ft rfl) ea_nil)) (hl := two_le)) (ea_cons (ev_lst [.int wd, .tuple (encs (sf fs))] (ea_cons (d1 rfl) (ea_cons (ev_sorted (ev_var rfl) wh (by omega)) ea_nil)) (hl := two_le)) ea_nil)) (rs_alk al.1 al.2)))) e5 s5.ok (fun hb => by cases hb) (fun _ w6 s6 e6 => q_next ?_))
      -- again
      have hMr : MaOk ks wd fs.reverse := (gd.perm (List.reverse_perm fs).symm).ok kg lo (by omega) (by rw [List.length_reverse]; omega)
      refine q_seq (q_asg (Ev.toP (ev_ma_L (fs := fs.reverse) (ea_cons (kb rfl) (ea_cons (d1 rfl) (ea_cons (Ev.to (ev_cb (ea_cons (ev_revT (ev_var rfl)) ea_nil) rc_lstT) (congrArg PyData.list (encs_rev fs))) ea_nil))) hMr) (congrArg (maP K a ks wd) (sf_of_perm (List.reverse_perm fs) hMr.wh))) e6 s6.ok fun σ7 w7 s7 e7 => ?_)
      have e7 : EnvOk w7.g [some (own b), some (own p), none, some dP, some (maP K a ks wd (sf fs)), some (dat K (.tuple (encs fs))), some (maP K a ks wd (sf fs)), none, none, none, none, none, none, none, none] σ7 := e7
      have shk := tS_shaped kg.two
      refine q_seq (q_if (b := false) (EvT.to (et_or (et_test (ev_op (ev_fld T.cl_Keyboard T.n_Keyboard_key_signs (ev_fld T.cl_Machine T.n_Machine_keyboard (ev_var (p := maP K a ks wd (sf fs)) rfl) maP_kb) kbP_ks) (d0 rfl) (rv_neD shk shk))) fun _ => et_test (ev_op (ev_var (p := maP K a ks wd (sf fs)) rfl) (ev_var (p := maP K a ks wd (sf fs)) rfl) (rv_mne kg kg sfwh sfwh))) (by rw [eqv_tS, maEq_self sfwh, decide_eq_true rfl]; rfl)) e7 s7.ok (fun hb => by cases hb) (fun _ w8 s8 e8 => q_next ?_))
      -- some
      refine q_seq (q_asg (ev_opXX (s := fun z : someOf (encs fs) × goodF ks.length wd => lP K (z.1.1 ++ [z.2.1.enc])) (ev_lcX (ds := encs fs) (by rw [encs_len]; omega) (ev_var rfl) (fun i d hd w3 s3 => etx_eq (K := K) (ev_draw (n := 2) (ev_var rfl) ev_int (by decide) (by decide)) ev_int) (fun i d hd w3 s3 => ev_var rfl)) (ev_lstE (fun f : goodF ks.length wd => [f.1.enc]) (eax_l (ev_fault (ks := ks) (wd := wd) (ev_var rfl) (d0 rfl) (d1 rfl) (by have := kg.lo; omega) (by have := kg.hi; omega) lo (by omega)) ea_nil) fun _ => one_le) fun l f => rv_cat (by
        have := l.2.length_le
        rw [encs_len] at this
        show l.1.length + 1 ≤ 100000
        omega)) e8 s8.ok fun σ9 w9 s9 e9 => ?_)
      obtain ⟨⟨⟨l, hlsub⟩, ⟨f, hf⟩⟩, e9⟩ := e9.wit 7 rfl
      obtain ⟨ls, hls, rfl⟩ := encs_sublist hlsub
      have lsl : ls.length ≤ 5 := Nat.le_trans hls.length_le hfl
      have gwh : ∀ g ∈ ls ++ [f], g.whole := fun g m => by
        rcases List.mem_append.mp m with m | m
        · exact wh g (hls.subset m)
        · rw [List.mem_singleton.mp m]
          exact whole_of hf
      have e9 := e9.conv (q := dat K (.list (encs (ls ++ [f])))) 7 rfl fun v hv => by
        have := lP_dat v _ hv
        rw [encs_snoc]
        exact this
      have e9 : EnvOk w9.g [some (own b), some (own p), none, some dP, some (maP K a ks wd (sf fs)), some (dat K (.tuple (encs fs))), some (maP K a ks wd (sf fs)), some (dat K (.list (encs (ls ++ [f])))), none, none, none, none, none, none, none] σ9 := e9
      generalize hgs : ls ++ [f] = gs at e9 gwh
      have gl : gs.length ≤ 6 := by rw [← hgs, List.length_append]; show ls.length + 1 ≤ 6; omega
      -- left
      have lsub := left_sub fs gs
      have lwh : ∀ f ∈ leftF fs gs, f.whole := fun f m => wh f (lsub.subset m)
      have llen : (leftF fs gs).length ≤ 5 := Nat.le_trans lsub.length_le hfl
      have slwh : ∀ f ∈ sf (leftF fs gs), f.whole := fun f m => lwh f (sf_mem.mp m)
      refine q_seq (q_asg (ev_sortedL (ev_left_L (fs := fs) (gs := gs) (j := 12) (k := 7) (ev_var rfl) rfl (by decide) (by show 12 < 15; decide) wh (by omega) gwh) lwh (by omega)) e9 s9.ok fun σA wA sA eA => ?_)
      have eA : EnvOk wA.g [some (own b), some (own p), none, some dP, some (maP K a ks wd (sf fs)), some (dat K (.tuple (encs fs))), some (maP K a ks wd (sf fs)), some (dat K (.list (encs gs))), some (dat K (.tuple (encs (sf (leftF fs gs))))), none, none, none, none, none, none] σA := eA
      -- fixed
      have lperm := left_perm gs (sf_perm fs)
      have hMl : MaOk ks wd (leftF (sf fs) gs) := ((gd.perm (sf_perm fs).symm).sub (left_sub _ _)).ok kg lo (by omega) (by rw [lperm.length_eq]; omega)
      refine q_seq (q_asg (Ev.toP (ev_rep_L (ks := ks) (wd := wd) (fs := sf fs) (gs := gs) (ev_var rfl) (ev_var rfl) sfwh (by rw [sf_len]; omega) gwh (by omega) hMl) (congrArg (maP K a ks wd) (sf_of_perm lperm hMl.wh))) eA sA.ok fun σB wB sB eB => ?_)
      have eB : EnvOk wB.g [some (own b), some (own p), none, some dP, some (maP K a ks wd (sf fs)), some (dat K (.tuple (encs fs))), some (maP K a ks wd (sf fs)), some (dat K (.list (encs gs))), some (dat K (.tuple (encs (sf (leftF fs gs))))), some (maP K a ks wd (sf (leftF fs gs))), none, none, none, none, none] σB := eB
      have ald := (encs_lay slwh).2
      have alf := ft_encs (fs := sf (leftF fs gs)) (by rw [sf_len]; omega) slwh
      refine q_seq (q_if (b := false) (EvT.to (et_or (et_not (a := true) (et_B (ev_call (ea_cons (fld_ft (gs := sf (leftF fs gs)) rfl) (ea_cons (ev_var (p := dat K (.tuple (encs (sf (leftF fs gs))))) rfl) ea_nil)) (rs_alk (by omega) alf)))) fun _ => et_test (ev_op (ev_op (ev_var (p := maP K a ks wd (sf (leftF fs gs))) rfl) (ev_var (p := maP K a ks wd (sf fs)) rfl) (rv_meq kg kg slwh sfwh)) (ev_op (ev_cb (ea_cons (ev_var (p := dat K (.tuple (encs (sf (leftF fs gs))))) rfl) ea_nil) rc_lenT) (ev_cb (ea_cons (ev_var (p := dat K (.tuple (encs fs))) rfl) ea_nil) rc_lenT) (rv_eq rfl)) (rv_ne rfl))) (fixed_len slwh sfwh)) eB sB.ok (fun hb => by cases hb) (fun _ wC sC eC => q_next ?_))
      -- plain
      have hM0 : MaOk ks wd [] := Gd.nil.ok kg lo (by omega) (by decide)
      refine q_seq (q_asg (ev_ma_T (fs := []) (ea_cons (kb rfl) (ea_cons (d1 rfl) (ea_cons (ev_tup [] ea_nil) ea_nil))) hM0) eC sC.ok fun σD wD sD eD => ?_)
      have eD : EnvOk wD.g [some (own b), some (own p), none, some dP, some (maP K a ks wd (sf fs)), some (dat K (.tuple (encs fs))), some (maP K a ks wd (sf fs)), some (dat K (.list (encs gs))), some (dat K (.tuple (encs (sf (leftF fs gs))))), some (maP K a ks wd (sf (leftF fs gs))), some (maP K a ks wd (sf [])), none, none, none, none] σD := eD
      have lall : leftF (sf fs) fs = [] := left_all wh fun f m => sf_mem.mp m
      have hMa : MaOk ks wd (leftF (sf fs) fs) := lall ▸ hM0
      have shf := (encs_shaped sfwh).1
      have w0s : ∀ f ∈ sf ([] : List Ft), f.whole := fun f m => by rw [sf_mem] at m; cases m
      refine q_seq (q_if (b := false) (EvT.to (et_or (et_test (ev_op (fld_ft (gs := sf fs) rfl) (ev_sorted (ev_var (p := dat K (.tuple (encs fs))) rfl) wh (by omega)) (rv_neD shf shf))) fun _ => et_test (ev_op (Ev.toP (ev_rep_T (ks := ks) (wd := wd) (fs := sf fs) (gs := fs) (ev_var rfl) (ev_var rfl) sfwh (by rw [sf_len]; omega) wh (by omega) hMa) (congrArg (fun z => maP K a ks wd (sf z)) lall)) (ev_var (p := maP K a ks wd (sf [])) rfl) (rv_mne kg kg w0s w0s))) (by rw [encs_refl sfwh, maEq_self w0s]; rfl)) eD sD.ok (fun hb => by cases hb) (fun _ wE sE eE => q_next ?_))
      -- more
      refine q_seq (q_asg (ev_left_T (fs := fs) (gs := sf (leftF fs gs)) (j := 12) (k := 8) (ev_var rfl) rfl (by decide) (by show 12 < 15; decide) wh (by omega) slwh) eE sE.ok fun σF wF sF eF => ?_)
      refine q_seq (q_asg (ev_var (p := maP K a ks wd (sf (leftF fs gs))) rfl) eF sF.ok fun σG wG sG eG => ?_)
      have eG : EnvOk wG.g [some (own b), some (own p), none, some dP, some (maP K a ks wd (sf fs)), some (dat K (.tuple (encs fs))), some (maP K a ks wd (sf (leftF fs gs))), some (dat K (.list (encs gs))), some (dat K (.tuple (encs (sf (leftF fs gs))))), some (maP K a ks wd (sf (leftF fs gs))), some (maP K a ks wd (sf [])), some (dat K (.list (encs (leftF fs (sf (leftF fs gs)))))), none, none, none] σG := eG
      have bp := back_perm (gs := gs) wh
      generalize hms : (leftF fs (sf (leftF fs gs))).reverse = ms at bp
      have er : (encs (leftF fs (sf (leftF fs gs)))).reverse = encs ms := by rw [encs_rev, hms]
      have upto : ∀ i, ∀ X : List Ft, X.Perm (leftF fs gs ++ ms.take i) → Gd ks.length wd X ∧ X.length ≤ 5 := fun i X hX => by
        have h1 : (leftF fs gs ++ ms.take i).Sublist (leftF fs gs ++ ms) := List.Sublist.append (List.Sublist.refl _) (List.take_sublist _ _)
        refine ⟨((gd.perm bp.symm).sub h1).perm hX.symm, ?_⟩
        rw [hX.length_eq]
        exact Nat.le_trans h1.length_le (by rw [bp.length_eq]; exact hfl)
      refine q_seq (q_forL (ds := encs ms) (Ev.to (ev_revL (ev_var (p := dat K (.list (encs (leftF fs (sf (leftF fs gs)))))) rfl)) (congrArg PyData.list er)) eG sG.ok fun wH sH eH => ⟨fun i σ' w' => ∃ X : List Ft, X.Perm (leftF fs gs ++ ms.take i) ∧ Stp (Src p c) wH w' ∧ EnvOk w'.g [some (own b), some (own p), none, some dP, some (maP K a ks wd (sf fs)), some (dat K (.tuple (encs fs))), some (maP K a ks wd (sf X)), none, none, none, none, none, none, none, none] σ',
        ⟨leftF fs gs, by rw [List.take_zero, List.append_nil], Stp.refl sH.ok, (((((eH.forget 7).forget 8).forget 9).forget 10).forget 11)⟩, fun i σ' w' h => by obtain ⟨X, _, st, _⟩ := h; exact st.fst, fun i σ' w' N hi hI hN d v hd hv => ?_, fun σ' w' hI => ?_⟩)
      · obtain ⟨X, hX, st2, en2⟩ := hI
        obtain ⟨g, hg, rfl⟩ := encs_get hd
        have en3 := en2.set (p := dat K g.enc) hv 12
        have hX2 : (sf X ++ [g]).Perm (leftF fs gs ++ ms.take (i + 1)) := by
          rw [take_snoc hg, ← List.append_assoc]
          exact List.Perm.append_right [g] ((sf_perm X).trans hX)
        obtain ⟨gX, lX⟩ := upto (i + 1) _ hX2
        refine q_asg (ev_wf (ks := ks) (wd := wd) (fs := sf X) (f := g) (ev_var rfl) (ev_var rfl) (gX.ok kg lo (by omega) (by omega))) en3 st2.ok fun σI wI sI eI => hN _ _ ⟨sf X ++ [g], hX2, st2.trans sI, eI.forget 12⟩
      obtain ⟨X, hX, st2, en2⟩ := hI
      have hXf : X.Perm fs := by
        have e : ms.take (encs ms).length = ms := by rw [encs_len, List.take_length]
        rw [e] at hX
        exact hX.trans bp
      have eX : sf X = sf fs := sf_of_perm hXf fun f m => wh f (hXf.mem_iff.mp m)
      rw [eX] at en2
      have alfs := ft_encs (fs := sf fs) (by rw [sf_len]; omega) sfwh
      have aldp := (encs_lay sfwh).2
      refine q_seq (q_if (b := false) (EvT.to (et_or (et_test (ev_op (ev_var (p := maP K a ks wd (sf fs)) rfl) (ev_var (p := maP K a ks wd (sf fs)) rfl) (rv_mne kg kg sfwh sfwh))) fun _ => et_not (a := true) (et_B (ev_call (ea_cons (fld_ft (gs := sf fs) rfl) (ea_cons (fld_ft (gs := sf fs) rfl) ea_nil)) (rs_alk (by omega) alfs)))) (by rw [maEq_self sfwh]; rfl)) en2 st2.ok (fun hb => by cases hb) (fun _ wJ sJ eJ => q_next ?_))
      -- wide, other
      have hMw : MaOk ks (wd + 1) fs := gd.wide.ok kg (by omega) (by omega) (by omega)
      have kgr := hk.rev.kg (by decide)
      have hMo : MaOk ks.reverse wd fs := Gd.ok (by rw [List.length_reverse]; exact gd) kgr lo (by omega) (by omega)
      refine q_seq (q_asg (ev_ma_T (fs := fs) (wd := wd + 1) (ea_cons (kb rfl) (ea_cons (ev_op (d1 rfl) ev_int rv_add) (ea_cons (ev_var rfl) ea_nil))) hMw) eJ sJ.ok fun σK wK sK eK => ?_)
      refine q_seq (q_asg (ev_ma_T (ks := ks.reverse) (fs := fs) (wd := wd) (ea_cons (ev_kb (ea_cons (Ev.to (ev_revT (d0 rfl)) (tS_rev ks)) ea_nil) kgr) (ea_cons (d1 rfl) (ea_cons (ev_var rfl) ea_nil))) hMo) eK sK.ok fun σL wL sL eL => ?_)
      have nrev := rev_ne hk.nd hk.lo
      refine q_if (b := false) (EvT.to (et_or (et_test (ev_op (ev_var (p := maP K a ks (wd + 1) (sf fs)) rfl) (ev_var (p := maP K a ks wd (sf fs)) rfl) (rv_meq kg kg sfwh sfwh))) fun _ => et_test (ev_op (ev_var (p := maP K a ks.reverse wd (sf fs)) rfl) (ev_var (p := maP K a ks wd (sf fs)) rfl) (rv_meq kgr kg sfwh sfwh))) (by
        unfold maEq
        rw [decide_eq_false (by omega : ¬ wd + 1 = wd), decide_eq_false nrev, Bool.false_and, Bool.and_false, Bool.false_and]
        rfl)) eL sL.ok (fun hb => by cases hb) (fun _ wM sM eM => q_next (hN _ _ ⟨?_, eM.only 2⟩))
      exact (((((((((((((((((((st.trans s4).trans s5).trans s6).trans s7).trans s8).trans s9).trans sA).trans sB).trans sC).trans sD).trans sE).trans sF).trans sG).trans sH).trans st2).trans sJ).trans sK).trans sL).trans sM)
    · obtain ⟨st, en⟩ := hI
      dsimp only
      exact q_ret (ev_bl (K := K) (b := true)) en st.ok fun v w4 s4 hv => by
        cases hv
        exact k _
end
end Tf
namespace Tf
open PySem L2 PyProof.Rows
theorem all_mk {P : Program} {w : World} {K : Fr} {h : Heap} {mg : Str -> Option Value} {fa : Addr} {C_Machine : Addr} {N_Machine : Addr} {nm_Machine q_Machine : Str} {bs_Machine sub_Machine : List Value} {hd_Machine ab_Machine : Bool} {sn_Machine : List Str} {col_Machine : Option Bool} {dd_Machine dN_Machine : Option Addr} {k0_Machine k1_Machine k2_Machine k3_Machine k5_Machine : Option Value} {id_Machine : String} {oN_Machine : Value} {es_Machine : Array DictEntry} {n_Machine : Nat} {sl_Machine : Array (Option Value)} {C_Keyboard : Addr} {N_Keyboard : Addr} {nm_Keyboard q_Keyboard : Str} {bs_Keyboard sub_Keyboard : List Value} {hd_Keyboard ab_Keyboard : Bool} {sn_Keyboard : List Str} {col_Keyboard : Option Bool} {dd_Keyboard dN_Keyboard : Option Addr} {k0_Keyboard k1_Keyboard k2_Keyboard k3_Keyboard k5_Keyboard : Option Value} {id_Keyboard : String} {oN_Keyboard : Value} {es_Keyboard : Array DictEntry} {n_Keyboard : Nat} {sl_Keyboard : Array (Option Value)} {t_LEAST_WIDTH : Tok} {t_MOST_WIDTH : Tok} {t_SIGNS : Tok} {t_FEWEST_KEYS : Tok} {t_MOST_KEYS : Tok}
    {f_is_number : Addr} {od0 an0 : Option Addr} {sl0 : Array (Option Value)} {oc0 kV0 dc0 pm0 cd0 ct0 : Value}
    {f_fault_in_range : Addr} {od1 an1 : Option Addr} {sl1 : Array (Option Value)} {oc1 kV1 dc1 pm1 cd1 ct1 : Value}
    {f_claims : Addr} {od2 an2 : Option Addr} {sl2 : Array (Option Value)} {oc2 kV2 dc2 pm2 cd2 ct2 : Value}
    {f_clashes : Addr} {od3 an3 : Option Addr} {sl3 : Array (Option Value)} {oc3 kV3 dc3 pm3 cd3 ct3 : Value}
    {f_first_wrong_fault : Addr} {od4 an4 : Option Addr} {sl4 : Array (Option Value)} {oc4 kV4 dc4 pm4 cd4 ct4 : Value}
    {f_Machine_init : Addr} {od5 an5 : Option Addr} {sl5 : Array (Option Value)} {oc5 kV5 dc5 pm5 cd5 ct5 : Value}
    {f_Machine_with_fault : Addr} {od6 an6 : Option Addr} {sl6 : Array (Option Value)} {oc6 kV6 dc6 pm6 cd6 ct6 : Value}
    {f_Machine_repaired : Addr} {od7 an7 : Option Addr} {sl7 : Array (Option Value)} {oc7 kV7 dc7 pm7 cd7 ct7 : Value}
    {f_Machine_eq : Addr} {od8 an8 : Option Addr} {sl8 : Array (Option Value)} {oc8 kV8 dc8 pm8 cd8 ct8 : Value}
    {f_has_two_signs : Addr} {od9 an9 : Option Addr} {sl9 : Array (Option Value)} {oc9 kV9 dc9 pm9 cd9 ct9 : Value}
    {f_first_wrong_key : Addr} {od10 an10 : Option Addr} {sl10 : Array (Option Value)} {oc10 kV10 dc10 pm10 cd10 ct10 : Value}
    {f_places_of_signs : Addr} {od11 an11 : Option Addr} {sl11 : Array (Option Value)} {oc11 kV11 dc11 pm11 cd11 ct11 : Value}
    {f_Keyboard_init : Addr} {od12 an12 : Option Addr} {sl12 : Array (Option Value)} {oc12 kV12 dc12 pm12 cd12 ct12 : Value}
    {f_Keyboard_len : Addr} {od13 an13 : Option Addr} {sl13 : Array (Option Value)} {oc13 kV13 dc13 pm13 cd13 ct13 : Value}
    {f_Keyboard_eq : Addr} {od14 an14 : Option Addr} {sl14 : Array (Option Value)} {oc14 kV14 dc14 pm14 cd14 ct14 : Value}
    {f_l_mix : Addr} {od15 an15 : Option Addr} {sl15 : Array (Option Value)} {oc15 kV15 dc15 pm15 cd15 ct15 : Value}
    {f_l_next : Addr} {od16 an16 : Option Addr} {sl16 : Array (Option Value)} {oc16 kV16 dc16 pm16 cd16 ct16 : Value}
    {f_l_alike : Addr} {od17 an17 : Option Addr} {sl17 : Array (Option Value)} {oc17 kV17 dc17 pm17 cd17 ct17 : Value}
    {f_l_keys : Addr} {od18 an18 : Option Addr} {sl18 : Array (Option Value)} {oc18 kV18 dc18 pm18 cd18 ct18 : Value}
    {f_l_fault : Addr} {od19 an19 : Option Addr} {sl19 : Array (Option Value)} {oc19 kV19 dc19 pm19 cd19 ct19 : Value}
    {f_l_clash : Addr} {od20 an20 : Option Addr} {sl20 : Array (Option Value)} {oc20 kV20 dc20 pm20 cd20 ct20 : Value}
    {f_l_faults : Addr} {od21 an21 : Option Addr} {sl21 : Array (Option Value)} {oc21 kV21 dc21 pm21 cd21 ct21 : Value}
    {f_l_drawn : Addr} {od22 an22 : Option Addr} {sl22 : Array (Option Value)} {oc22 kV22 dc22 pm22 cd22 ct22 : Value}
    {f_l_machine : Addr} {od23 an23 : Option Addr} {sl23 : Array (Option Value)} {oc23 kV23 dc23 pm23 cd23 ct23 : Value}
    {f_law : Addr} {od24 an24 : Option Addr} {sl24 : Array (Option Value)} {oc24 kV24 dc24 pm24 cd24 ct24 : Value}
    (X : K.In h) (G : h.Ns mainGlobals mg) (hfa : mg "law" = some (.ref fa))
    (xKeyboard : PySem.W.nsIn K mainGlobals "Keyboard" = some (some (.ref C_Keyboard)))
    (xMachine : PySem.W.nsIn K mainGlobals "Machine" = some (some (.ref C_Machine)))
    (a0 : PySem.W.nsIn K mainGlobals "is_number" = some (some (.ref f_is_number)))
    (l0 : K.lookup f_is_number = some ⟨oc0, od0, .func (PySem.W.fnOf "is_number" "is_number" (defArgs s_is_number) (defBody s_is_number) (defScope s_is_number) .none kV0 dc0 pm0 an0 cd0 ct0), sl0⟩)
    (c0 : PySem.W.codeIn K cd0 "is_number" = true)
    (k0 : PySem.W.keepIn K (.ref f_is_number) = true)
    (a1 : PySem.W.nsIn K mainGlobals "fault_in_range" = some (some (.ref f_fault_in_range)))
    (l1 : K.lookup f_fault_in_range = some ⟨oc1, od1, .func (PySem.W.fnOf "fault_in_range" "fault_in_range" (defArgs s_fault_in_range) (defBody s_fault_in_range) (defScope s_fault_in_range) .none kV1 dc1 pm1 an1 cd1 ct1), sl1⟩)
    (c1 : PySem.W.codeIn K cd1 "fault_in_range" = true)
    (k1 : PySem.W.keepIn K (.ref f_fault_in_range) = true)
    (a2 : PySem.W.nsIn K mainGlobals "claims" = some (some (.ref f_claims)))
    (l2 : K.lookup f_claims = some ⟨oc2, od2, .func (PySem.W.fnOf "claims" "claims" (defArgs s_claims) (defBody s_claims) (defScope s_claims) .none kV2 dc2 pm2 an2 cd2 ct2), sl2⟩)
    (c2 : PySem.W.codeIn K cd2 "claims" = true)
    (k2 : PySem.W.keepIn K (.ref f_claims) = true)
    (a3 : PySem.W.nsIn K mainGlobals "clashes" = some (some (.ref f_clashes)))
    (l3 : K.lookup f_clashes = some ⟨oc3, od3, .func (PySem.W.fnOf "clashes" "clashes" (defArgs s_clashes) (defBody s_clashes) (defScope s_clashes) .none kV3 dc3 pm3 an3 cd3 ct3), sl3⟩)
    (c3 : PySem.W.codeIn K cd3 "clashes" = true)
    (k3 : PySem.W.keepIn K (.ref f_clashes) = true)
    (a4 : PySem.W.nsIn K mainGlobals "first_wrong_fault" = some (some (.ref f_first_wrong_fault)))
    (l4 : K.lookup f_first_wrong_fault = some ⟨oc4, od4, .func (PySem.W.fnOf "first_wrong_fault" "first_wrong_fault" (defArgs s_first_wrong_fault) (defBody s_first_wrong_fault) (defScope s_first_wrong_fault) .none kV4 dc4 pm4 an4 cd4 ct4), sl4⟩)
    (c4 : PySem.W.codeIn K cd4 "first_wrong_fault" = true)
    (k4 : PySem.W.keepIn K (.ref f_first_wrong_fault) = true)
    (a5 : PySem.W.findIn K (.ref C_Machine) "__init__" = some (some (.ref f_Machine_init)))
    (i5 : PySem.W.isFn K (.ref f_Machine_init) = true)
    (l5 : K.lookup f_Machine_init = some ⟨oc5, od5, .func (PySem.W.fnOf "__init__" "Machine.__init__" (defArgs s_Machine_init) (defBody s_Machine_init) (defScope s_Machine_init) .none kV5 dc5 pm5 an5 cd5 ct5), sl5⟩)
    (c5 : PySem.W.codeIn K cd5 "Machine.__init__" = true)
    (k5 : PySem.W.keepIn K (.ref f_Machine_init) = true)
    (a6 : PySem.W.findIn K (.ref C_Machine) "with_fault" = some (some (.ref f_Machine_with_fault)))
    (i6 : PySem.W.isFn K (.ref f_Machine_with_fault) = true)
    (l6 : K.lookup f_Machine_with_fault = some ⟨oc6, od6, .func (PySem.W.fnOf "with_fault" "Machine.with_fault" (defArgs s_Machine_with_fault) (defBody s_Machine_with_fault) (defScope s_Machine_with_fault) .none kV6 dc6 pm6 an6 cd6 ct6), sl6⟩)
    (c6 : PySem.W.codeIn K cd6 "Machine.with_fault" = true)
    (k6 : PySem.W.keepIn K (.ref f_Machine_with_fault) = true)
    (a7 : PySem.W.findIn K (.ref C_Machine) "repaired" = some (some (.ref f_Machine_repaired)))
    (i7 : PySem.W.isFn K (.ref f_Machine_repaired) = true)
    (l7 : K.lookup f_Machine_repaired = some ⟨oc7, od7, .func (PySem.W.fnOf "repaired" "Machine.repaired" (defArgs s_Machine_repaired) (defBody s_Machine_repaired) (defScope s_Machine_repaired) .none kV7 dc7 pm7 an7 cd7 ct7), sl7⟩)
    (c7 : PySem.W.codeIn K cd7 "Machine.repaired" = true)
    (k7 : PySem.W.keepIn K (.ref f_Machine_repaired) = true)
    (a8 : PySem.W.findIn K (.ref C_Machine) "__eq__" = some (some (.ref f_Machine_eq)))
    (i8 : PySem.W.isFn K (.ref f_Machine_eq) = true)
    (l8 : K.lookup f_Machine_eq = some ⟨oc8, od8, .func (PySem.W.fnOf "__eq__" "Machine.__eq__" (defArgs s_Machine_eq) (defBody s_Machine_eq) (defScope s_Machine_eq) .none kV8 dc8 pm8 an8 cd8 ct8), sl8⟩)
    (c8 : PySem.W.codeIn K cd8 "Machine.__eq__" = true)
    (k8 : PySem.W.keepIn K (.ref f_Machine_eq) = true)
    (a9 : PySem.W.nsIn K mainGlobals "has_two_signs" = some (some (.ref f_has_two_signs)))
    (l9 : K.lookup f_has_two_signs = some ⟨oc9, od9, .func (PySem.W.fnOf "has_two_signs" "has_two_signs" (defArgs s_has_two_signs) (defBody s_has_two_signs) (defScope s_has_two_signs) .none kV9 dc9 pm9 an9 cd9 ct9), sl9⟩)
    (c9 : PySem.W.codeIn K cd9 "has_two_signs" = true)
    (k9 : PySem.W.keepIn K (.ref f_has_two_signs) = true)
    (a10 : PySem.W.nsIn K mainGlobals "first_wrong_key" = some (some (.ref f_first_wrong_key)))
    (l10 : K.lookup f_first_wrong_key = some ⟨oc10, od10, .func (PySem.W.fnOf "first_wrong_key" "first_wrong_key" (defArgs s_first_wrong_key) (defBody s_first_wrong_key) (defScope s_first_wrong_key) .none kV10 dc10 pm10 an10 cd10 ct10), sl10⟩)
    (c10 : PySem.W.codeIn K cd10 "first_wrong_key" = true)
    (k10 : PySem.W.keepIn K (.ref f_first_wrong_key) = true)
    (a11 : PySem.W.nsIn K mainGlobals "places_of_signs" = some (some (.ref f_places_of_signs)))
    (l11 : K.lookup f_places_of_signs = some ⟨oc11, od11, .func (PySem.W.fnOf "places_of_signs" "places_of_signs" (defArgs s_places_of_signs) (defBody s_places_of_signs) (defScope s_places_of_signs) .none kV11 dc11 pm11 an11 cd11 ct11), sl11⟩)
    (c11 : PySem.W.codeIn K cd11 "places_of_signs" = true)
    (k11 : PySem.W.keepIn K (.ref f_places_of_signs) = true)
    (a12 : PySem.W.findIn K (.ref C_Keyboard) "__init__" = some (some (.ref f_Keyboard_init)))
    (i12 : PySem.W.isFn K (.ref f_Keyboard_init) = true)
    (l12 : K.lookup f_Keyboard_init = some ⟨oc12, od12, .func (PySem.W.fnOf "__init__" "Keyboard.__init__" (defArgs s_Keyboard_init) (defBody s_Keyboard_init) (defScope s_Keyboard_init) .none kV12 dc12 pm12 an12 cd12 ct12), sl12⟩)
    (c12 : PySem.W.codeIn K cd12 "Keyboard.__init__" = true)
    (k12 : PySem.W.keepIn K (.ref f_Keyboard_init) = true)
    (a13 : PySem.W.findIn K (.ref C_Keyboard) "__len__" = some (some (.ref f_Keyboard_len)))
    (i13 : PySem.W.isFn K (.ref f_Keyboard_len) = true)
    (l13 : K.lookup f_Keyboard_len = some ⟨oc13, od13, .func (PySem.W.fnOf "__len__" "Keyboard.__len__" (defArgs s_Keyboard_len) (defBody s_Keyboard_len) (defScope s_Keyboard_len) .none kV13 dc13 pm13 an13 cd13 ct13), sl13⟩)
    (c13 : PySem.W.codeIn K cd13 "Keyboard.__len__" = true)
    (k13 : PySem.W.keepIn K (.ref f_Keyboard_len) = true)
    (a14 : PySem.W.findIn K (.ref C_Keyboard) "__eq__" = some (some (.ref f_Keyboard_eq)))
    (i14 : PySem.W.isFn K (.ref f_Keyboard_eq) = true)
    (l14 : K.lookup f_Keyboard_eq = some ⟨oc14, od14, .func (PySem.W.fnOf "__eq__" "Keyboard.__eq__" (defArgs s_Keyboard_eq) (defBody s_Keyboard_eq) (defScope s_Keyboard_eq) .none kV14 dc14 pm14 an14 cd14 ct14), sl14⟩)
    (c14 : PySem.W.codeIn K cd14 "Keyboard.__eq__" = true)
    (k14 : PySem.W.keepIn K (.ref f_Keyboard_eq) = true)
    (a15 : PySem.W.nsIn K mainGlobals "_law_mix" = some (some (.ref f_l_mix)))
    (l15 : K.lookup f_l_mix = some ⟨oc15, od15, .func (PySem.W.fnOf "_law_mix" "_law_mix" (defArgs s_l_mix) (defBody s_l_mix) (defScope s_l_mix) .none kV15 dc15 pm15 an15 cd15 ct15), sl15⟩)
    (c15 : PySem.W.codeIn K cd15 "_law_mix" = true)
    (k15 : PySem.W.keepIn K (.ref f_l_mix) = true)
    (a16 : PySem.W.nsIn K mainGlobals "_law_next" = some (some (.ref f_l_next)))
    (l16 : K.lookup f_l_next = some ⟨oc16, od16, .func (PySem.W.fnOf "_law_next" "_law_next" (defArgs s_l_next) (defBody s_l_next) (defScope s_l_next) .none kV16 dc16 pm16 an16 cd16 ct16), sl16⟩)
    (c16 : PySem.W.codeIn K cd16 "_law_next" = true)
    (k16 : PySem.W.keepIn K (.ref f_l_next) = true)
    (a17 : PySem.W.nsIn K mainGlobals "_law_alike" = some (some (.ref f_l_alike)))
    (l17 : K.lookup f_l_alike = some ⟨oc17, od17, .func (PySem.W.fnOf "_law_alike" "_law_alike" (defArgs s_l_alike) (defBody s_l_alike) (defScope s_l_alike) .none kV17 dc17 pm17 an17 cd17 ct17), sl17⟩)
    (c17 : PySem.W.codeIn K cd17 "_law_alike" = true)
    (k17 : PySem.W.keepIn K (.ref f_l_alike) = true)
    (a18 : PySem.W.nsIn K mainGlobals "_law_keys" = some (some (.ref f_l_keys)))
    (l18 : K.lookup f_l_keys = some ⟨oc18, od18, .func (PySem.W.fnOf "_law_keys" "_law_keys" (defArgs s_l_keys) (defBody s_l_keys) (defScope s_l_keys) .none kV18 dc18 pm18 an18 cd18 ct18), sl18⟩)
    (c18 : PySem.W.codeIn K cd18 "_law_keys" = true)
    (k18 : PySem.W.keepIn K (.ref f_l_keys) = true)
    (a19 : PySem.W.nsIn K mainGlobals "_law_fault" = some (some (.ref f_l_fault)))
    (l19 : K.lookup f_l_fault = some ⟨oc19, od19, .func (PySem.W.fnOf "_law_fault" "_law_fault" (defArgs s_l_fault) (defBody s_l_fault) (defScope s_l_fault) .none kV19 dc19 pm19 an19 cd19 ct19), sl19⟩)
    (c19 : PySem.W.codeIn K cd19 "_law_fault" = true)
    (k19 : PySem.W.keepIn K (.ref f_l_fault) = true)
    (a20 : PySem.W.nsIn K mainGlobals "_law_clash" = some (some (.ref f_l_clash)))
    (l20 : K.lookup f_l_clash = some ⟨oc20, od20, .func (PySem.W.fnOf "_law_clash" "_law_clash" (defArgs s_l_clash) (defBody s_l_clash) (defScope s_l_clash) .none kV20 dc20 pm20 an20 cd20 ct20), sl20⟩)
    (c20 : PySem.W.codeIn K cd20 "_law_clash" = true)
    (k20 : PySem.W.keepIn K (.ref f_l_clash) = true)
    (a21 : PySem.W.nsIn K mainGlobals "_law_faults" = some (some (.ref f_l_faults)))
    (l21 : K.lookup f_l_faults = some ⟨oc21, od21, .func (PySem.W.fnOf "_law_faults" "_law_faults" (defArgs s_l_faults) (defBody s_l_faults) (defScope s_l_faults) .none kV21 dc21 pm21 an21 cd21 ct21), sl21⟩)
    (c21 : PySem.W.codeIn K cd21 "_law_faults" = true)
    (k21 : PySem.W.keepIn K (.ref f_l_faults) = true)
    (a22 : PySem.W.nsIn K mainGlobals "_law_drawn" = some (some (.ref f_l_drawn)))
    (l22 : K.lookup f_l_drawn = some ⟨oc22, od22, .func (PySem.W.fnOf "_law_drawn" "_law_drawn" (defArgs s_l_drawn) (defBody s_l_drawn) (defScope s_l_drawn) .none kV22 dc22 pm22 an22 cd22 ct22), sl22⟩)
    (c22 : PySem.W.codeIn K cd22 "_law_drawn" = true)
    (k22 : PySem.W.keepIn K (.ref f_l_drawn) = true)
    (a23 : PySem.W.nsIn K mainGlobals "_law_machine" = some (some (.ref f_l_machine)))
    (l23 : K.lookup f_l_machine = some ⟨oc23, od23, .func (PySem.W.fnOf "_law_machine" "_law_machine" (defArgs s_l_machine) (defBody s_l_machine) (defScope s_l_machine) .none kV23 dc23 pm23 an23 cd23 ct23), sl23⟩)
    (c23 : PySem.W.codeIn K cd23 "_law_machine" = true)
    (k23 : PySem.W.keepIn K (.ref f_l_machine) = true)
    (a24 : PySem.W.nsIn K mainGlobals "law" = some (some (.ref f_law)))
    (l24 : K.lookup f_law = some ⟨oc24, od24, .func (PySem.W.fnOf "law" "law" (defArgs s_law) (defBody s_law) (defScope s_law) .none kV24 dc24 pm24 an24 cd24 ct24), sl24⟩)
    (c24 : PySem.W.codeIn K cd24 "law" = true)
    (k24 : PySem.W.keepIn K (.ref f_law) = true)
    (pgMachine : PySem.W.plainGet K C_Machine Str.empty = true)
    (hdMachine : PySem.W.hasDictIn K C_Machine = true)
    (poMachine : PySem.W.plainOver K C_Machine = true)
    (saMachine : PySem.W.findIn K (.ref C_Machine) "__setattr__" = some (some (.builtin "object.__setattr__")))
    (mkMachine : PySem.W.makesIn K C_Machine = true)
    (kcMachine : PySem.W.keepIn K (.ref C_Machine) = true)
    (nMachinekeyboard : PySem.W.findIn K (.ref C_Machine) "keyboard" = some none)
    (nMachinewidth : PySem.W.findIn K (.ref C_Machine) "width" = some none)
    (nMachinefaults : PySem.W.findIn K (.ref C_Machine) "faults" = some none)
    (thaMachine : PySem.W.findIn K (.ref C_Machine) "__class__" = some (some (.builtin "object.__class__")))
    (thnMachine : PySem.W.specialIn K (.builtin "object.__class__") "__get__" = some (some (.builtin "getset_descriptor.__get__")))
    (thkMachine : PySem.W.takesIn K (.builtin "object.__class__") = some true)
    (thmMachine : PySem.W.mroIn K C_Machine (.type "object") = some true)
    (xLMachine : K.lookup C_Machine = some (excClassObj nm_Machine q_Machine C_Machine N_Machine bs_Machine [.type "object"] hd_Machine sn_Machine sub_Machine ab_Machine col_Machine dd_Machine k0_Machine k1_Machine k2_Machine k3_Machine k5_Machine id_Machine))
    (lNMachine : K.lookup N_Machine = some ⟨oN_Machine, dN_Machine, .dict es_Machine n_Machine, sl_Machine⟩)
    (oNMachine : (es_Machine.all fun e => match e.key with | .str _ _ => true | _ => false) = true)
    (nqMachine : PySem.W.nsIn K N_Machine "__eq__" = some (some (.ref f_Machine_eq)))
    (nnMachine : PySem.W.nsIn K N_Machine "__ne__" = some none)
    (pgKeyboard : PySem.W.plainGet K C_Keyboard Str.empty = true)
    (hdKeyboard : PySem.W.hasDictIn K C_Keyboard = true)
    (poKeyboard : PySem.W.plainOver K C_Keyboard = true)
    (saKeyboard : PySem.W.findIn K (.ref C_Keyboard) "__setattr__" = some (some (.builtin "object.__setattr__")))
    (mkKeyboard : PySem.W.makesIn K C_Keyboard = true)
    (kcKeyboard : PySem.W.keepIn K (.ref C_Keyboard) = true)
    (nKeyboardkey_signs : PySem.W.findIn K (.ref C_Keyboard) "key_signs" = some none)
    (nKeyboardsigns : PySem.W.findIn K (.ref C_Keyboard) "signs" = some none)
    (nKeyboardplaces : PySem.W.findIn K (.ref C_Keyboard) "_places" = some none)
    (thaKeyboard : PySem.W.findIn K (.ref C_Keyboard) "__class__" = some (some (.builtin "object.__class__")))
    (thnKeyboard : PySem.W.specialIn K (.builtin "object.__class__") "__get__" = some (some (.builtin "getset_descriptor.__get__")))
    (thkKeyboard : PySem.W.takesIn K (.builtin "object.__class__") = some true)
    (thmKeyboard : PySem.W.mroIn K C_Keyboard (.type "object") = some true)
    (xLKeyboard : K.lookup C_Keyboard = some (excClassObj nm_Keyboard q_Keyboard C_Keyboard N_Keyboard bs_Keyboard [.type "object"] hd_Keyboard sn_Keyboard sub_Keyboard ab_Keyboard col_Keyboard dd_Keyboard k0_Keyboard k1_Keyboard k2_Keyboard k3_Keyboard k5_Keyboard id_Keyboard))
    (lNKeyboard : K.lookup N_Keyboard = some ⟨oN_Keyboard, dN_Keyboard, .dict es_Keyboard n_Keyboard, sl_Keyboard⟩)
    (oNKeyboard : (es_Keyboard.all fun e => match e.key with | .str _ _ => true | _ => false) = true)
    (nqKeyboard : PySem.W.nsIn K N_Keyboard "__eq__" = some (some (.ref f_Keyboard_eq)))
    (nnKeyboard : PySem.W.nsIn K N_Keyboard "__ne__" = some none)
    (zany : PySem.W.nsIn K mainGlobals "any" = some none)
    (zbool : PySem.W.nsIn K mainGlobals "bool" = some none)
    (zdict : PySem.W.nsIn K mainGlobals "dict" = some none)
    (zenumerate : PySem.W.nsIn K mainGlobals "enumerate" = some none)
    (zint : PySem.W.nsIn K mainGlobals "int" = some none)
    (zisinstance : PySem.W.nsIn K mainGlobals "isinstance" = some none)
    (zlen : PySem.W.nsIn K mainGlobals "len" = some none)
    (zlist : PySem.W.nsIn K mainGlobals "list" = some none)
    (zmax : PySem.W.nsIn K mainGlobals "max" = some none)
    (zmin : PySem.W.nsIn K mainGlobals "min" = some none)
    (zrange : PySem.W.nsIn K mainGlobals "range" = some none)
    (zsorted : PySem.W.nsIn K mainGlobals "sorted" = some none)
    (zstr : PySem.W.nsIn K mainGlobals "str" = some none)
    (zsuper : PySem.W.nsIn K mainGlobals "super" = some none)
    (ztuple : PySem.W.nsIn K mainGlobals "tuple" = some none)
    (vLEAST_WIDTH : PySem.W.nsIn K mainGlobals "LEAST_WIDTH" = some (some (.int 2 t_LEAST_WIDTH)))
    (vMOST_WIDTH : PySem.W.nsIn K mainGlobals "MOST_WIDTH" = some (some (.int 20 t_MOST_WIDTH)))
    (vSIGNS : PySem.W.nsIn K mainGlobals "SIGNS" = some (some (.str "!,-.0123456789:;?ABCDEFGHIJKLMNOPQRSTUVWXYZabcdefghijklmnopqrstuvwxyz" t_SIGNS)))
    (vFEWEST_KEYS : PySem.W.nsIn K mainGlobals "FEWEST_KEYS" = some (some (.int 2 t_FEWEST_KEYS)))
    (vMOST_KEYS : PySem.W.nsIn K mainGlobals "MOST_KEYS" = some (some (.int 10 t_MOST_KEYS)))
    : ∃ fd : FuncData, (∀ (s : Shared) (v : Value), BindsTo s fd ⟨[v], []⟩ [("_law_script", v)]) ∧ ∀ base : Heap, K.In base -> base.Ns mainGlobals mg -> FnOk P w K mg base CX0 30 fa fd ["_law_script"] (spLaw K) := by
  have e := hfa.symm.trans (PySem.W.mg_of X G a24)
  cases e
  have F0 := fun_mk (st := s_is_number) l0 c0 k0
  have b0 := F0.binds (ps := ["value", "low", "high"]) fun _ _ _ _ _ _ us hl => match us, hl with | [_, _, _], _ => rfl
  have F1 := fun_mk (st := s_fault_in_range) l1 c1 k1
  have b1 := F1.binds (ps := ["keyboard", "width", "fault"]) fun _ _ _ _ _ _ us hl => match us, hl with | [_, _, _], _ => rfl
  have F2 := fun_mk (st := s_claims) l2 c2 k2
  have b2 := F2.binds (ps := ["fault"]) fun _ _ _ _ _ _ us hl => match us, hl with | [_], _ => rfl
  have F3 := fun_mk (st := s_clashes) l3 c3 k3
  have b3 := F3.binds (ps := ["fault", "others"]) fun _ _ _ _ _ _ us hl => match us, hl with | [_, _], _ => rfl
  have F4 := fun_mk (st := s_first_wrong_fault) l4 c4 k4
  have b4 := F4.binds (ps := ["keyboard", "width", "faults"]) fun _ _ _ _ _ _ us hl => match us, hl with | [_, _, _], _ => rfl
  have F5 := fun_mk (st := s_Machine_init) l5 c5 k5
  have b5 := F5.binds (ps := ["self", "keyboard", "width", "faults"]) fun _ _ _ _ _ _ us hl => match us, hl with | [_, _, _, _], _ => rfl
  have F6 := fun_mk (st := s_Machine_with_fault) l6 c6 k6
  have b6 := F6.binds (ps := ["self", "fault"]) fun _ _ _ _ _ _ us hl => match us, hl with | [_, _], _ => rfl
  have F7 := fun_mk (st := s_Machine_repaired) l7 c7 k7
  have b7 := F7.binds (ps := ["self", "faults"]) fun _ _ _ _ _ _ us hl => match us, hl with | [_, _], _ => rfl
  have F8 := fun_mk (st := s_Machine_eq) l8 c8 k8
  have b8 := F8.binds (ps := ["self", "other"]) fun _ _ _ _ _ _ us hl => match us, hl with | [_, _], _ => rfl
  have F9 := fun_mk (st := s_has_two_signs) l9 c9 k9
  have b9 := F9.binds (ps := ["key"]) fun _ _ _ _ _ _ us hl => match us, hl with | [_], _ => rfl
  have F10 := fun_mk (st := s_first_wrong_key) l10 c10 k10
  have b10 := F10.binds (ps := ["keys"]) fun _ _ _ _ _ _ us hl => match us, hl with | [_], _ => rfl
  have F11 := fun_mk (st := s_places_of_signs) l11 c11 k11
  have b11 := F11.binds (ps := ["keys"]) fun _ _ _ _ _ _ us hl => match us, hl with | [_], _ => rfl
  have F12 := fun_mk (st := s_Keyboard_init) l12 c12 k12
  have b12 := F12.binds (ps := ["self", "keys"]) fun _ _ _ _ _ _ us hl => match us, hl with | [_, _], _ => rfl
  have F13 := fun_mk (st := s_Keyboard_len) l13 c13 k13
  have b13 := F13.binds (ps := ["self"]) fun _ _ _ _ _ _ us hl => match us, hl with | [_], _ => rfl
  have F14 := fun_mk (st := s_Keyboard_eq) l14 c14 k14
  have b14 := F14.binds (ps := ["self", "other"]) fun _ _ _ _ _ _ us hl => match us, hl with | [_, _], _ => rfl
  have F15 := fun_mk (st := s_l_mix) l15 c15 k15
  have b15 := F15.binds (ps := ["_law_script", "_law_seed"]) fun _ _ _ _ _ _ us hl => match us, hl with | [_, _], _ => rfl
  have F16 := fun_mk (st := s_l_next) l16 c16 k16
  have b16 := F16.binds (ps := ["_law_h", "_law_limit"]) fun _ _ _ _ _ _ us hl => match us, hl with | [_, _], _ => rfl
  have F17 := fun_mk (st := s_l_alike) l17 c17 k17
  have b17 := F17.binds (ps := ["_law_found", "_law_due"]) fun _ _ _ _ _ _ us hl => match us, hl with | [_, _], _ => rfl
  have F18 := fun_mk (st := s_l_keys) l18 c18 k18
  have b18 := F18.binds (ps := ["_law_h", "_law_most"]) fun _ _ _ _ _ _ us hl => match us, hl with | [_, _], _ => rfl
  have F19 := fun_mk (st := s_l_fault) l19 c19 k19
  have b19 := F19.binds (ps := ["_law_h", "_law_keys_here", "_law_width"]) fun _ _ _ _ _ _ us hl => match us, hl with | [_, _, _], _ => rfl
  have F20 := fun_mk (st := s_l_clash) l20 c20 k20
  have b20 := F20.binds (ps := ["_law_one", "_law_other"]) fun _ _ _ _ _ _ us hl => match us, hl with | [_, _], _ => rfl
  have F21 := fun_mk (st := s_l_faults) l21 c21 k21
  have b21 := F21.binds (ps := ["_law_h", "_law_keys_here", "_law_width", "_law_most"]) fun _ _ _ _ _ _ us hl => match us, hl with | [_, _, _, _], _ => rfl
  have F22 := fun_mk (st := s_l_drawn) l22 c22 k22
  have b22 := F22.binds (ps := ["_law_h", "_law_most"]) fun _ _ _ _ _ _ us hl => match us, hl with | [_, _], _ => rfl
  have F23 := fun_mk (st := s_l_machine) l23 c23 k23
  have b23 := F23.binds (ps := ["_law_drawn_here"]) fun _ _ _ _ _ _ us hl => match us, hl with | [_], _ => rfl
  have F24 := fun_mk (st := s_law) l24 c24 k24
  have b24 := F24.binds (ps := ["_law_script"]) fun _ _ _ _ _ _ us hl => match us, hl with | [_], _ => rfl
  have T : Txt K mg ⟨f_is_number, _, f_fault_in_range, _, f_claims, _, f_clashes, _, f_first_wrong_fault, _, f_Machine_init, _, f_Machine_with_fault, _, f_Machine_repaired, _, f_Machine_eq, _, f_has_two_signs, _, f_first_wrong_key, _, f_places_of_signs, _, f_Keyboard_init, _, f_Keyboard_len, _, f_Keyboard_eq, _, f_l_mix, _, f_l_next, _, f_l_alike, _, f_l_keys, _, f_l_fault, _, f_l_clash, _, f_l_faults, _, f_l_drawn, _, f_l_machine, _, fa, _, C_Machine, C_Keyboard, t_LEAST_WIDTH, t_MOST_WIDTH, t_SIGNS, t_FEWEST_KEYS, t_MOST_KEYS⟩ := ⟨F0, b0, PySem.W.mg_of X G a0, F1, b1, PySem.W.mg_of X G a1, F2, b2, PySem.W.mg_of X G a2, F3, b3, PySem.W.mg_of X G a3, F4, b4, PySem.W.mg_of X G a4, F5, b5, F6, b6, ⟨a6, i6, k6⟩, F7, b7, ⟨a7, i7, k7⟩, F8, b8, ⟨a8, i8, k8⟩, F9, b9, PySem.W.mg_of X G a9, F10, b10, PySem.W.mg_of X G a10, F11, b11, PySem.W.mg_of X G a11, F12, b12, F13, b13, ⟨a13, i13, k13⟩, F14, b14, ⟨a14, i14, k14⟩, F15, b15, PySem.W.mg_of X G a15, F16, b16, PySem.W.mg_of X G a16, F17, b17, PySem.W.mg_of X G a17, F18, b18, PySem.W.mg_of X G a18, F19, b19, PySem.W.mg_of X G a19, F20, b20, PySem.W.mg_of X G a20, F21, b21, PySem.W.mg_of X G a21, F22, b22, PySem.W.mg_of X G a22, F23, b23, PySem.W.mg_of X G a23, F24, b24, PySem.W.mg_of X G a24, ⟨pgMachine, hdMachine, poMachine, saMachine⟩, PySem.W.mg_of X G xMachine, ⟨mkMachine, a5, i5, kcMachine⟩, nMachinekeyboard, nMachinewidth, nMachinefaults, ⟨thaMachine, thnMachine, thkMachine, thmMachine⟩, neIn_of xLMachine i8 lNMachine oNMachine nqMachine nnMachine, ⟨pgKeyboard, hdKeyboard, poKeyboard, saKeyboard⟩, PySem.W.mg_of X G xKeyboard, ⟨mkKeyboard, a12, i12, kcKeyboard⟩, nKeyboardkey_signs, nKeyboardsigns, nKeyboardplaces, ⟨thaKeyboard, thnKeyboard, thkKeyboard, thmKeyboard⟩, neIn_of xLKeyboard i14 lNKeyboard oNKeyboard nqKeyboard nnKeyboard, PySem.W.mg_none_of X G zany, PySem.W.mg_none_of X G zbool, PySem.W.mg_none_of X G zdict, PySem.W.mg_none_of X G zenumerate, PySem.W.mg_none_of X G zint, PySem.W.mg_none_of X G zisinstance, PySem.W.mg_none_of X G zlen, PySem.W.mg_none_of X G zlist, PySem.W.mg_none_of X G zmax, PySem.W.mg_none_of X G zmin, PySem.W.mg_none_of X G zrange, PySem.W.mg_none_of X G zsorted, PySem.W.mg_none_of X G zstr, PySem.W.mg_none_of X G zsuper, PySem.W.mg_none_of X G ztuple, PySem.W.mg_of X G vLEAST_WIDTH, PySem.W.mg_of X G vMOST_WIDTH, PySem.W.mg_of X G vSIGNS, PySem.W.mg_of X G vFEWEST_KEYS, PySem.W.mg_of X G vMOST_KEYS⟩
  exact ⟨_, fun s v => .of_eq rfl, fun base _ _ => ok_law T⟩
end Tf
open PySem PySem.W PyProof.Rows
set_option maxRecDepth 100000 in
set_option maxHeartbeats 0 in
theorem PySem.Challenge.cw_typefault_k04_whole_machines_repaired_holds : PySem.Challenge.rw_typefault_k04_whole_machines_repaired.Holds := by
  w_on; o_law; k_head; (case hw => w_witness2)
  k_fill
  refine L2.walk_ofB (l := PySem.Challenge.rw_typefault_k04_whole_machines_repaired) (n := 63) (k := 30) (x := "_law_script") (CX := fun _ => L2.CX0) (sp := fun w => Tf.spLaw _) rfl (by decide) rfl ⟨rfl, by decide, by decide⟩ (fun w h Y => PySem.W.kIn_of Y) ?F (fun w H a ns hl hb hO hS => Tf.law_start hl hb hO hS) (fun _ _ _ _ _ h => h)
  case F =>
    intro w mg fa h KX G hmg
    refine' Tf.all_mk KX G hmg ?xKeyboard ?xMachine ?a0 ?l0 ?c0 ?k0 ?a1 ?l1 ?c1 ?k1 ?a2 ?l2 ?c2 ?k2 ?a3 ?l3 ?c3 ?k3 ?a4 ?l4 ?c4 ?k4 ?a5 ?i5 ?l5 ?c5 ?k5 ?a6 ?i6 ?l6 ?c6 ?k6 ?a7 ?i7 ?l7 ?c7 ?k7 ?a8 ?i8 ?l8 ?c8 ?k8 ?a9 ?l9 ?c9 ?k9 ?a10 ?l10 ?c10 ?k10 ?a11 ?l11 ?c11 ?k11 ?a12 ?i12 ?l12 ?c12 ?k12 ?a13 ?i13 ?l13 ?c13 ?k13 ?a14 ?i14 ?l14 ?c14 ?k14 ?a15 ?l15 ?c15 ?k15 ?a16 ?l16 ?c16 ?k16 ?a17 ?l17 ?c17 ?k17 ?a18 ?l18 ?c18 ?k18 ?a19 ?l19 ?c19 ?k19 ?a20 ?l20 ?c20 ?k20 ?a21 ?l21 ?c21 ?k21 ?a22 ?l22 ?c22 ?k22 ?a23 ?l23 ?c23 ?k23 ?a24 ?l24 ?c24 ?k24 ?pgMachine ?hdMachine ?poMachine ?saMachine ?mkMachine ?kcMachine ?nMachinekeyboard ?nMachinewidth ?nMachinefaults ?thaMachine ?thnMachine ?thkMachine ?thmMachine ?xLMachine ?lNMachine ?oNMachine ?nqMachine ?nnMachine ?pgKeyboard ?hdKeyboard ?poKeyboard ?saKeyboard ?mkKeyboard ?kcKeyboard ?nKeyboardkey_signs ?nKeyboardsigns ?nKeyboardplaces ?thaKeyboard ?thnKeyboard ?thkKeyboard ?thmKeyboard ?xLKeyboard ?lNKeyboard ?oNKeyboard ?nqKeyboard ?nnKeyboard ?zany ?zbool ?zdict ?zenumerate ?zint ?zisinstance ?zlen ?zlist ?zmax ?zmin ?zrange ?zsorted ?zstr ?zsuper ?ztuple ?vLEAST_WIDTH ?vMOST_WIDTH ?vSIGNS ?vFEWEST_KEYS ?vMOST_KEYS
    (case xKeyboard => k_is); (case xMachine => k_is); (case a0 => k_is); (case l0 => k_is); (case c0 => k_is); (case k0 => k_is); (case a1 => k_is); (case l1 => k_is)
    (case c1 => k_is); (case k1 => k_is); (case a2 => k_is); (case l2 => k_is); (case c2 => k_is); (case k2 => k_is); (case a3 => k_is); (case l3 => k_is)
    (case c3 => k_is); (case k3 => k_is); (case a4 => k_is); (case l4 => k_is); (case c4 => k_is); (case k4 => k_is); (case a5 => k_is); (case i5 => k_is)
    (case l5 => k_is); (case c5 => k_is); (case k5 => k_is); (case a6 => k_is); (case i6 => k_is); (case l6 => k_is); (case c6 => k_is); (case k6 => k_is)
    (case a7 => k_is); (case i7 => k_is); (case l7 => k_is); (case c7 => k_is); (case k7 => k_is); (case a8 => k_is); (case i8 => k_is); (case l8 => k_is)
    (case c8 => k_is); (case k8 => k_is); (case a9 => k_is); (case l9 => k_is); (case c9 => k_is); (case k9 => k_is); (case a10 => k_is); (case l10 => k_is)
    (case c10 => k_is); (case k10 => k_is); (case a11 => k_is); (case l11 => k_is); (case c11 => k_is); (case k11 => k_is); (case a12 => k_is); (case i12 => k_is)
    (case l12 => k_is); (case c12 => k_is); (case k12 => k_is); (case a13 => k_is); (case i13 => k_is); (case l13 => k_is); (case c13 => k_is); (case k13 => k_is)
    (case a14 => k_is); (case i14 => k_is); (case l14 => k_is); (case c14 => k_is); (case k14 => k_is); (case a15 => k_is); (case l15 => k_is); (case c15 => k_is)
    (case k15 => k_is); (case a16 => k_is); (case l16 => k_is); (case c16 => k_is); (case k16 => k_is); (case a17 => k_is); (case l17 => k_is); (case c17 => k_is)
    (case k17 => k_is); (case a18 => k_is); (case l18 => k_is); (case c18 => k_is); (case k18 => k_is); (case a19 => k_is); (case l19 => k_is); (case c19 => k_is)
    (case k19 => k_is); (case a20 => k_is); (case l20 => k_is); (case c20 => k_is); (case k20 => k_is); (case a21 => k_is); (case l21 => k_is); (case c21 => k_is)
    (case k21 => k_is); (case a22 => k_is); (case l22 => k_is); (case c22 => k_is); (case k22 => k_is); (case a23 => k_is); (case l23 => k_is); (case c23 => k_is)
    (case k23 => k_is); (case a24 => k_is); (case l24 => k_is); (case c24 => k_is); (case k24 => k_is); (case pgMachine => k_is); (case hdMachine => k_is); (case poMachine => k_is)
    (case saMachine => k_is); (case mkMachine => k_is); (case kcMachine => k_is); (case nMachinekeyboard => k_is); (case nMachinewidth => k_is); (case nMachinefaults => k_is); (case thaMachine => k_is); (case thnMachine => k_is)
    (case thkMachine => k_is); (case thmMachine => k_is); (case xLMachine => k_is); (case lNMachine => k_is); (case oNMachine => (first | (rw [← Array.all_toList]; rfl) | simp)); (case nqMachine => k_is); (case nnMachine => k_is); (case pgKeyboard => k_is)
    (case hdKeyboard => k_is); (case poKeyboard => k_is); (case saKeyboard => k_is); (case mkKeyboard => k_is); (case kcKeyboard => k_is); (case nKeyboardkey_signs => k_is); (case nKeyboardsigns => k_is); (case nKeyboardplaces => k_is)
    (case thaKeyboard => k_is); (case thnKeyboard => k_is); (case thkKeyboard => k_is); (case thmKeyboard => k_is); (case xLKeyboard => k_is); (case lNKeyboard => k_is); (case oNKeyboard => (first | (rw [← Array.all_toList]; rfl) | simp)); (case nqKeyboard => k_is)
    (case nnKeyboard => k_is); (case zany => k_is); (case zbool => k_is); (case zdict => k_is); (case zenumerate => k_is); (case zint => k_is); (case zisinstance => k_is); (case zlen => k_is)
    (case zlist => k_is); (case zmax => k_is); (case zmin => k_is); (case zrange => k_is); (case zsorted => k_is); (case zstr => k_is); (case zsuper => k_is); (case ztuple => k_is)
    (case vLEAST_WIDTH => k_is); (case vMOST_WIDTH => k_is); (case vSIGNS => k_is); (case vFEWEST_KEYS => k_is); (case vMOST_KEYS => k_is)
