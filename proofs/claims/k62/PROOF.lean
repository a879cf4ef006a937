import PyProof.Rows.All
import Wide.All
import OpenK.AllK
import Wide.FinOn
import HandS.ForMost
import HandS.ForExc
import HandS.IsInst
import HandS.TupAny
import HandS.Deep
import HandS.DeepEq
import HandS.Zip
import HandS.Conv
import HandS.Style
import HandS.TupMul
import HandS.Wide
import HandS.StrMore
import HandS.Replace
import HandS.SetKeys
import HandS.Walk
import HandS.Small
import KE.GoesEnum
import HandS.More
import HandS.SetFor
import HandS.Strs
import HandS.DictComp
import HandS.Rev
import HandS.Defaults
import HandS.List
import PySem.Challenge.RW_threescribes_k62_steps_of_any_integers
set_option Elab.async false
set_option linter.all false
set_option maxRecDepth 100000
/-! The layer of data: Python's values as trees, the store of what may change, and what a text does to them as a function. -/
namespace TS
open PySem PySem.Spec PyProof.Rows L2

/-- a value as data: what never changes as a tree; what may change by its number in the store -/
inductive D where
  | non | bl (b : Bool) | int (i : Int) | str (x : Str) | tup (xs : List D) | ref (i : Nat) | fl (xs : List D) | ty (n : String)
/-- what may change -/
inductive MO where
  | lst (xs : List D)
  | dK (kvs : List (Key × D))
  | dT (kvs : List (List Key × D))
abbrev Store := List MO
abbrev M (α : Type) := Store → Option (α × Store)
def ret {α : Type} (a : α) : M α := fun S => some (a, S)
def bnd {α β : Type} (x : M α) (f : α → M β) : M β := fun S => match x S with
  | some (a, S') => f a S'
  | none => none
def fail {α : Type} : M α := fun _ => none
theorem bnd_some {α β : Type} {x : M α} {f : α → M β} {S : Store} {r : β × Store} (h : bnd x f S = some r) : ∃ a S1, x S = some (a, S1) ∧ f a S1 = some r := by
  unfold bnd at h
  cases e : x S with
  | none => rw [e] at h; cases h
  | some p => rw [e] at h; exact ⟨p.1, p.2, rfl, h⟩
theorem bnd_eq {α β : Type} {x : M α} {f : α → M β} {S S1 : Store} {a : α} (h : x S = some (a, S1)) : bnd x f S = f a S1 := by
  unfold bnd; rw [h]

section
variable (K : PySem.W.Frag)
/-- a list that is locked: the script, a constant of the module -/
def FzL (H : Hp) (a : Addr) (vs : List V) : Prop :=
  (∃ o, H a = some (.frz o (.lst vs))) ∨ ∃ (o : Obj) (its : Array Value) (n : Nat), K.lookup a = some o ∧ o.cls = .type "list" ∧ o.dict = none ∧ o.data = .seq its n ∧ its.size ≤ sizeLine ∧ Vals vs its.toList
mutual
inductive Rep (m : List Addr) (H : Hp) : D → V → Prop
  | non : Rep m H .non .non
  | bl (b : Bool) : Rep m H (.bl b) (.bl b)
  | int (i : Int) : Rep m H (.int i) (.int i)
  | str (x : Str) : Rep m H (.str x) (.str x)
  | ty (n : String) : Rep m H (.ty n) (.ty n)
  | tup {a : Addr} {vs : List V} {ds : List D} : SqT K H a vs → Reps m H ds vs → Rep m H (.tup ds) (.ref a)
  | fl {a : Addr} {vs : List V} {ds : List D} : FzL K H a vs → Reps m H ds vs → Rep m H (.fl ds) (.ref a)
  | ref {i : Nat} {a : Addr} : m[i]? = some a → Rep m H (.ref i) (.ref a)
inductive Reps (m : List Addr) (H : Hp) : List D → List V → Prop
  | nil : Reps m H [] []
  | cons {d : D} {v : V} {ds : List D} {vs : List V} : Rep m H d v → Reps m H ds vs → Reps m H (d :: ds) (v :: vs)
end
inductive RepO (m : List Addr) (H : Hp) : MO → HO → Prop
  | lst {ds : List D} {vs : List V} : Reps K m H ds vs → RepO m H (.lst ds) (.lst vs)
  | dK {kvs : List (Key × D)} {us : List (Key × V)} : us.map (·.1) = kvs.map (·.1) → Reps K m H (kvs.map (·.2)) (us.map (·.2)) → RepO m H (.dK kvs) (.dK us)
  | dT {kvs : List (List Key × D)} {us : List (List Key × V)} : us.map (·.1) = kvs.map (·.1) → Reps K m H (kvs.map (·.2)) (us.map (·.2)) → RepO m H (.dT kvs) (.dT us)
structure Rel (m : List Addr) (S : Store) (H : Hp) : Prop where
  len : m.length = S.length
  nd : m.Nodup
  ob : ∀ (i : Nat) (a : Addr) (o : MO), m[i]? = some a → S[i]? = some o → ∃ u, H a = some u ∧ RepO K m H o u
end
structure Ext (m : List Addr) (H : Hp) (m' : List Addr) (H' : Hp) : Prop where
  pre : ∃ l, m' = m ++ l
  new : ∀ a, a ∈ m' → a ∉ m → H a = none
  keep : ∀ a o, H a = some o → a ∉ m → H' a = some o

section
variable {K : PySem.W.Frag} {m m' m2 : List Addr} {S S' S2 : Store} {H H' H2 : Hp} {d : D} {v : V} {ds : List D} {vs : List V} {a : Addr}
theorem Ext.refl : Ext m H m H := ⟨⟨[], (List.append_nil m).symm⟩, fun a h n => absurd h n, fun _ _ h _ => h⟩
theorem Ext.at (e : Ext m H m' H') {i : Nat} (h : m[i]? = some a) : m'[i]? = some a := by
  obtain ⟨l, rfl⟩ := e.pre
  rw [List.getElem?_append_left (List.getElem?_eq_some_iff.mp h).1]
  exact h
theorem Ext.trans (e : Ext m H m' H') (f : Ext m' H' m2 H2) : Ext m H m2 H2 where
  pre := by
    obtain ⟨l, rfl⟩ := e.pre
    obtain ⟨l2, rfl⟩ := f.pre
    exact ⟨l ++ l2, List.append_assoc _ _ _⟩
  new := fun b hb hn => by
    by_cases h1 : b ∈ m'
    · exact e.new b h1 hn
    · cases q : H b with
      | none => rfl
      | some o =>
        have := f.new b hb h1
        rw [e.keep b o q hn] at this
        cases this
  keep := fun b o q hn => by
    by_cases h1 : b ∈ m'
    · have := e.new b h1 hn
      rw [q] at this
      cases this
    · exact f.keep b o (e.keep b o q hn) h1
theorem Rel.mem (r : Rel K m S H) (h : a ∈ m) : ∃ u, H a = some u ∧ (∃ (i : Nat) (o : MO), m[i]? = some a ∧ S[i]? = some o ∧ RepO K m H o u) := by
  obtain ⟨i, hi, e⟩ := List.getElem_of_mem h
  have h1 : m[i]? = some a := List.getElem?_eq_some_iff.mpr ⟨hi, e⟩
  have h2 : i < S.length := r.len ▸ hi
  obtain ⟨u, hu, ho⟩ := r.ob i a S[i] h1 (List.getElem?_eq_getElem h2)
  exact ⟨u, hu, i, S[i], h1, List.getElem?_eq_getElem h2, ho⟩
theorem Rel.not_tup (r : Rel K m S H) {xs : List V} (h : H a = some (.tup xs)) : a ∉ m := fun hm => by
  obtain ⟨u, hu, i, o, _, _, ho⟩ := r.mem hm
  rw [h] at hu
  cases hu
  cases ho
theorem Rel.not_frz (r : Rel K m S H) {o : Obj} {u : HO} (h : H a = some (.frz o u)) : a ∉ m := fun hm => by
  obtain ⟨u, hu, i, o, _, _, ho⟩ := r.mem hm
  rw [h] at hu
  cases hu
  cases ho
theorem Rel.sqT (r : Rel K m S H) (e : Ext m H m' H') (h : SqT K H a vs) : SqT K H' a vs := by
  rcases h with (h | ⟨o, h⟩) | h
  · exact .inl (.inl (e.keep _ _ h (r.not_tup h)))
  · exact .inl (.inr ⟨o, e.keep _ _ h (r.not_frz h)⟩)
  · exact .inr h
theorem Rel.fzL (r : Rel K m S H) (e : Ext m H m' H') (h : FzL K H a vs) : FzL K H' a vs := by
  rcases h with ⟨o, h⟩ | h
  · exact .inl ⟨o, e.keep _ _ h (r.not_frz h)⟩
  · exact .inr h
mutual
theorem Rep.mono (r : Rel K m S H) (e : Ext m H m' H') : ∀ {d : D} {v : V}, Rep K m H d v → Rep K m' H' d v
  | _, _, .non => .non
  | _, _, .bl b => .bl b
  | _, _, .int i => .int i
  | _, _, .str x => .str x
  | _, _, .ty n => .ty n
  | _, _, .tup h hs => .tup (r.sqT e h) (Reps.mono r e hs)
  | _, _, .fl h hs => .fl (r.fzL e h) (Reps.mono r e hs)
  | _, _, .ref h => .ref (e.at h)
theorem Reps.mono (r : Rel K m S H) (e : Ext m H m' H') : ∀ {ds : List D} {vs : List V}, Reps K m H ds vs → Reps K m' H' ds vs
  | _, _, .nil => .nil
  | _, _, .cons h hs => .cons (Rep.mono r e h) (Reps.mono r e hs)
end
theorem RepO.mono (r : Rel K m S H) (e : Ext m H m' H') {o : MO} {u : HO} (h : RepO K m H o u) : RepO K m' H' o u := by
  cases h with
  | lst h => exact .lst (h.mono r e)
  | dK h1 h2 => exact .dK h1 (h2.mono r e)
  | dT h1 h2 => exact .dT h1 (h2.mono r e)
/-- a step that leaves the store as it is, with fresh objects only -/
theorem Rel.keep (r : Rel K m S H) (k : ∀ a o, H a = some o → H' a = some o) : Rel K m S H' ∧ Ext m H m H' := by
  have e : Ext m H m H' := ⟨⟨[], (List.append_nil m).symm⟩, fun a h n => absurd h n, fun a o h _ => k a o h⟩
  refine ⟨⟨r.len, r.nd, fun i a o h1 h2 => ?_⟩, e⟩
  obtain ⟨u, hu, ho⟩ := r.ob i a o h1 h2
  exact ⟨u, k a u hu, ho.mono r e⟩
theorem keep_upd {p : Addr} {o : HO} (h : H p = none) : ∀ a u, H a = some u → upd H p o a = some u := fun a u q => by
  rw [upd_ne (ne_of_none q h)]
  exact q
/-- a new tuple -/
theorem Rel.tup (r : Rel K m S H) {p : Addr} (h : H p = none) (hs : Reps K m H ds vs) : Rel K m S (upd H p (.tup vs)) ∧ Ext m H m (upd H p (.tup vs)) ∧ Rep K m (upd H p (.tup vs)) (.tup ds) (.ref p) := by
  obtain ⟨r1, e1⟩ := r.keep (keep_upd (o := .tup vs) h)
  exact ⟨r1, e1, .tup (.inl (.inl upd_same)) (hs.mono r e1)⟩
/-- a new object of the store -/
theorem Rel.new (r : Rel K m S H) {p : Addr} {o : MO} {u : HO} (h : H p = none) (ho : RepO K m H o u) :
    Rel K (m ++ [p]) (S ++ [o]) (upd H p u) ∧ Ext m H (m ++ [p]) (upd H p u) ∧ Rep K (m ++ [p]) (upd H p u) (.ref S.length) (.ref p) := by
  have hp : p ∉ m := fun hm => by
    obtain ⟨u, hu, _⟩ := r.mem hm
    rw [h] at hu
    cases hu
  have e : Ext m H (m ++ [p]) (upd H p u) := ⟨⟨[p], rfl⟩, fun b hb hn => by
    rcases List.mem_append.mp hb with q | q
    · exact absurd q hn
    · rw [List.mem_singleton.mp q]
      exact h, fun b w q _ => keep_upd h b w q⟩
  refine ⟨⟨by simp [r.len], ?_, fun i b w h1 h2 => ?_⟩, e, .ref ?_⟩
  · exact List.nodup_append.mpr ⟨r.nd, List.nodup_cons.mpr ⟨List.not_mem_nil, List.nodup_nil⟩, fun b hb c hc => fun z => hp (by
      rw [List.mem_singleton.mp hc] at z
      rw [← z]
      exact hb)⟩
  · by_cases hi : i < m.length
    · rw [List.getElem?_append_left hi] at h1
      rw [List.getElem?_append_left (r.len ▸ hi)] at h2
      obtain ⟨u2, hu, ho2⟩ := r.ob i b w h1 h2
      exact ⟨u2, keep_upd h b u2 hu, ho2.mono r e⟩
    · have hl : i < (m ++ [p]).length := (List.getElem?_eq_some_iff.mp h1).1
      rw [List.length_append, List.length_singleton] at hl
      have hi2 : i = m.length := by omega
      subst hi2
      rw [List.getElem?_append_right (Nat.le_refl _), Nat.sub_self] at h1
      rw [r.len, List.getElem?_append_right (Nat.le_refl _), Nat.sub_self] at h2
      cases h1
      cases h2
      exact ⟨u, upd_same, ho.mono r e⟩
  · rw [← r.len, List.getElem?_append_right (Nat.le_refl _), Nat.sub_self]
    rfl
theorem nodup_get {α : Type} {l : List α} (h : l.Nodup) {i j : Nat} (hi : i < l.length) (hj : j < l.length) (e : l[i] = l[j]) : i = j := by
  have p := List.pairwise_iff_getElem.mp h
  rcases Nat.lt_trichotomy i j with q | q | q
  · exact absurd e (p i j hi hj q)
  · exact q
  · exact absurd e.symm (p j i hj hi q)
/-- an object of the store is changed -/
theorem Rel.set (r : Rel K m S H) {i : Nat} {p : Addr} {o : MO} {u : HO} (h : m[i]? = some p) (ho : RepO K m H o u) :
    Rel K m (S.set i o) (upd H p u) ∧ Ext m H m (upd H p u) := by
  have hm : p ∈ m := List.mem_of_getElem? h
  have e : Ext m H m (upd H p u) := ⟨⟨[], (List.append_nil m).symm⟩, fun a q n => absurd q n, fun b w q n => by
    rw [upd_ne (fun z => n (by rw [z]; exact hm))]
    exact q⟩
  refine ⟨⟨by rw [List.length_set]; exact r.len, r.nd, fun j b w h1 h2 => ?_⟩, e⟩
  by_cases hj : j = i
  · subst hj
    rw [h] at h1
    cases h1
    have hl : j < S.length := r.len ▸ (List.getElem?_eq_some_iff.mp h).1
    rw [List.getElem?_set_self hl] at h2
    cases h2
    exact ⟨u, upd_same, ho.mono r e⟩
  · rw [List.getElem?_set_ne (fun z => hj z.symm)] at h2
    obtain ⟨u2, hu, ho2⟩ := r.ob j b w h1 h2
    have hne : b ≠ p := fun z => by
      subst z
      have l1 := (List.getElem?_eq_some_iff.mp h1)
      have l2 := (List.getElem?_eq_some_iff.mp h)
      obtain ⟨l1, q1⟩ := l1
      obtain ⟨l2, q2⟩ := l2
      exact hj (nodup_get r.nd l1 l2 (q1.trans q2.symm))
    exact ⟨u2, by rw [upd_ne hne]; exact hu, ho2.mono r e⟩
theorem Rel.at (r : Rel K m S H) {i : Nat} {o : MO} (h : S[i]? = some o) : ∃ a u, m[i]? = some a ∧ H a = some u ∧ RepO K m H o u := by
  have hi : i < m.length := r.len ▸ (List.getElem?_eq_some_iff.mp h).1
  obtain ⟨u, hu, ho⟩ := r.ob i m[i] o (List.getElem?_eq_getElem hi) h
  exact ⟨m[i], u, List.getElem?_eq_getElem hi, hu, ho⟩
theorem Reps.length : ∀ {ds : List D} {vs : List V}, Reps K m H ds vs → ds.length = vs.length
  | _, _, .nil => rfl
  | _, _, .cons _ hs => by rw [List.length_cons, List.length_cons, Reps.length hs]
theorem Reps.get : ∀ {ds : List D} {vs : List V} {i : Nat} {d : D}, Reps K m H ds vs → ds[i]? = some d → ∃ v, vs[i]? = some v ∧ Rep K m H d v
  | _, _, _, _, .nil, e => by simp at e
  | _, _, 0, _, .cons h _, e => by
    rw [List.getElem?_cons_zero] at e
    cases e
    exact ⟨_, rfl, h⟩
  | _, _, i + 1, _, .cons _ hs, e => by
    rw [List.getElem?_cons_succ] at e ⊢
    exact Reps.get hs e
theorem Reps.append : ∀ {ds es : List D} {vs us : List V}, Reps K m H ds vs → Reps K m H es us → Reps K m H (ds ++ es) (vs ++ us)
  | _, _, _, _, .nil, s => s
  | _, _, _, _, .cons h hs, s => .cons h (Reps.append hs s)
theorem Reps.take : ∀ {ds : List D} {vs : List V} (n : Nat), Reps K m H ds vs → Reps K m H (ds.take n) (vs.take n)
  | _, _, 0, _ => .nil
  | _, _, _ + 1, .nil => .nil
  | _, _, n + 1, .cons h hs => .cons h (Reps.take n hs)
theorem Reps.drop : ∀ {ds : List D} {vs : List V} (n : Nat), Reps K m H ds vs → Reps K m H (ds.drop n) (vs.drop n)
  | _, _, 0, r => r
  | _, _, _ + 1, .nil => .nil
  | _, _, n + 1, .cons _ hs => Reps.drop n hs
theorem Reps.set {d : D} {v : V} (h0 : Rep K m H d v) : ∀ {ds : List D} {vs : List V} (i : Nat), Reps K m H ds vs → Reps K m H (ds.set i d) (vs.set i v)
  | _, _, _, .nil => .nil
  | _, _, 0, .cons _ t => .cons h0 t
  | _, _, i + 1, .cons q t => .cons q (Reps.set h0 i t)
theorem Reps.snoc (h : Reps K m H ds vs) (h1 : Rep K m H d v) : Reps K m H (ds ++ [d]) (vs ++ [v]) := h.append (.cons h1 .nil)
end
end TS
set_option Elab.async false
set_option linter.all false
set_option maxRecDepth 100000
namespace TS
open PySem PySem.Spec PyProof.Rows L2

abbrev SEnv := List (Option D)
structure RelE (K : PySem.W.Frag) (m : List Addr) (H : Hp) (env : SEnv) (σ : L2.St) : Prop where
  len : env.length = σ.length
  get : ∀ (i : Nat) (d : D), env[i]? = some (some d) → ∃ v, σ[i]? = some (some v) ∧ Rep K m H d v
abbrev Out (K : PySem.W.Frag) (m : List Addr) (H : Hp) (S' : Store) (d : D) (Q : VK) : Prop := ∀ m' H' v, Rel K m' S' H' → Ext m H m' H' → Rep K m' H' d v → Q v H'
abbrev OutB (K : PySem.W.Frag) (m : List Addr) (H : Hp) (S' : Store) (Q : Hp → Prop) : Prop := ∀ m' H', Rel K m' S' H' → Ext m H m' H' → Q H'
abbrev OutA (K : PySem.W.Frag) (m : List Addr) (H : Hp) (S' : Store) (ds : List D) (Q : List V → Hp → Prop) : Prop := ∀ m' H' vs, Rel K m' S' H' → Ext m H m' H' → Reps K m' H' ds vs → Q vs H'

def SE (K : PySem.W.Frag) (t : TE) (f : SEnv → M D) : Prop := ∀ ⦃m : List Addr⦄ ⦃S : Store⦄ ⦃H : Hp⦄ ⦃env : SEnv⦄ ⦃σ : L2.St⦄, Rel K m S H → RelE K m H env σ → ∀ d S', f env S = some (d, S') → ∀ Q : VK, Out K m H S' d Q → t σ H Q
def ST (K : PySem.W.Frag) (t : TT) (f : SEnv → M Bool) : Prop := ∀ ⦃m : List Addr⦄ ⦃S : Store⦄ ⦃H : Hp⦄ ⦃env : SEnv⦄ ⦃σ : L2.St⦄, Rel K m S H → RelE K m H env σ → ∀ b S', f env S = some (b, S') → ∀ Q : Bool → Hp → Prop, OutB K m H S' (Q b) → t σ H Q
def SA (K : PySem.W.Frag) (t : TA) (f : SEnv → M (List D)) : Prop := ∀ ⦃m : List Addr⦄ ⦃S : Store⦄ ⦃H : Hp⦄ ⦃env : SEnv⦄ ⦃σ : L2.St⦄, Rel K m S H → RelE K m H env σ → ∀ ds S', f env S = some (ds, S') → ∀ Q : List V → Hp → Prop, OutA K m H S' ds Q → t σ H Q
/-- operations on values -/
def SR2 (K : PySem.W.Frag) (r : R2) (g : D → D → M D) : Prop := ∀ ⦃m : List Addr⦄ ⦃S : Store⦄ ⦃H : Hp⦄ ⦃x y : V⦄ ⦃a b : D⦄, Rel K m S H → Rep K m H a x → Rep K m H b y → ∀ d S', g a b S = some (d, S') → ∀ Q : VK, Out K m H S' d Q → r x y H Q
def SR1 (K : PySem.W.Frag) (r : V → Hp → VK → Prop) (g : D → M D) : Prop := ∀ ⦃m : List Addr⦄ ⦃S : Store⦄ ⦃H : Hp⦄ ⦃x : V⦄ ⦃a : D⦄, Rel K m S H → Rep K m H a x → ∀ d S', g a S = some (d, S') → ∀ Q : VK, Out K m H S' d Q → r x H Q
def SRn (K : PySem.W.Frag) (r : List V → Hp → VK → Prop) (g : List D → M D) : Prop := ∀ ⦃m : List Addr⦄ ⦃S : Store⦄ ⦃H : Hp⦄ ⦃xs : List V⦄ ⦃as : List D⦄, Rel K m S H → Reps K m H as xs → ∀ d S', g as S = some (d, S') → ∀ Q : VK, Out K m H S' d Q → r xs H Q
structure DE (X : Cx) (e : Expr) (t : TE) (f : SEnv → M D) : Prop where
  pe : PE X e t
  se : SE X.K t f
structure DT (X : Cx) (e : Expr) (t : TT) (f : SEnv → M Bool) : Prop where
  pt : PT X e t
  st : ST X.K t f
structure DW (X : Cx) (e : Expr) (t : TT) (f : SEnv → M Bool) : Prop where
  pw : PW X e t
  st : ST X.K t f
structure DA (X : Cx) (es : List Expr) (t : TA) (f : SEnv → M (List D)) : Prop where
  pa : PA X es t
  sa : SA X.K t f

section
variable {X : Cx} {K : PySem.W.Frag} {m m' m2 : List Addr} {S S' S2 : Store} {H H' H2 : Hp} {env : SEnv} {σ : L2.St}
theorem RelE.mono (r : Rel K m S H) (e : Ext m H m' H') (h : RelE K m H env σ) : RelE K m' H' env σ := ⟨h.len, fun i d q => by
  obtain ⟨v, h1, h2⟩ := h.get i d q
  exact ⟨v, h1, h2.mono r e⟩⟩
theorem RelE.set {i : Nat} {d : D} {v : V} (h : RelE K m H env σ) (r : Rep K m H d v) : RelE K m H (env.set i (some d)) (σ.set i (some v)) := ⟨by rw [List.length_set, List.length_set]; exact h.len, fun j e q => by
  by_cases hj : i = j
  · subst hj
    by_cases hl : i < env.length
    · rw [List.getElem?_set_self hl] at q
      cases q
      exact ⟨v, List.getElem?_set_self (h.len ▸ hl), r⟩
    · rw [List.getElem?_eq_none (by rw [List.length_set]; omega)] at q
      cases q
  · rw [List.getElem?_set_ne hj] at q ⊢
    exact h.get j e q⟩

/-! ### names, constants -/
def eVar (i : Nat) : SEnv → M D := fun env S => match env[i]? with
  | some (some d) => some (d, S)
  | _ => none
theorem se_var {i : Nat} : SE K (tVar i) (eVar i) := fun m S H env σ r re d S' h Q q => by
  unfold eVar at h
  cases e : env[i]? with
  | none => rw [e] at h; cases h
  | some o =>
    cases o with
    | none => rw [e] at h; cases h
    | some d' =>
      rw [e] at h
      cases h
      obtain ⟨v, h1, h2⟩ := re.get i _ e
      exact ⟨v, h1, q m H v r .refl h2⟩
def eC (d : D) : SEnv → M D := fun _ => ret d
theorem se_c {v : V} {d : D} (h : ∀ m H, Rep K m H d v) : SE K (tC v) (eC d) := fun m S H env σ r re d' S' h' Q q => by
  cases h'
  exact q m H v r .refl (h m H)
theorem de_int {i j pos} : DE X (.Constant (.int i) j pos) (tC (.int i)) (eC (.int i)) := ⟨pe_int, se_c fun _ _ => .int i⟩
theorem de_bl {b j pos} : DE X (.Constant (.bool b) j pos) (tC (.bl b)) (eC (.bl b)) := ⟨pe_bl, se_c fun _ _ => .bl b⟩
theorem de_non {j pos} : DE X (.Constant .none j pos) (tC .non) (eC .non) := ⟨pe_non, se_c fun _ _ => .non⟩
theorem de_str {x j pos} : DE X (.Constant (.str x) j pos) (tC (.str x)) (eC (.str x)) := ⟨pe_str, se_c fun _ _ => .str x⟩
theorem de_var (i : Nat) {x : Str} {pos : Pos} (hN : X.N[i]? = some x := by rfl) (hv : Vis X.env.scope x := by first | exact Or.inl rfl | exact Or.inr (Or.inl rfl) | exact Or.inr (Or.inr rfl)) (hd : (x == ("__debug__" : Str)) = false := by decide)
    (hcd : (x == ("__classdict__" : Str)) = false := by decide) : DE X (.Name x pos) (tVar i) (eVar i) := ⟨pe_var hN hv hd hcd, se_var⟩
/-- a constant of the module -/
theorem de_glob {x : Str} {v : V} {d : D} {u : Value} {pos : Pos} (hg : Gl X x) (hm : X.mg x = some u) (r : RelV v u) (hr : ∀ m H, Rep X.K m H d v) (hd : (x == ("__debug__" : Str)) = false := by decide) : DE X (.Name x pos) (tC v) (eC d) :=
  ⟨pe_glob hg hm r hd, se_c hr⟩
theorem de_ty {x : Str} {n : String} {pos : Pos} (hg : Gl X x) (hm : X.mg x = none) (hv : bootBuiltins x = some (.type n)) (hn : x ≠ "__name__" := by decide) (hd : (x == ("__debug__" : Str)) = false := by decide) : DE X (.Name x pos) (tC (.ty n)) (eC (.ty n)) :=
  ⟨pe_bltn (v := .ty n) hg hm hv rfl hn hd, se_c fun _ _ => .ty n⟩

/-! ### operations -/
def eOp (g : D → D → M D) (fa fb : SEnv → M D) : SEnv → M D := fun env => bnd (fa env) fun a => bnd (fb env) fun b => g a b
def eUn (g : D → M D) (fa : SEnv → M D) : SEnv → M D := fun env => bnd (fa env) g
theorem se_op {r : R2} {g : D → D → M D} {ta tb : TE} {fa fb : SEnv → M D} (hr : SR2 K r g) (ha : SE K ta fa) (hb : SE K tb fb) : SE K (tOp r ta tb) (eOp g fa fb) := fun m S H env σ rl re d S' h Q q => by
  obtain ⟨a, S1, h1, h⟩ := bnd_some h
  obtain ⟨b, S2, h2, h⟩ := bnd_some h
  refine ha rl re a S1 h1 _ fun m1 H1 x rl1 e1 ra => ?_
  refine hb rl1 (re.mono rl e1) b S2 h2 _ fun m2 H2 y rl2 e2 rb => ?_
  exact hr rl2 (ra.mono rl1 e2) rb d S' h Q fun m3 H3 v rl3 e3 rv => q m3 H3 v rl3 ((e1.trans e2).trans e3) rv
theorem se_un {r : V → Hp → VK → Prop} {g : D → M D} {ta : TE} {fa : SEnv → M D} (hr : SR1 K r g) (ha : SE K ta fa) : SE K (tUn r ta) (eUn g fa) := fun m S H env σ rl re d S' h Q q => by
  obtain ⟨a, S1, h1, h⟩ := bnd_some h
  refine ha rl re a S1 h1 _ fun m1 H1 x rl1 e1 ra => ?_
  exact hr rl1 ra d S' h Q fun m3 H3 v rl3 e3 rv => q m3 H3 v rl3 (e1.trans e3) rv
structure DO2 (X : Cx) (f : Value → Value → Sem Value) (r : R2) (g : D → D → M D) : Prop where
  op : OpR X f r
  sr : SR2 X.K r g
structure DO1 (X : Cx) (f : Value → Sem Value) (r : V → Hp → VK → Prop) (g : D → M D) : Prop where
  op : UnR X f r
  sr : SR1 X.K r g
theorem de_op {op : Operator} {a b : Expr} {pos : Pos} {g : D → D → M D} {fa fb : SEnv → M D} (ho : DO2 X (binaryOp op) r g) (ha : DE X a ta fa) (hb : DE X b tb fb) : DE X (.BinOp a op b pos) (tOp r ta tb) (eOp g fa fb) := by
  obtain ⟨h1, h2⟩ := ho
  obtain ⟨h3, h4⟩ := ha
  obtain ⟨h5, h6⟩ := hb
  exact ⟨pe_op h1 h3 h5, se_op h2 h4 h6⟩
theorem de_un {op : UnaryOp} {a : Expr} {pos : Pos} {g : D → M D} {fa : SEnv → M D} (ho : DO1 X (unaryOp op) r g) (ha : DE X a ta fa) : DE X (.UnaryOp op a pos) (tUn r ta) (eUn g fa) := by
  obtain ⟨h1, h2⟩ := ho
  obtain ⟨h3, h4⟩ := ha
  exact ⟨pe_un h1 h3, se_un h2 h4⟩
theorem de_cmp {op : CmpOp} {a b : Expr} {pos : Pos} {g : D → D → M D} {fa fb : SEnv → M D} (ho : DO2 X (compareOp op) r g) (ha : DE X a ta fa) (hb : DE X b tb fb) (hm : behindInMarks op b = false := by first | exact nobehind _ (by decide) (by decide) | rfl) : DE X (.Compare a [op] [b] pos) (tOp r ta tb) (eOp g fa fb) := by
  obtain ⟨h1, h2⟩ := ho
  obtain ⟨h3, h4⟩ := ha
  obtain ⟨h5, h6⟩ := hb
  exact ⟨pe_cmpR h1 h3 h5 hm, se_op h2 h4 h6⟩
/-- a value that is a bool, as a test -/
def asB (f : SEnv → M D) : SEnv → M Bool := fun env => bnd (f env) fun d => match d with
  | .bl b => ret b
  | _ => fail
theorem st_B {t : TE} {f : SEnv → M D} (h : SE K t f) : ST K (tB t) (asB f) := fun m S H env σ rl re b S' hb Q q => by
  obtain ⟨d, S1, h1, h2⟩ := bnd_some hb
  refine h rl re d S1 h1 _ fun m1 H1 v rl1 e1 rv => ?_
  cases d with
  | bl b' =>
    cases rv
    cases h2
    exact ⟨b, rfl, q m1 H1 rl1 e1⟩
  | _ => cases h2
theorem dt_cmp {op : CmpOp} {a b : Expr} {pos : Pos} {g : D → D → M D} {fa fb : SEnv → M D} (ho : DO2 X (compareOp op) r g) (ha : DE X a ta fa) (hb : DE X b tb fb) (hm : behindInMarks op b = false := by first | exact nobehind _ (by decide) (by decide) | rfl) : DT X (.Compare a [op] [b] pos) (tTest (tOp r ta tb)) (asB (eOp g fa fb)) := by
  obtain ⟨h1, h2⟩ := ho
  obtain ⟨h3, h4⟩ := ha
  obtain ⟨h5, h6⟩ := hb
  exact ⟨pt_cmpR h1 h3 h5 hm, st_B (se_op h2 h4 h6)⟩
/-- truth of a value -/
def tru (d : D) : M Bool := fun S => match d with
  | .non => some (false, S)
  | .bl b => some (b, S)
  | .int i => some (i != 0, S)
  | .str y => if y.length ≤ sizeLine then some ((y.length : Int) != 0, S) else none
  | .tup xs => some (!xs.isEmpty, S)
  | .fl xs => some (!xs.isEmpty, S)
  | .ref i => match S[i]? with
    | some (.lst xs) => some (!xs.isEmpty, S)
    | some (.dK kvs) => some (!kvs.isEmpty, S)
    | _ => none
  | .ty _ => none
theorem FzL.sq {a : Addr} {vs : List V} (h : FzL K H a vs) : SqL K H a vs := by
  rcases h with ⟨o, h⟩ | h
  · exact .inl (.inr ⟨o, h⟩)
  · exact .inr h
theorem Reps.isEmpty {ds : List D} {vs : List V} (h : Reps K m H ds vs) : vs.isEmpty = ds.isEmpty := by
  cases h <;> rfl
theorem Rel.sqL (r : Rel K m S H) {i : Nat} {xs : List D} {v : V} (h : S[i]? = some (.lst xs)) (q : Rep K m H (.ref i) v) : ∃ a vs, v = .ref a ∧ m[i]? = some a ∧ H a = some (.lst vs) ∧ Reps K m H xs vs := by
  obtain ⟨a, u, h1, h2, h3⟩ := r.at h
  cases q with
  | ref h4 =>
    rw [h1] at h4
    cases h4
    cases h3 with
    | lst h3 => exact ⟨a, _, rfl, h1, h2, h3⟩
theorem Rel.dK (r : Rel K m S H) {i : Nat} {kvs : List (Key × D)} {v : V} (h : S[i]? = some (.dK kvs)) (q : Rep K m H (.ref i) v) : ∃ a us, v = .ref a ∧ m[i]? = some a ∧ H a = some (.dK us) ∧ us.map (·.1) = kvs.map (·.1) ∧ Reps K m H (kvs.map (·.2)) (us.map (·.2)) := by
  obtain ⟨a, u, h1, h2, h3⟩ := r.at h
  cases q with
  | ref h4 =>
    rw [h1] at h4
    cases h4
    cases h3 with
    | dK h3 h4 => exact ⟨a, _, rfl, h1, h2, h3, h4⟩
theorem tru_sound (r : Rel K m S H) {d : D} {v : V} (q : Rep K m H d v) {b : Bool} (h : tru d S = some (b, S')) : S' = S ∧ TruV K v H b := by
  cases q with
  | non => cases h; exact ⟨rfl, rfl⟩
  | bl b => cases h; exact ⟨rfl, rfl⟩
  | int i => cases h; exact ⟨rfl, rfl⟩
  | str y =>
    unfold tru at h
    by_cases hy : y.length ≤ sizeLine
    · simp only [hy, if_true] at h
      cases h
      exact ⟨rfl, hy, rfl⟩
    · simp only [hy, if_false] at h
      cases h
  | tup h1 h2 => cases h; exact ⟨rfl, .inr (.inl ⟨_, h1, by rw [h2.isEmpty]⟩)⟩
  | fl h1 h2 => cases h; exact ⟨rfl, .inl ⟨_, h1.sq, by rw [h2.isEmpty]⟩⟩
  | ty n => cases h
  | @ref i a hi =>
    unfold tru at h
    simp only at h
    cases e : S[i]? with
    | none => rw [e] at h; cases h
    | some o =>
      rw [e] at h
      cases o with
      | lst xs =>
        cases h
        obtain ⟨a', vs, e1, _, e2, e3⟩ := r.sqL e (.ref hi)
        cases e1
        exact ⟨rfl, .inl ⟨vs, .inl (.inl e2), by rw [e3.isEmpty]⟩⟩
      | dK kvs =>
        cases h
        obtain ⟨a', us, e1, _, e2, e3, e4⟩ := r.dK e (.ref hi)
        cases e1
        refine ⟨rfl, .inr (.inr ⟨us, e2, ?_⟩)⟩
        have := congrArg List.length e3
        rw [List.length_map, List.length_map] at this
        cases us <;> cases kvs <;> first | rfl | (simp at this)
      | dT kvs => cases h
def asT (f : SEnv → M D) : SEnv → M Bool := fun env => bnd (f env) tru
theorem dt_truth {a : Expr} {f : SEnv → M D} (h : DE X a ta f) (he : ∀ whole, isTrue a X.env whole = (do let v ← whole; standAt a.pos; holding [v] (truthy v)) := by intro _; rfl) : DT X a (fun σ H Q => ta σ H fun x H' => ∃ k, TruV X.K x H' k ∧ Q k H') (asT f) := by
  obtain ⟨h1, h2⟩ := h
  refine ⟨pt_truth h1 he, fun m S H env σ rl re b S' hb Q q => ?_⟩
  obtain ⟨d, S1, h3, h4⟩ := bnd_some hb
  refine h2 rl re d S1 h3 _ fun m1 H1 v rl1 e1 rv => ?_
  obtain ⟨rfl, ht⟩ := tru_sound rl1 rv h4
  exact ⟨b, ht, q m1 H1 rl1 e1⟩
/-! ### and, or, not, if -/
def bAnd (f g : SEnv → M Bool) : SEnv → M Bool := fun env => bnd (f env) fun b => if b then g env else ret false
def bOr (f g : SEnv → M Bool) : SEnv → M Bool := fun env => bnd (f env) fun b => if b then ret true else g env
def bNot (f : SEnv → M Bool) : SEnv → M Bool := fun env => bnd (f env) fun b => ret (!b)
def eIf (f : SEnv → M Bool) (g h : SEnv → M D) : SEnv → M D := fun env => bnd (f env) fun b => if b then g env else h env
theorem st_and {t u : TT} {f g : SEnv → M Bool} (h1 : ST K t f) (h2 : ST K u g) : ST K (tAnd t u) (bAnd f g) := fun m S H env σ rl re b S' hb Q q => by
  obtain ⟨c, S1, h3, h4⟩ := bnd_some hb
  refine h1 rl re c S1 h3 _ fun m1 H1 rl1 e1 => ?_
  cases c with
  | true => exact iteT (h2 rl1 (re.mono rl e1) b S' h4 Q fun m2 H2 rl2 e2 => q m2 H2 rl2 (e1.trans e2))
  | false =>
    cases h4
    exact iteF (q m1 H1 rl1 e1)
theorem st_or {t u : TT} {f g : SEnv → M Bool} (h1 : ST K t f) (h2 : ST K u g) : ST K (tOr t u) (bOr f g) := fun m S H env σ rl re b S' hb Q q => by
  obtain ⟨c, S1, h3, h4⟩ := bnd_some hb
  refine h1 rl re c S1 h3 _ fun m1 H1 rl1 e1 => ?_
  cases c with
  | false => exact iteF (h2 rl1 (re.mono rl e1) b S' h4 Q fun m2 H2 rl2 e2 => q m2 H2 rl2 (e1.trans e2))
  | true =>
    cases h4
    exact iteT (q m1 H1 rl1 e1)
theorem st_not {t : TT} {f : SEnv → M Bool} (h1 : ST K t f) : ST K (tNot t) (bNot f) := fun m S H env σ rl re b S' hb Q q => by
  obtain ⟨c, S1, h3, h4⟩ := bnd_some hb
  cases h4
  exact h1 rl re c _ h3 _ fun m1 H1 rl1 e1 => q m1 H1 rl1 e1
section
variable {a b c : Expr} {rest : List Expr} {pos : Pos} {f g h : SEnv → M Bool}
theorem dw_and1 (ha : DT X a t f) : DW X (.BoolOp .And [a] pos) t f := ⟨pw_and1 ha.pt, ha.st⟩
theorem dw_or1 (ha : DT X a t f) : DW X (.BoolOp .Or [a] pos) t f := ⟨pw_or1 ha.pt, ha.st⟩
theorem dw_and (ha : DT X a t f) (hb : DW X (.BoolOp .And (b :: rest) pos) u g) : DW X (.BoolOp .And (a :: b :: rest) pos) (tAnd t u) (bAnd f g) := ⟨pw_and ha.pt hb.pw, st_and ha.st hb.st⟩
theorem dw_or (ha : DT X a t f) (hb : DW X (.BoolOp .Or (b :: rest) pos) u g) : DW X (.BoolOp .Or (a :: b :: rest) pos) (tOr t u) (bOr f g) := ⟨pw_or ha.pt hb.pw, st_or ha.st hb.st⟩
theorem dt_w (ha : DW X a t f) : DT X a t f := ⟨ha.pw.pt, ha.st⟩
theorem dt_not (ha : DT X a t f) : DT X (.UnaryOp .Not a pos) (tNot t) (bNot f) := ⟨pt_not ha.pt, st_not ha.st⟩
/-- values: a bool ahead -/
def eAnd (f g : SEnv → M D) : SEnv → M D := fun env => bnd (asB f env) fun b => if b then g env else ret (.bl false)
def eOr (f g : SEnv → M D) : SEnv → M D := fun env => bnd (asB f env) fun b => if b then ret (.bl true) else g env
def eNot (f : SEnv → M D) : SEnv → M D := fun env => bnd (asB f env) fun b => ret (.bl (!b))
variable {fe ge he : SEnv → M D}
theorem de_one {op} (h : DE X a te fe) : DE X (.BoolOp op [a] pos) te fe := ⟨pe_one h.pe, h.se⟩
theorem de_and {t u : TE} (ha : DE X a t fe) (hb : DE X (.BoolOp .And (b :: rest) pos) u ge) : DE X (.BoolOp .And (a :: b :: rest) pos) (tAndV t u) (eAnd fe ge) := by
  obtain ⟨h1, h2⟩ := ha
  obtain ⟨h3, h4⟩ := hb
  refine ⟨pe_and h1 h3, fun m S H env σ rl re d S' hd Q q => ?_⟩
  obtain ⟨c, S1, h5, h6⟩ := bnd_some hd
  refine st_B h2 rl re c S1 h5 (fun k H1 => if k = true then u σ H1 Q else Q (.bl false) H1) fun m1 H1 rl1 e1 => ?_
  cases c with
  | true => exact iteT (h4 rl1 (re.mono rl e1) d S' h6 Q fun m2 H2 v rl2 e2 rv => q m2 H2 v rl2 (e1.trans e2) rv)
  | false =>
    cases h6
    exact iteF (q m1 H1 _ rl1 e1 (.bl false))
theorem de_or {t u : TE} (ha : DE X a t fe) (hb : DE X (.BoolOp .Or (b :: rest) pos) u ge) : DE X (.BoolOp .Or (a :: b :: rest) pos) (tOrV t u) (eOr fe ge) := by
  obtain ⟨h1, h2⟩ := ha
  obtain ⟨h3, h4⟩ := hb
  refine ⟨pe_or h1 h3, fun m S H env σ rl re d S' hd Q q => ?_⟩
  obtain ⟨c, S1, h5, h6⟩ := bnd_some hd
  refine st_B h2 rl re c S1 h5 (fun k H1 => if k = true then Q (.bl true) H1 else u σ H1 Q) fun m1 H1 rl1 e1 => ?_
  cases c with
  | false => exact iteF (h4 rl1 (re.mono rl e1) d S' h6 Q fun m2 H2 v rl2 e2 rv => q m2 H2 v rl2 (e1.trans e2) rv)
  | true =>
    cases h6
    exact iteT (q m1 H1 _ rl1 e1 (.bl true))
theorem de_not {t : TE} (ha : DE X a t fe) : DE X (.UnaryOp .Not a pos) (tNotV t) (eNot fe) := by
  obtain ⟨h1, h2⟩ := ha
  refine ⟨pe_not h1, fun m S H env σ rl re d S' hd Q q => ?_⟩
  obtain ⟨c, S1, h5, h6⟩ := bnd_some hd
  cases h6
  exact st_B h2 rl re c _ h5 (fun k H1 => Q (.bl (!k)) H1) fun m1 H1 rl1 e1 => q m1 H1 _ rl1 e1 (.bl _)
theorem de_if {t : TT} {u w : TE} (hc : DT X c t f) (ha : DE X a u fe) (hb : DE X b w ge) : DE X (.IfExp c a b pos) (tIf t u w) (eIf f fe ge) := by
  obtain ⟨h1, h2⟩ := hc
  obtain ⟨h3, h4⟩ := ha
  obtain ⟨h5, h6⟩ := hb
  refine ⟨pe_ifExp h1 h3 h5, fun m S H env σ rl re d S' hd Q q => ?_⟩
  obtain ⟨c, S1, h7, h8⟩ := bnd_some hd
  refine h2 rl re c S1 h7 _ fun m1 H1 rl1 e1 => ?_
  cases c with
  | true => exact iteT (h4 rl1 (re.mono rl e1) d S' h8 Q fun m2 H2 v rl2 e2 rv => q m2 H2 v rl2 (e1.trans e2) rv)
  | false => exact iteF (h6 rl1 (re.mono rl e1) d S' h8 Q fun m2 H2 v rl2 e2 rv => q m2 H2 v rl2 (e1.trans e2) rv)
end
/-! ### arguments, displays -/
def aNil : SEnv → M (List D) := fun _ => ret []
def aCons (f : SEnv → M D) (g : SEnv → M (List D)) : SEnv → M (List D) := fun env => bnd (f env) fun d => bnd (g env) fun ds => ret (d :: ds)
theorem da_nil : DA X [] tNil aNil := ⟨pa_nil, fun m S H env σ rl re ds S' h Q q => by
  cases h
  exact q m H [] rl .refl .nil⟩
theorem da_cons {e : Expr} {es : List Expr} {f : SEnv → M D} {g : SEnv → M (List D)} (h1 : DE X e t f) (h2 : DA X es u g) (hs : starEach (e :: es) X.env = (false, eval e X.env) :: starEach es X.env := by rfl) : DA X (e :: es) (tCons t u) (aCons f g) := by
  obtain ⟨h1, h3⟩ := h1
  obtain ⟨h2, h4⟩ := h2
  refine ⟨pa_cons h1 h2 hs, fun m S H env σ rl re ds S' h Q q => ?_⟩
  obtain ⟨d, S1, e1, h⟩ := bnd_some h
  obtain ⟨ds', S2, e2, h⟩ := bnd_some h
  cases h
  refine h3 rl re d S1 e1 _ fun m1 H1 v rl1 x1 rv => ?_
  refine h4 rl1 (re.mono rl x1) ds' _ e2 _ fun m2 H2 vs rl2 x2 rvs => ?_
  exact q m2 H2 (v :: vs) rl2 (x1.trans x2) (.cons (rv.mono rl1 x2) rvs)
def mkTup (ds : List D) : M D := fun S => if ds.length ≤ sizeLine then some (.tup ds, S) else none
def mkLst (ds : List D) : M D := fun S => if ds.length ≤ sizeLine then some (.ref S.length, S ++ [.lst ds]) else none
def eTup (f : SEnv → M (List D)) : SEnv → M D := fun env => bnd (f env) mkTup
def eLst (f : SEnv → M (List D)) : SEnv → M D := fun env => bnd (f env) mkLst
theorem de_tup {es : List Expr} {x1 pos} {f : SEnv → M (List D)} (h : DA X es t f) : DE X (.Tuple es x1 pos) (tTup t) (eTup f) := by
  obtain ⟨h1, h2⟩ := h
  refine ⟨pe_tup h1, fun m S H env σ rl re d S' h Q q => ?_⟩
  obtain ⟨ds, S1, e1, h⟩ := bnd_some h
  unfold mkTup at h
  by_cases hl : ds.length ≤ sizeLine
  · rw [if_pos hl] at h
    cases h
    refine h2 rl re ds _ e1 _ fun m1 H1 vs rl1 x1 rvs => ⟨by rw [← rvs.length]; exact hl, fun p hp => ?_⟩
    obtain ⟨a1, a2, a3⟩ := rl1.tup hp rvs
    exact q m1 _ _ a1 (x1.trans a2) a3
  · rw [if_neg hl] at h
    cases h
theorem de_lst {es : List Expr} {x1} {f : SEnv → M (List D)} (h : DA X es t f) : DE X (.List es x1) (tLst t) (eLst f) := by
  obtain ⟨h1, h2⟩ := h
  refine ⟨pe_lst h1, fun m S H env σ rl re d S' h Q q => ?_⟩
  obtain ⟨ds, S1, e1, h⟩ := bnd_some h
  unfold mkLst at h
  by_cases hl : ds.length ≤ sizeLine
  · rw [if_pos hl] at h
    cases h
    refine h2 rl re ds _ e1 _ fun m1 H1 vs rl1 x1 rvs => ⟨by rw [← rvs.length]; exact hl, fun p hp => ?_⟩
    obtain ⟨a1, a2, a3⟩ := rl1.new hp (.lst rvs)
    exact q _ _ _ a1 (x1.trans a2) a3
  · rw [if_neg hl] at h
    cases h
end
end TS
set_option Elab.async false
set_option linter.all false
set_option maxRecDepth 100000
namespace TS
open PySem PySem.Spec PyProof.Rows L2
section
variable {X : Cx} {K : PySem.W.Frag} {m m' m2 : List Addr} {S S' S2 : Store} {H H' H2 : Hp} {env : SEnv} {σ : L2.St}
/-! ### as PyData -/
mutual
def py : D → Option PyData
  | .non => some .none
  | .bl b => some (.bool b)
  | .int i => some (.int i)
  | .str x => some (.str x)
  | .tup xs => (pys xs).map .tuple
  | .fl xs => (pys xs).map .list
  | .ref _ => none
  | .ty _ => none
def pys : List D → Option (List PyData)
  | [] => some []
  | x :: xs => match py x, pys xs with
    | some p, some ps => some (p :: ps)
    | _, _ => none
end
def pyS (S : Store) : D → Option PyData
  | .ref i => match S[i]? with
    | some (.lst xs) => (pys xs).map .list
    | _ => none
  | d => py d
mutual
theorem Rep.py : ∀ {d : D} {v : V} {p : PyData}, Rep K m H d v → py d = some p → Dp K H v p
  | _, _, _, .non, h => by cases h; exact .non
  | _, _, _, .bl b, h => by cases h; exact .bl b
  | _, _, _, .int i, h => by cases h; exact .int i
  | _, _, _, .str x, h => by cases h; exact .str x
  | _, _, _, .ty n, h => by cases h
  | _, _, _, .ref _, h => by cases h
  | _, _, _, .tup (ds := ds) h1 h2, h => by
    have h' : (pys ds).map PyData.tuple = some _ := h
    obtain ⟨ps, e, rfl⟩ := Option.map_eq_some_iff.mp h'
    exact .tup h1 (Reps.py h2 e)
  | _, _, _, .fl (ds := ds) h1 h2, h => by
    have h' : (pys ds).map PyData.list = some _ := h
    obtain ⟨ps, e, rfl⟩ := Option.map_eq_some_iff.mp h'
    exact .lst h1.sq (Reps.py h2 e)
theorem Reps.py : ∀ {ds : List D} {vs : List V} {ps : List PyData}, Reps K m H ds vs → pys ds = some ps → DpAll K H vs ps
  | _, _, _, .nil, h => by cases h; exact .nil
  | _, _, _, .cons (d := d) (ds := ds) h1 h2, h => by
    unfold pys at h
    cases e1 : TS.py d with
    | none => rw [e1] at h; simp at h
    | some p =>
      cases e2 : pys ds with
      | none => rw [e1, e2] at h; simp at h
      | some ps =>
        rw [e1, e2] at h
        cases h
        exact .cons (Rep.py h1 e1) (Reps.py h2 e2)
end
theorem Rep.pyS (r : Rel K m S H) {d : D} {v : V} {p : PyData} (h : Rep K m H d v) (e : pyS S d = some p) : Dp K H v p := by
  cases h with
  | @ref i a hi =>
    unfold TS.pyS at e
    simp only at e
    cases e1 : S[i]? with
    | none => rw [e1] at e; cases e
    | some o =>
      rw [e1] at e
      cases o with
      | lst xs =>
        simp only at e
        obtain ⟨ps, e2, rfl⟩ := Option.map_eq_some_iff.mp e
        obtain ⟨a', vs, q1, _, q2, q3⟩ := r.sqL e1 (.ref hi)
        cases q1
        exact .lst (.inl (.inl q2)) (q3.py e2)
      | dK _ => cases e
      | dT _ => cases e
  | non => cases e; exact .non
  | bl b => cases e; exact .bl b
  | int i => cases e; exact .int i
  | str x => cases e; exact .str x
  | ty n => cases e
  | tup h1 h2 => exact Rep.py (.tup h1 h2) e
  | fl h1 h2 => exact Rep.py (.fl h1 h2) e
/-! ### == and != -/
def eqB (a b : D) : M Bool := fun S => match pyS S a, pyS S b with
  | some p, some q => if SeqAt.shaped p = true ∧ SeqAt.shaped q = true then some (PyData.eqv p q, S) else none
  | _, _ => none
def eqD (a b : D) : M D := bnd (eqB a b) fun k => ret (.bl k)
def neD (a b : D) : M D := bnd (eqB a b) fun k => ret (.bl (!k))
theorem eqB_some {a b : D} {k : Bool} (h : eqB a b S = some (k, S')) : S' = S ∧ ∃ p q, pyS S a = some p ∧ pyS S b = some q ∧ SeqAt.shaped p = true ∧ SeqAt.shaped q = true ∧ k = PyData.eqv p q := by
  unfold eqB at h
  cases e1 : pyS S a with
  | none => rw [e1] at h; cases h
  | some p =>
    cases e2 : pyS S b with
    | none => rw [e1, e2] at h; cases h
    | some q =>
      rw [e1, e2] at h
      simp only at h
      by_cases c : SeqAt.shaped p = true ∧ SeqAt.shaped q = true
      · rw [if_pos c] at h
        cases h
        exact ⟨rfl, p, q, rfl, rfl, c.1, c.2, rfl⟩
      · rw [if_neg c] at h
        cases h
theorem o_eq (hu : X.A.units + 64 < cLine) : DO2 X (compareOp .Eq) (rEqD X.K) eqD := ⟨op_eqD hu, fun m S H x y a b rl ra rb d S' h Q q => by
  obtain ⟨k, S1, h1, h2⟩ := bnd_some h
  cases h2
  obtain ⟨rfl, p, p', e1, e2, s1, s2, rfl⟩ := eqB_some h1
  exact ⟨p, p', ra.pyS rl e1, rb.pyS rl e2, s1, s2, q m H _ rl .refl (.bl _)⟩⟩
theorem o_ne (hu : X.A.units + 64 < cLine) : DO2 X (compareOp .NotEq) (rNeD X.K) neD := ⟨op_neD hu, fun m S H x y a b rl ra rb d S' h Q q => by
  obtain ⟨k, S1, h1, h2⟩ := bnd_some h
  cases h2
  obtain ⟨rfl, p, p', e1, e2, s1, s2, rfl⟩ := eqB_some h1
  exact ⟨p, p', ra.pyS rl e1, rb.pyS rl e2, s1, s2, q m H _ rl .refl (.bl _)⟩⟩
/-! ### order -/
def ordD (p : Int → Int → Bool) (s : List Nat → List Nat → Bool) (a b : D) : M D := fun S => match a, b with
  | .int i, .int j => some (.bl (p i j), S)
  | .str x, .str y => some (.bl (s x.cps.toList y.cps.toList), S)
  | _, _ => none
def ltD : D → D → M D := ordD (fun i j => decide (i < j)) (fun x y => decide (x < y))
def leD : D → D → M D := ordD (fun i j => decide (i ≤ j)) (fun x y => !decide (y < x))
def gtD : D → D → M D := ordD (fun i j => decide (j < i)) (fun x y => decide (y < x))
def geD : D → D → M D := ordD (fun i j => decide (j ≤ i)) (fun x y => !decide (x < y))
def rOrd (p : Int → Int → Bool) (s : List Nat → List Nat → Bool) : R2 := fun x y H Q => rI0 (fun i j => .bl (p i j)) x y H Q ∨ (∃ i j, x = .str i ∧ y = .str j ∧ Q (.bl (s i.cps.toList j.cps.toList)) H)
def rIsA : R2 := fun x y H Q => rIsB x y H Q ∨ (y = .non ∧ Q (.bl (decide (x = .non))) H)
def rNotA : R2 := fun x y H Q => rNotB x y H Q ∨ (y = .non ∧ Q (.bl (!decide (x = .non))) H)
def rInA (K : PySem.W.Frag) : R2 := fun x y H Q => (∃ (c : Nat) (z : Str), x = .str ⟨#[c]⟩ ∧ y = .str z ∧ Q (.bl (decide (c ∈ z.cps.toList))) H) ∨ rIn K false x y H Q
def rNotInA (K : PySem.W.Frag) : R2 := fun x y H Q => (∃ (c : Nat) (z : Str), x = .str ⟨#[c]⟩ ∧ y = .str z ∧ Q (.bl (!decide (c ∈ z.cps.toList))) H) ∨ rIn K true x y H Q
def rAddA (K : PySem.W.Frag) : R2 := fun x y H Q => rI0 (fun i j => .int (i + j)) x y H Q ∨ ((∃ i j, x = .str i ∧ y = .str j ∧ i.length + j.length ≤ sizeLine ∧ Q (.str (i ++ j)) H) ∨ (rCatA K x y H Q ∨ rCat x y H Q))
def rMulA (K : PySem.W.Frag) : R2 := fun x y H Q => rI CMul (fun i j => .int (i * j)) x y H Q ∨ rRepT K x y H Q
theorem sr_ord {p : Int → Int → Bool} {s : List Nat → List Nat → Bool} : SR2 K (rOrd p s) (ordD p s) := fun m S H x y a b rl ra rb d S' h Q q => by
  unfold ordD at h
  split at h
  · cases h; cases ra; cases rb
    exact .inl ⟨_, _, rfl, rfl, q m H _ rl .refl (.bl _)⟩
  · cases h; cases ra; cases rb
    exact .inr ⟨_, _, rfl, rfl, q m H _ rl .refl (.bl _)⟩
  · cases h
theorem o_lt : DO2 X (compareOp .Lt) (rOrd (fun i j => decide (i < j)) (fun x y => decide (x < y))) ltD := ⟨op_lt.or op_lt_str, sr_ord⟩
theorem o_le : DO2 X (compareOp .LtE) (rOrd (fun i j => decide (i ≤ j)) (fun x y => !decide (y < x))) leD := ⟨op_le.or op_le_str, sr_ord (s := fun x y => !decide (y < x))⟩
theorem o_gt : DO2 X (compareOp .Gt) (rOrd (fun i j => decide (j < i)) (fun x y => decide (y < x))) gtD := ⟨op_gt.or op_gt_str, sr_ord (s := fun x y => decide (y < x))⟩
theorem o_ge : DO2 X (compareOp .GtE) (rOrd (fun i j => decide (j ≤ i)) (fun x y => !decide (x < y))) geD := ⟨op_ge.or op_ge_str, sr_ord (s := fun x y => !decide (x < y))⟩
/-! ### is -/
def isB (a b : D) : M Bool := fun S => match a, b with
  | .bl x, .bl y => some (decide (x = y), S)
  | .non, .non => some (true, S)
  | .bl _, .non => some (false, S)
  | .int _, .non => some (false, S)
  | .str _, .non => some (false, S)
  | .tup _, .non => some (false, S)
  | .fl _, .non => some (false, S)
  | .ref _, .non => some (false, S)
  | _, _ => none
def isD (a b : D) : M D := bnd (isB a b) fun k => ret (.bl k)
def notD (a b : D) : M D := bnd (isB a b) fun k => ret (.bl (!k))
theorem isB_some {a b : D} {x y : V} {k : Bool} (ra : Rep K m H a x) (rb : Rep K m H b y) (h : isB a b S = some (k, S')) : S' = S ∧ ((∃ u v, x = .bl u ∧ y = .bl v ∧ k = decide (u = v)) ∨ (y = .non ∧ k = decide (x = .non))) := by
  unfold isB at h
  split at h <;> first
    | (cases h; cases ra; cases rb; exact ⟨rfl, .inl ⟨_, _, rfl, rfl, rfl⟩⟩)
    | (cases h; cases ra; cases rb; exact ⟨rfl, .inr ⟨rfl, rfl⟩⟩)
    | (cases h)
theorem o_is : DO2 X (compareOp .Is) rIsA isD := ⟨op_isBl.or op_isN, fun m S H x y a b rl ra rb d S' h Q q => by
  obtain ⟨k, S1, h1, h2⟩ := bnd_some h
  cases h2
  obtain ⟨rfl, h | h⟩ := isB_some ra rb h1
  · obtain ⟨u, v, rfl, rfl, rfl⟩ := h
    exact .inl ⟨u, v, rfl, rfl, q m H _ rl .refl (.bl _)⟩
  · obtain ⟨rfl, rfl⟩ := h
    exact .inr ⟨rfl, q m H _ rl .refl (.bl _)⟩⟩
theorem o_isnot : DO2 X (compareOp .IsNot) rNotA notD := ⟨op_notBl.or op_notN, fun m S H x y a b rl ra rb d S' h Q q => by
  obtain ⟨k, S1, h1, h2⟩ := bnd_some h
  cases h2
  obtain ⟨rfl, h | h⟩ := isB_some ra rb h1
  · obtain ⟨u, v, rfl, rfl, rfl⟩ := h
    exact .inl ⟨u, v, rfl, rfl, q m H _ rl .refl (.bl _)⟩
  · obtain ⟨rfl, rfl⟩ := h
    exact .inr ⟨rfl, q m H _ rl .refl (.bl _)⟩⟩
/-! ### in -/
def flatD : D → Bool
  | .non => true | .bl _ => true | .int _ => true | .str _ => true | _ => false
def eqF : D → D → Bool
  | .non, .non => true
  | .bl a, .bl b => a == b
  | .bl a, .int b => (if a then 1 else 0) == b
  | .int a, .bl b => a == (if b then 1 else 0)
  | .int a, .int b => a == b
  | .str a, .str b => a == b
  | _, _ => false
def inF (a : D) (xs : List D) : Bool := xs.any fun y => eqF y a
theorem flat_rep {d : D} {v : V} (r : Rep K m H d v) (h : flatD d = true) : flatV v = true := by
  cases r <;> first | rfl | cases h
theorem flat_reps : ∀ {ds : List D} {vs : List V}, Reps K m H ds vs → ds.all flatD = true → vs.all flatV = true
  | _, _, .nil, _ => rfl
  | _, _, .cons h hs, e => by
    rw [List.all_cons, Bool.and_eq_true] at e
    rw [List.all_cons, flat_rep h e.1, flat_reps hs e.2]
    rfl
theorem eqF_rep {a b : D} {x y : V} (ra : Rep K m H a x) (rb : Rep K m H b y) (ha : flatD a = true) (hb : flatD b = true) : eqV x y = eqF a b := by
  cases ra <;> cases rb <;> first | rfl | cases ha | cases hb
theorem inF_rep {a : D} {x : V} (ra : Rep K m H a x) (ha : flatD a = true) : ∀ {ds : List D} {vs : List V}, Reps K m H ds vs → ds.all flatD = true → inV x vs = inF a ds
  | _, _, .nil, _ => rfl
  | _, _, .cons (d := d) (v := v) h hs, e => by
    rw [List.all_cons, Bool.and_eq_true] at e
    have ih := inF_rep ra ha hs e.2
    unfold inV inF at ih ⊢
    rw [List.any_cons, List.any_cons, ih, eqF_rep h ra e.1 ha]
def seqOf (S : Store) : D → Option (List D)
  | .tup xs => some xs
  | .fl xs => some xs
  | .ref i => match S[i]? with
    | some (.lst xs) => some xs
    | _ => none
  | _ => none
theorem seqOf_rep (r : Rel K m S H) {d : D} {v : V} {xs : List D} (q : Rep K m H d v) (e : seqOf S d = some xs) : ∃ a vs, v = .ref a ∧ (SqL K H a vs ∨ SqT K H a vs) ∧ Reps K m H xs vs := by
  cases q with
  | tup h1 h2 => cases e; exact ⟨_, _, rfl, .inr h1, h2⟩
  | fl h1 h2 => cases e; exact ⟨_, _, rfl, .inl h1.sq, h2⟩
  | @ref i a hi =>
    unfold seqOf at e
    simp only at e
    cases e1 : S[i]? with
    | none => rw [e1] at e; cases e
    | some o =>
      rw [e1] at e
      cases o with
      | lst ys =>
        cases e
        obtain ⟨a', vs, q1, _, q2, q3⟩ := r.sqL e1 (.ref hi)
        cases q1
        exact ⟨_, vs, rfl, .inl (.inl (.inl q2)), q3⟩
      | dK _ => cases e
      | dT _ => cases e
  | _ => cases e
/-- x in y: flat items of a list or tuple; one sign in a text -/
def inB (a b : D) : M Bool := fun S => match b with
  | .str z => match a with
    | .str x => match x.cps.toList with
      | [c] => some (decide (c ∈ z.cps.toList), S)
      | _ => none
    | _ => none
  | _ => match seqOf S b with
    | some xs => if flatD a = true ∧ xs.all flatD = true then some (inF a xs, S) else none
    | none => none
def inD (a b : D) : M D := bnd (inB a b) fun k => ret (.bl k)
def ninD (a b : D) : M D := bnd (inB a b) fun k => ret (.bl (!k))
theorem inB_some {a b : D} {x y : V} {k : Bool} (rl : Rel K m S H) (ra : Rep K m H a x) (rb : Rep K m H b y) (h : inB a b S = some (k, S')) : S' = S ∧ ((∃ (c : Nat) (z : Str), x = .str ⟨#[c]⟩ ∧ y = .str z ∧ k = decide (c ∈ z.cps.toList)) ∨
    ∃ p xs, y = .ref p ∧ (SqL K H p xs ∨ SqT K H p xs) ∧ flatV x = true ∧ xs.all flatV = true ∧ k = inV x xs) := by
  have other : (match seqOf S b with
    | some xs => if flatD a = true ∧ xs.all flatD = true then some (inF a xs, S) else none
    | none => none) = some (k, S') → S' = S ∧ ((∃ (c : Nat) (z : Str), x = .str ⟨#[c]⟩ ∧ y = .str z ∧ k = decide (c ∈ z.cps.toList)) ∨
    ∃ p xs, y = .ref p ∧ (SqL K H p xs ∨ SqT K H p xs) ∧ flatV x = true ∧ xs.all flatV = true ∧ k = inV x xs) := fun h => by
    cases e : seqOf S b with
    | none => rw [e] at h; cases h
    | some xs =>
      rw [e] at h
      simp only at h
      by_cases c : flatD a = true ∧ xs.all flatD = true
      · rw [if_pos c] at h
        cases h
        obtain ⟨p, vs, rfl, h1, h2⟩ := seqOf_rep rl rb e
        exact ⟨rfl, .inr ⟨p, vs, rfl, h1, flat_rep ra c.1, flat_reps h2 c.2, (inF_rep ra c.1 h2 c.2).symm⟩⟩
      · rw [if_neg c] at h
        cases h
  unfold inB at h
  split at h
  · split at h
    · split at h
      · cases h
        cases ra
        cases rb
        rename_i z x l c e
        refine ⟨rfl, .inl ⟨c, _, ?_, rfl, rfl⟩⟩
        have : x.cps = #[c] := by
          apply Array.toList_inj.mp
          rw [e]
        rw [← this]
      · cases h
    · cases h
  · exact other h
theorem o_in : DO2 X (compareOp .In) (rInA X.K) inD := ⟨op_in_sign.or op_in_seq, fun m S H x y a b rl ra rb d S' h Q q => by
  obtain ⟨k, S1, h1, h2⟩ := bnd_some h
  cases h2
  obtain ⟨rfl, h | h⟩ := inB_some rl ra rb h1
  · obtain ⟨c, z, rfl, rfl, rfl⟩ := h
    exact .inl ⟨c, z, rfl, rfl, q m H _ rl .refl (.bl _)⟩
  · obtain ⟨p, xs, rfl, w1, w2, w3, rfl⟩ := h
    exact .inr ⟨p, xs, rfl, w1, w2, w3, q m H _ rl .refl (.bl _)⟩⟩
theorem o_notin : DO2 X (compareOp .NotIn) (rNotInA X.K) ninD := ⟨op_notIn_sign.or op_notIn_seq, fun m S H x y a b rl ra rb d S' h Q q => by
  obtain ⟨k, S1, h1, h2⟩ := bnd_some h
  cases h2
  obtain ⟨rfl, h | h⟩ := inB_some rl ra rb h1
  · obtain ⟨c, z, rfl, rfl, rfl⟩ := h
    exact .inl ⟨c, z, rfl, rfl, q m H _ rl .refl (.bl _)⟩
  · obtain ⟨p, xs, rfl, w1, w2, w3, rfl⟩ := h
    exact .inr ⟨p, xs, rfl, w1, w2, w3, q m H _ rl .refl (.bl _)⟩⟩
/-! ### + - * // % -/
def addD (a b : D) : M D := fun S => match a, b with
  | .int i, .int j => some (.int (i + j), S)
  | .str x, .str y => if x.length + y.length ≤ sizeLine then some (.str (x ++ y), S) else none
  | .tup xs, .tup ys => if xs.length + ys.length ≤ sizeLine then some (.tup (xs ++ ys), S) else none
  | .ref i, .ref j => match S[i]?, S[j]? with
    | some (.lst xs), some (.lst ys) => if xs.length + ys.length ≤ sizeLine then some (.ref S.length, S ++ [.lst (xs ++ ys)]) else none
    | _, _ => none
  | _, _ => none
theorem o_add : DO2 X (binaryOp .Add) (rAddA X.K) addD := ⟨op_add.or (op_add_str.or (op_catA.or op_cat)), fun m S H x y a b rl ra rb d S' h Q q => by
  unfold addD at h
  split at h
  · cases h; cases ra; cases rb
    exact .inl ⟨_, _, rfl, rfl, q m H _ rl .refl (.int _)⟩
  · split at h
    · cases h; cases ra; cases rb
      rename_i c
      exact .inr (.inl ⟨_, _, rfl, rfl, c, q m H _ rl .refl (.str _)⟩)
    · cases h
  · split at h
    · cases h
      rename_i xs ys c
      cases ra with
      | tup h1 h2 =>
        cases rb with
        | tup h3 h4 =>
          refine .inr (.inr (.inl ⟨_, _, _, _, rfl, rfl, h1, h3, by rw [← h2.length, ← h4.length]; exact c, fun e => ?_, fun _ e => ?_, fun _ _ p hp => ?_⟩))
          · subst e
            cases h2
            exact q m H _ rl .refl (.tup h3 h4)
          · subst e
            cases h4
            rw [List.append_nil] at q
            exact q m H _ rl .refl (.tup h1 h2)
          · obtain ⟨a1, a2, a3⟩ := rl.tup hp (h2.append h4)
            exact q m _ _ a1 a2 a3
    · cases h
  · split at h
    · split at h
      · cases h
        rename_i i j xs ys e1 e2 c
        obtain ⟨p1, vs, rfl, _, q2, q3⟩ := rl.sqL e1 ra
        obtain ⟨p2, us, rfl, _, q5, q6⟩ := rl.sqL e2 rb
        refine .inr (.inr (.inr ⟨p1, p2, vs, us, rfl, rfl, q2, q5, by rw [← q3.length, ← q6.length]; exact c, fun p hp => ?_⟩))
        obtain ⟨a1, a2, a3⟩ := rl.new hp (.lst (q3.append q6))
        exact q _ _ _ a1 a2 a3
      · cases h
    · cases h
  · cases h⟩
def subD (a b : D) : M D := fun S => match a, b with
  | .int i, .int j => some (.int (i - j), S)
  | _, _ => none
theorem o_sub : DO2 X (binaryOp .Sub) (rI0 fun i j => .int (i - j)) subD := ⟨op_sub, fun m S H x y a b rl ra rb d S' h Q q => by
  unfold subD at h
  split at h
  · cases h; cases ra; cases rb
    exact ⟨_, _, rfl, rfl, q m H _ rl .refl (.int _)⟩
  · cases h⟩
def smallI (i : Int) : Bool := decide (-(2 ^ 64) < i ∧ i < 2 ^ 64)
def mulD (a b : D) : M D := fun S => match a, b with
  | .int i, .int j => if smallI i = true ∨ smallI j = true then some (.int (i * j), S) else none
  | .tup xs, .int k => if xs ≠ [] ∧ 2 ≤ k ∧ k ≤ 1000 ∧ xs.length ≤ 1000 then some (.tup (List.replicate k.toNat xs).flatten, S) else none
  | _, _ => none
theorem Reps.rep {ds : List D} {vs : List V} (h : Reps K m H ds vs) : ∀ n : Nat, Reps K m H (List.replicate n ds).flatten (List.replicate n vs).flatten
  | 0 => .nil
  | n + 1 => by
    rw [List.replicate_succ, List.replicate_succ, List.flatten_cons, List.flatten_cons]
    exact h.append (Reps.rep h n)
theorem o_mul : DO2 X (binaryOp .Mult) (rMulA X.K) mulD := ⟨op_mul.or op_repT, fun m S H x y a b rl ra rb d S' h Q q => by
  unfold mulD at h
  split at h
  · split at h
    · cases h; cases ra; cases rb
      rename_i c
      refine .inl ⟨_, _, rfl, rfl, ?_, q m H _ rl .refl (.int _)⟩
      unfold smallI at c
      rw [decide_eq_true_iff, decide_eq_true_iff] at c
      exact c
    · cases h
  · split at h
    · cases h
      rename_i c
      cases rb
      cases ra with
      | tup h1 h2 =>
        refine .inr ⟨_, _, _, rfl, rfl, h1, fun z => ?_, c.2.1, c.2.2.1, by rw [← h2.length]; exact c.2.2.2, fun p hp => ?_⟩
        · subst z
          cases h2
          exact c.1 rfl
        · obtain ⟨a1, a2, a3⟩ := rl.tup hp (h2.rep _)
          exact q m _ _ a1 a2 a3
    · cases h
  · cases h⟩
def modD (a b : D) : M D := fun S => match a, b with
  | .int i, .int j => if 0 < j then some (.int (i % j), S) else none
  | _, _ => none
theorem o_mod : DO2 X (binaryOp .Mod) (rI (fun _ j => 0 < j) fun i j => .int (i % j)) modD := ⟨op_mod, fun m S H x y a b rl ra rb d S' h Q q => by
  unfold modD at h
  split at h
  · split at h
    · cases h; cases ra; cases rb
      rename_i c
      exact ⟨_, _, rfl, rfl, c, q m H _ rl .refl (.int _)⟩
    · cases h
  · cases h⟩
def fdivD (a b : D) : M D := fun S => match a, b with
  | .int i, .int j => if 0 < j ∧ j < 1073741824 then some (.int (i / j), S) else none
  | _, _ => none
theorem o_fdiv : DO2 X (binaryOp .FloorDiv) (rI CDiv fun i j => .int (i / j)) fdivD := ⟨op_fdiv, fun m S H x y a b rl ra rb d S' h Q q => by
  unfold fdivD at h
  split at h
  · split at h
    · cases h; cases ra; cases rb
      rename_i c
      exact ⟨_, _, rfl, rfl, c, q m H _ rl .refl (.int _)⟩
    · cases h
  · cases h⟩
def negD (a : D) : M D := fun S => match a with
  | .int i => some (.int (-i), S)
  | _ => none
theorem o_neg : DO1 X (unaryOp .USub) (rU fun i => .int (-i)) negD := ⟨un_neg, fun m S H x a rl ra d S' h Q q => by
  unfold negD at h
  split at h
  · cases h; cases ra
    exact ⟨_, rfl, q m H _ rl .refl (.int _)⟩
  · cases h⟩
/-! ### two comparisons in a row -/
def eChain (g g' : D → D → M D) (fa fb fc : SEnv → M D) : SEnv → M D := fun env => bnd (fa env) fun a => bnd (fb env) fun b => bnd (g a b) fun k => match k with
  | .bl true => bnd (fc env) fun c => g' b c
  | .bl false => ret (.bl false)
  | _ => fail
theorem se_chain {r r' : R2} {g g' : D → D → M D} {ta tb tc : TE} {fa fb fc : SEnv → M D} (hr : SR2 K r g) (hr' : SR2 K r' g') (ha : SE K ta fa) (hb : SE K tb fb) (hc : SE K tc fc) : SE K (tChain r r' ta tb tc) (eChain g g' fa fb fc) := fun m S H env σ rl re d S' h Q q => by
  obtain ⟨a, S1, h1, h⟩ := bnd_some h
  obtain ⟨b, S2, h2, h⟩ := bnd_some h
  obtain ⟨k, S3, h3, h⟩ := bnd_some h
  refine ha rl re a S1 h1 _ fun m1 H1 x rl1 e1 ra => ?_
  refine hb rl1 (re.mono rl e1) b S2 h2 _ fun m2 H2 y rl2 e2 rb => ?_
  refine hr rl2 (ra.mono rl1 e2) rb k S3 h3 _ fun m3 H3 z rl3 e3 rz => ?_
  have e123 := (e1.trans e2).trans e3
  cases k with
  | bl k =>
    cases rz
    refine ⟨k, rfl, ?_⟩
    cases k with
    | true =>
      obtain ⟨c, S4, h4, h⟩ := bnd_some h
      exact iteT (hc rl3 (re.mono rl e123) c S4 h4 _ fun m4 H4 w rl4 e4 rw' => hr' rl4 (rb.mono rl2 (e3.trans e4)) rw' d S' h Q fun m5 H5 v rl5 e5 rv => q m5 H5 v rl5 ((e123.trans e4).trans e5) rv)
    | false =>
      cases h
      exact iteF (q m3 H3 _ rl3 e123 (.bl false))
  | _ => cases h
theorem de_chain {op op' : CmpOp} {a b c : Expr} {pos : Pos} {g g' : D → D → M D} {fa fb fc : SEnv → M D} (ho : DO2 X (compareOp op) r g) (ho' : DO2 X (compareOp op') r' g') (ha : DE X a ta fa) (hb : DE X b tb fb) (hc : DE X c tc fc)
    (hm : lastMarks [op, op'] [b, c] = false := by with_unfolding_all rfl) : DE X (.Compare a [op, op'] [b, c] pos) (tChain r r' ta tb tc) (eChain g g' fa fb fc) := by
  obtain ⟨h1, h2⟩ := ho
  obtain ⟨h1', h2'⟩ := ho'
  obtain ⟨h3, h4⟩ := ha
  obtain ⟨h5, h6⟩ := hb
  obtain ⟨h7, h8⟩ := hc
  exact ⟨pe_chain h1 h1' h3 h5 h7 hm, se_chain h2 h2' h4 h6 h8⟩
theorem dt_chain {op op' : CmpOp} {a b c : Expr} {pos : Pos} {g g' : D → D → M D} {fa fb fc : SEnv → M D} (ho : DO2 X (compareOp op) r g) (ho' : DO2 X (compareOp op') r' g') (ha : DE X a ta fa) (hb : DE X b tb fb) (hc : DE X c tc fc)
    (hm : lastMarks [op, op'] [b, c] = false := by with_unfolding_all rfl) : DT X (.Compare a [op, op'] [b, c] pos) (tTest (tChain r r' ta tb tc)) (asB (eChain g g' fa fb fc)) := by
  obtain ⟨h1, h2⟩ := ho
  obtain ⟨h1', h2'⟩ := ho'
  obtain ⟨h3, h4⟩ := ha
  obtain ⟨h5, h6⟩ := hb
  obtain ⟨h7, h8⟩ := hc
  exact ⟨pt_chain h1 h1' h3 h5 h7 hm, st_B (se_chain h2 h2' h4 h6 h8)⟩
end
end TS
set_option Elab.async false
set_option linter.all false
set_option maxRecDepth 100000
namespace TS
open PySem PySem.Spec PyProof.Rows L2
section
variable {X : Cx} {K : PySem.W.Frag} {m m' m2 : List Addr} {S S' S2 : Store} {H H' H2 : Hp} {env : SEnv} {σ : L2.St}
/-! ### calls of what is built in -/
abbrev Rn := List V → Hp → VK → Prop
structure DC (X : Cx) (f : Value) (r : Rn) (g : List D → M D) : Prop where
  cr : CallR X f r
  sr : SRn X.K r g
def eCall (g : List D → M D) (fa : SEnv → M (List D)) : SEnv → M D := fun env => bnd (fa env) g
theorem se_call {r : List V → Hp → VK → Prop} {g : List D → M D} {ta : TA} {fa : SEnv → M (List D)} (hr : SRn K r g) (ha : SA K ta fa) : SE K (tCB r ta) (eCall g fa) := fun m S H env σ rl re d S' h Q q => by
  obtain ⟨ds, S1, h1, h⟩ := bnd_some h
  exact ha rl re ds S1 h1 _ fun m1 H1 vs rl1 e1 rv => hr rl1 rv d S' h Q fun m3 H3 v rl3 e3 rv3 => q m3 H3 v rl3 (e1.trans e3) rv3
section
variable {x : Str} {p pos : Pos} {e : Expr} {es : List Expr} {id T : String} {g : List D → M D} {fa : SEnv → M (List D)}
theorem de_callB (hc : DC X (.builtin id) r g) (hm : X.mg x = none) (ha : DA X (e :: es) ta fa) (hg : Gl X x := by rfl) (hv : bootBuiltins x = some (.builtin id) := by decide +kernel) (hn : x ≠ "__name__" := by decide) (hdb : (x == ("__debug__" : Str)) = false := by decide)
    (he : starEach (e :: es) X.env = (false, eval e X.env) :: starEach es X.env := by rfl) (hpl : (backTo pos (starEach es X.env)).any (·.1) = false := by rfl) : DE X (.Call (.Name x p) (e :: es) [] pos) (tCB r ta) (eCall g fa) := by
  obtain ⟨h1, h2⟩ := hc
  obtain ⟨h3, h4⟩ := ha
  exact ⟨pe_callB h1 hg hm hv h3 hn hdb he hpl, se_call h2 h4⟩
theorem de_callTy (hc : DC X (.type T) r g) (hm : X.mg x = none) (ha : DA X (e :: es) ta fa) (hg : Gl X x := by rfl) (hv : bootBuiltins x = some (.type T) := by decide +kernel) (hn : x ≠ "__name__" := by decide) (hdb : (x == ("__debug__" : Str)) = false := by decide)
    (he : starEach (e :: es) X.env = (false, eval e X.env) :: starEach es X.env := by rfl) (hpl : (backTo pos (starEach es X.env)).any (·.1) = false := by rfl) : DE X (.Call (.Name x p) (e :: es) [] pos) (tCB r ta) (eCall g fa) := by
  obtain ⟨h1, h2⟩ := hc
  obtain ⟨h3, h4⟩ := ha
  exact ⟨pe_callTy h1 hg hm hv h3 hn hdb he hpl, se_call h2 h4⟩
end
def nLen : List D → M D
  | [.str y] => fun S => if y.length ≤ sizeLine then some (.int y.length, S) else none
  | [.ref i] => fun S => match S[i]? with
    | some (.lst xs) => some (.int xs.length, S)
    | some (.dK kvs) => some (.int kvs.length, S)
    | _ => none
  | [.tup xs] => ret (.int xs.length)
  | [.fl xs] => ret (.int xs.length)
  | _ => fail
theorem call_lenD {X : Cx} : CallR X (.builtin "len") (fun xs H Q => ∃ a kvs, xs = [.ref a] ∧ H a = some (.dK kvs) ∧ Q (.int kvs.length) H) := fun pins s σ H xs us Q I r h => by
  obtain ⟨a, kvs, rfl, e, q⟩ := h
  obtain ⟨u, rfl, ru⟩ := vals1 r
  cases ru
  exact d_len I (.inl e) fun t s' I' => ⟨.int _, H, I', ⟨t, rfl⟩, q⟩
theorem CallR.or {X : Cx} {f : Value} {r r' : List V → Hp → VK → Prop} (h : CallR X f r) (h' : CallR X f r') : CallR X f (fun xs H Q => r xs H Q ∨ r' xs H Q) := fun pins s σ H xs us Q I rv q => by
  rcases q with q | q
  · exact h pins s σ H xs us Q I rv q
  · exact h' pins s σ H xs us Q I rv q
theorem Reps.one {d : D} {vs : List V} (h : Reps K m H [d] vs) : ∃ v, vs = [v] ∧ Rep K m H d v := by
  cases h with
  | cons h hs =>
    cases hs
    exact ⟨_, rfl, h⟩
theorem Reps.two {d e : D} {vs : List V} (h : Reps K m H [d, e] vs) : ∃ v u, vs = [v, u] ∧ Rep K m H d v ∧ Rep K m H e u := by
  cases h with
  | cons h hs =>
    obtain ⟨u, rfl, hu⟩ := hs.one
    exact ⟨_, _, rfl, h, hu⟩
def rLenA (K : PySem.W.Frag) : Rn := fun xs H Q => (∃ x n, xs = [x] ∧ LenV K x H n ∧ Q (.int n) H) ∨ (∃ a kvs, xs = [.ref a] ∧ H a = some (.dK kvs) ∧ Q (.int kvs.length) H)
theorem c_len : DC X (.builtin "len") (rLenA X.K) nLen := ⟨call_len.or call_lenD, fun m S H xs as rl ra d S' h Q q => by
  unfold nLen at h
  split at h
  · obtain ⟨v, rfl, rv⟩ := ra.one
    cases rv
    split at h
    · cases h
      rename_i y c
      exact .inl ⟨_, _, rfl, ⟨c, rfl⟩, q m H _ rl .refl (.int _)⟩
    · cases h
  · obtain ⟨v, rfl, rv⟩ := ra.one
    split at h
    · cases h
      rename_i i _ xs e
      obtain ⟨a, vs, rfl, _, h2, h3⟩ := rl.sqL e rv
      exact .inl ⟨_, _, rfl, .inl ⟨vs, .inl (.inl h2), h3.length⟩, q m H _ rl .refl (.int _)⟩
    · cases h
      rename_i i _ kvs e
      obtain ⟨a, us, rfl, _, h2, h3, _⟩ := rl.dK e rv
      have := congrArg List.length h3
      rw [List.length_map, List.length_map] at this
      exact .inr ⟨a, us, rfl, h2, by rw [this]; exact q m H _ rl .refl (.int _)⟩
    · cases h
  · obtain ⟨v, rfl, rv⟩ := ra.one
    cases h
    cases rv with
    | tup h1 h2 => exact .inl ⟨_, _, rfl, .inr ⟨_, h1, h2.length⟩, q m H _ rl .refl (.int _)⟩
  · obtain ⟨v, rfl, rv⟩ := ra.one
    cases h
    cases rv with
    | fl h1 h2 => exact .inl ⟨_, _, rfl, .inl ⟨_, h1.sq, h2.length⟩, q m H _ rl .refl (.int _)⟩
  · cases h⟩
/-- isinstance -/
def tyOf (S : Store) : D → Option String
  | .non => some "NoneType" | .bl _ => some "bool" | .int _ => some "int" | .str _ => some "str" | .tup _ => some "tuple" | .fl _ => some "list"
  | .ref i => match S[i]? with
    | some (.lst _) => some "list"
    | some (.dK _) => some "dict"
    | some (.dT _) => some "dict"
    | none => none
  | .ty _ => none
def nIsi : List D → M D
  | [a, .ty n] => fun S => match tyOf S a with
    | some t => match kitB t n with
      | some b => some (.bl b, S)
      | none => none
    | none => none
  | _ => fail
theorem tyOf_rep (rl : Rel K m S H) {d : D} {v : V} {t : String} (r : Rep K m H d v) (e : tyOf S d = some t) : TyX K H v (.type t) := by
  cases r with
  | non => cases e; exact .base .non
  | bl b => cases e; exact .base (.bl b)
  | int i => cases e; exact .base (.int i)
  | str x => cases e; exact .base (.str x)
  | ty n => cases e
  | tup h _ =>
    cases e
    rcases h with (h | ⟨o, h⟩) | ⟨o, its, n, h1, h2, _⟩
    · exact .base (.tup h)
    · exact .fTuple h
    · exact .kTuple h1 h2
  | fl h _ =>
    cases e
    rcases h with ⟨o, h⟩ | ⟨o, its, n, h1, h2, _⟩
    · exact .base (.frz h)
    · exact .kList h1 h2
  | @ref i a hi =>
    unfold tyOf at e
    simp only at e
    cases e1 : S[i]? with
    | none => rw [e1] at e; cases e
    | some o =>
      rw [e1] at e
      obtain ⟨a', u, q1, q2, q3⟩ := rl.at e1
      rw [hi] at q1
      cases q1
      cases q3 with
      | lst _ => cases e; exact .base (.lst q2)
      | dK _ _ => cases e; exact .base (.dK q2)
      | dT _ _ => cases e; exact .base (.dT q2)
theorem c_isi : DC X (.builtin "isinstance") (rIsi X.K) nIsi := ⟨call_isi, fun m S H xs as rl ra d S' h Q q => by
  unfold nIsi at h
  split at h
  · obtain ⟨v, u, rfl, rv, ru⟩ := ra.two
    cases ru
    split at h
    · split at h
      · cases h
        rename_i t e1 _ b e2
        exact ⟨v, _, _, _, _, rfl, .ty _, tyOf_rep rl rv e1, kit_ty e2, q m H _ rl .refl (.bl _)⟩
      · cases h
    · cases h
  · cases h⟩
/-- min, max of two ints -/
def nMin2 : List D → M D
  | [.int i, .int j] => ret (.int (if j < i then j else i))
  | _ => fail
def nMax2 : List D → M D
  | [.int i, .int j] => ret (.int (if j > i then j else i))
  | _ => fail
theorem c_min2 (hc : X.calm = true) : DC X (.builtin "min") (fun xs H Q => ∃ i j, xs = [.int i, .int j] ∧ Q (.int (if j < i then j else i)) H) nMin2 := ⟨call_min2 hc, fun m S H xs as rl ra d S' h Q q => by
  unfold nMin2 at h
  split at h
  · obtain ⟨v, u, rfl, rv, ru⟩ := ra.two
    cases rv; cases ru; cases h
    exact ⟨_, _, rfl, q m H _ rl .refl (.int _)⟩
  · cases h⟩
theorem c_max2 (hc : X.calm = true) : DC X (.builtin "max") (fun xs H Q => ∃ i j, xs = [.int i, .int j] ∧ Q (.int (if j > i then j else i)) H) nMax2 := ⟨call_max2 hc, fun m S H xs as rl ra d S' h Q q => by
  unfold nMax2 at h
  split at h
  · obtain ⟨v, u, rfl, rv, ru⟩ := ra.two
    cases rv; cases ru; cases h
    exact ⟨_, _, rfl, q m H _ rl .refl (.int _)⟩
  · cases h⟩
def nInt : List D → M D
  | [.int i] => ret (.int i)
  | [.bl k] => ret (.int (if k then 1 else 0))
  | _ => fail
theorem c_int : DC X (.type "int") (fun xs H Q => (∃ i, xs = [.int i] ∧ Q (.int i) H) ∨ ∃ k, xs = [.bl k] ∧ Q (.int (if k then 1 else 0)) H) nInt := ⟨call_int1, fun m S H xs as rl ra d S' h Q q => by
  unfold nInt at h
  split at h
  · obtain ⟨v, rfl, rv⟩ := ra.one
    cases rv; cases h
    exact .inl ⟨_, rfl, q m H _ rl .refl (.int _)⟩
  · obtain ⟨v, rfl, rv⟩ := ra.one
    cases rv; cases h
    exact .inr ⟨_, rfl, q m H _ rl .refl (.int _)⟩
  · cases h⟩
/-- sum of ints, all and any of bools: lists -/
def intsOf : List D → Option (List Int)
  | [] => some []
  | .int i :: r => (intsOf r).map (i :: ·)
  | _ => none
def blsOf : List D → Option (List Bool)
  | [] => some []
  | .bl i :: r => (blsOf r).map (i :: ·)
  | _ => none
def strsOf : List D → Option (List Str)
  | [] => some []
  | .str i :: r => (strsOf r).map (i :: ·)
  | _ => none
theorem intsOf_rep : ∀ {ds : List D} {vs : List V} {ns : List Int}, Reps K m H ds vs → intsOf ds = some ns → vs = ns.map V.int
  | [], _, _, .nil, e => by cases e; rfl
  | .int i :: r, _, _, .cons h hs, e => by
    have e' : (intsOf r).map (i :: ·) = some _ := e
    obtain ⟨ns, e1, rfl⟩ := Option.map_eq_some_iff.mp e'
    cases h
    rw [intsOf_rep hs e1]
    rfl
  | .non :: _, _, _, _, e => by cases e
  | .bl _ :: _, _, _, _, e => by cases e
  | .str _ :: _, _, _, _, e => by cases e
  | .tup _ :: _, _, _, _, e => by cases e
  | .fl _ :: _, _, _, _, e => by cases e
  | .ref _ :: _, _, _, _, e => by cases e
  | .ty _ :: _, _, _, _, e => by cases e
theorem blsOf_rep : ∀ {ds : List D} {vs : List V} {ns : List Bool}, Reps K m H ds vs → blsOf ds = some ns → vs = ns.map V.bl
  | [], _, _, .nil, e => by cases e; rfl
  | .bl i :: r, _, _, .cons h hs, e => by
    have e' : (blsOf r).map (i :: ·) = some _ := e
    obtain ⟨ns, e1, rfl⟩ := Option.map_eq_some_iff.mp e'
    cases h
    rw [blsOf_rep hs e1]
    rfl
  | .non :: _, _, _, _, e => by cases e
  | .int _ :: _, _, _, _, e => by cases e
  | .str _ :: _, _, _, _, e => by cases e
  | .tup _ :: _, _, _, _, e => by cases e
  | .fl _ :: _, _, _, _, e => by cases e
  | .ref _ :: _, _, _, _, e => by cases e
  | .ty _ :: _, _, _, _, e => by cases e
theorem strsOf_rep : ∀ {ds : List D} {vs : List V} {ns : List Str}, Reps K m H ds vs → strsOf ds = some ns → vs = ns.map V.str
  | [], _, _, .nil, e => by cases e; rfl
  | .str i :: r, _, _, .cons h hs, e => by
    have e' : (strsOf r).map (i :: ·) = some _ := e
    obtain ⟨ns, e1, rfl⟩ := Option.map_eq_some_iff.mp e'
    cases h
    rw [strsOf_rep hs e1]
    rfl
  | .non :: _, _, _, _, e => by cases e
  | .int _ :: _, _, _, _, e => by cases e
  | .bl _ :: _, _, _, _, e => by cases e
  | .tup _ :: _, _, _, _, e => by cases e
  | .fl _ :: _, _, _, _, e => by cases e
  | .ref _ :: _, _, _, _, e => by cases e
  | .ty _ :: _, _, _, _, e => by cases e
/-- the items of a list (of the store, or locked) -/
def lstOf (S : Store) : D → Option (List D)
  | .fl xs => some xs
  | .ref i => match S[i]? with
    | some (.lst xs) => some xs
    | _ => none
  | _ => none
theorem lstOf_rep (r : Rel K m S H) {d : D} {v : V} {xs : List D} (q : Rep K m H d v) (e : lstOf S d = some xs) : ∃ a vs, v = .ref a ∧ SqL K H a vs ∧ Reps K m H xs vs := by
  cases q with
  | fl h1 h2 => cases e; exact ⟨_, _, rfl, h1.sq, h2⟩
  | @ref i a hi =>
    unfold lstOf at e
    simp only at e
    cases e1 : S[i]? with
    | none => rw [e1] at e; cases e
    | some o =>
      rw [e1] at e
      cases o with
      | lst ys =>
        cases e
        obtain ⟨a', vs, q1, _, q2, q3⟩ := r.sqL e1 (.ref hi)
        cases q1
        exact ⟨_, vs, rfl, .inl (.inl q2), q3⟩
      | dK _ => cases e
      | dT _ => cases e
  | _ => cases e
def nSum : List D → M D
  | [d] => fun S => match lstOf S d with
    | some xs => match intsOf xs with
      | some ns => some (.int ns.sum, S)
      | none => none
    | none => none
  | _ => fail
def nAll : List D → M D
  | [d] => fun S => match lstOf S d with
    | some xs => match blsOf xs with
      | some ns => some (.bl (ns.all id), S)
      | none => none
    | none => none
  | _ => fail
def nAny : List D → M D
  | [d] => fun S => match lstOf S d with
    | some xs => match blsOf xs with
      | some ns => some (.bl (ns.any id), S)
      | none => none
    | none => none
  | _ => fail
theorem c_sum (hc : X.calm = true) : DC X (.builtin "sum") (rSum X.K) nSum := ⟨cr_sum hc, fun m S H xs as rl ra d S' h Q q => by
  unfold nSum at h
  split at h
  · obtain ⟨v, rfl, rv⟩ := ra.one
    split at h
    · split at h
      · cases h
        rename_i ys e1 _ ns e2
        obtain ⟨a, vs, rfl, h1, h2⟩ := lstOf_rep rl rv e1
        have := intsOf_rep h2 e2
        subst this
        exact ⟨a, ns, rfl, h1, q m H _ rl .refl (.int _)⟩
      · cases h
    · cases h
  · cases h⟩
theorem c_all (hc : X.calm = true) : DC X (.builtin "all") (rAll X.K) nAll := ⟨cr_all hc, fun m S H xs as rl ra d S' h Q q => by
  unfold nAll at h
  split at h
  · obtain ⟨v, rfl, rv⟩ := ra.one
    split at h
    · split at h
      · cases h
        rename_i ys e1 _ ns e2
        obtain ⟨a, vs, rfl, h1, h2⟩ := lstOf_rep rl rv e1
        have := blsOf_rep h2 e2
        subst this
        exact ⟨a, ns, rfl, h1, q m H _ rl .refl (.bl _)⟩
      · cases h
    · cases h
  · cases h⟩
theorem c_any (hc : X.calm = true) : DC X (.builtin "any") (rAny X.K) nAny := ⟨cr_any hc, fun m S H xs as rl ra d S' h Q q => by
  unfold nAny at h
  split at h
  · obtain ⟨v, rfl, rv⟩ := ra.one
    split at h
    · split at h
      · cases h
        rename_i ys e1 _ ns e2
        obtain ⟨a, vs, rfl, h1, h2⟩ := lstOf_rep rl rv e1
        have := blsOf_rep h2 e2
        subst this
        exact ⟨a, ns, rfl, h1, q m H _ rl .refl (.bl _)⟩
      · cases h
    · cases h
  · cases h⟩
/-- tuple(..), list(..) of a list or a tuple -/
def nTuple : List D → M D
  | [.tup xs] => ret (.tup xs)
  | [d] => fun S => match lstOf S d with
    | some xs => some (.tup xs, S)
    | none => none
  | _ => fail
theorem c_tuple : DC X (.type "tuple") (fun xs H Q => ∃ p ys, xs = [.ref p] ∧ ((SqL X.K H p ys ∧ ∀ l, H l = none → Q (.ref l) (upd H l (.tup ys))) ∨ (SqT X.K H p ys ∧ Q (.ref p) H))) nTuple := ⟨call_tuple_of, fun m S H xs as rl ra d S' h Q q => by
  unfold nTuple at h
  split at h
  · obtain ⟨v, rfl, rv⟩ := ra.one
    cases h
    cases rv with
    | tup h1 h2 => exact ⟨_, _, rfl, .inr ⟨h1, q m H _ rl .refl (.tup h1 h2)⟩⟩
  · obtain ⟨v, rfl, rv⟩ := ra.one
    simp only at h
    split at h
    · cases h
      rename_i ys e1
      obtain ⟨a, vs, rfl, h1, h2⟩ := lstOf_rep rl rv e1
      refine ⟨_, _, rfl, .inl ⟨h1, fun p hp => ?_⟩⟩
      obtain ⟨a1, a2, a3⟩ := rl.tup hp h2
      exact q m _ _ a1 a2 a3
    · cases h
  · cases h⟩
def nList : List D → M D
  | [d] => fun S => match seqOf S d with
    | some xs => some (.ref S.length, S ++ [.lst xs])
    | none => none
  | _ => fail
theorem c_list : DC X (.type "list") (fun xs H Q => ∃ p ys, xs = [.ref p] ∧ (SqL X.K H p ys ∨ SqT X.K H p ys) ∧ ∀ l, H l = none → Q (.ref l) (upd H l (.lst ys))) nList := ⟨call_list_of, fun m S H xs as rl ra d S' h Q q => by
  unfold nList at h
  split at h
  · obtain ⟨v, rfl, rv⟩ := ra.one
    split at h
    · cases h
      rename_i ys e1
      obtain ⟨a, vs, rfl, h1, h2⟩ := seqOf_rep rl rv e1
      refine ⟨_, _, rfl, h1, fun p hp => ?_⟩
      obtain ⟨a1, a2, a3⟩ := rl.new hp (.lst h2)
      exact q _ _ _ a1 a2 a3
    · cases h
  · cases h⟩
/-! ### subscripts -/
structure DIx (X : Cx) (r : R2) (g : D → D → M D) : Prop where
  ix : IxR X r
  sr : SR2 X.K r g
/-- a list, a tuple, a text at an int -/
def ixD (a b : D) : M D := fun S => match b with
  | .int i => match a with
    | .str z => if z.length ≤ sizeLine then match atI z.cps.toList i with
        | some c => some (.str ⟨#[c]⟩, S)
        | none => none
      else none
    | _ => match seqOf S a with
      | some xs => match atI xs i with
        | some d => some (d, S)
        | none => none
      | none => none
  | _ => none
theorem Reps.atI {ds : List D} {vs : List V} {i : Int} {d : D} (h : Reps K m H ds vs) (e : L2.atI ds i = some d) : ∃ v, L2.atI vs i = some v ∧ Rep K m H d v := by
  unfold L2.atI at e ⊢
  rw [← h.length]
  cases e1 : ixN ds.length i with
  | none => rw [e1] at e; cases e
  | some j =>
    rw [e1] at e
    exact h.get e
theorem ix_sr : SR2 K (rIx K) ixD := fun m S H x y a b rl ra rb d S' h Q q => by
  have other : ∀ i, (match seqOf S a with
      | some xs => match atI xs i with
        | some d => some (d, S)
        | none => none
      | none => none) = some (d, S') → y = .int i → rIx K x y H Q := fun i h hy => by
    cases e : seqOf S a with
    | none => rw [e] at h; cases h
    | some xs =>
      rw [e] at h
      simp only at h
      cases e2 : atI xs i with
      | none => rw [e2] at h; cases h
      | some d' =>
        rw [e2] at h
        cases h
        obtain ⟨p, vs, rfl, h1, h2⟩ := seqOf_rep rl ra e
        obtain ⟨v, h3, h4⟩ := h2.atI e2
        rcases h1 with h1 | h1
        · exact .inl ⟨p, vs, i, v, rfl, hy, h1, h3, q m H v rl .refl h4⟩
        · exact .inr (.inl ⟨p, vs, i, v, rfl, hy, h1, h3, q m H v rl .refl h4⟩)
  unfold ixD at h
  split at h
  · cases rb
    split at h
    · split at h
      · split at h
        · cases h
          cases ra
          rename_i hz _ c e
          exact .inr (.inr ⟨_, _, c, rfl, rfl, hz, e, q m H _ rl .refl (.str _)⟩)
        · cases h
      · cases h
    · exact other _ h rfl
  · cases h
theorem ix_any : DIx X (rIx X.K) ixD := ⟨ix_seq, ix_sr⟩
theorem de_ix {a b : Expr} {pos : Pos} {g : D → D → M D} {fa fb : SEnv → M D} (hr : DIx X r g) (ha : DE X a ta fa) (hb : DE X b tb fb) (hs : PlainIx b := by exact fun _ _ => rfl) : DE X (.Subscript a b pos) (tOp r ta tb) (eOp g fa fb) := by
  obtain ⟨h1, h2⟩ := hr
  obtain ⟨h3, h4⟩ := ha
  obtain ⟨h5, h6⟩ := hb
  exact ⟨pe_ix h1 h3 h5 hs, se_op h2 h4 h6⟩
/-! ### slices -/
abbrev Rs := V → Option Int → Option Int → Hp → VK → Prop
structure DSl (X : Cx) (r : Rs) (g : D → Option Int → Option Int → M D) : Prop where
  sl : SlR X r
  sr : ∀ ⦃m : List Addr⦄ ⦃S : Store⦄ ⦃H : Hp⦄ ⦃x : V⦄ ⦃a : D⦄ ⦃lo hi : Option Int⦄, Rel X.K m S H → Rep X.K m H a x → ∀ d S', g a lo hi S = some (d, S') → ∀ Q : VK, Out X.K m H S' d Q → r x lo hi H Q
def cutD (xs : List D) (lo hi : Option Int) : List D := (xs.drop (HT.sIx xs.length 0 lo)).take (HT.sIx xs.length xs.length hi - HT.sIx xs.length 0 lo)
def slD (a : D) (lo hi : Option Int) : M D := fun S => match a with
  | .str z => if z.length ≤ sizeLine then some (.str (cutS z lo hi), S) else none
  | .tup xs => some (.tup (cutD xs lo hi), S)
  | .fl xs => some (.ref S.length, S ++ [.lst (cutD xs lo hi)])
  | .ref i => match S[i]? with
    | some (.lst xs) => some (.ref S.length, S ++ [.lst (cutD xs lo hi)])
    | _ => none
  | _ => none
theorem Reps.cut {ds : List D} {vs : List V} (h : Reps K m H ds vs) (lo hi : Option Int) : Reps K m H (cutD ds lo hi) (cutV vs lo hi) := by
  unfold cutD cutV
  rw [← h.length]
  exact (h.drop _).take _
theorem cut_whole {xs : List D} {lo hi : Option Int} (h : HT.sIx xs.length 0 lo = 0 ∧ HT.sIx xs.length xs.length hi = xs.length) : cutD xs lo hi = xs := by
  unfold cutD
  rw [h.1, h.2]
  exact List.take_length
def rSlX (K : PySem.W.Frag) : Rs := fun x lo hi H Q => rSlS x lo hi H Q ∨ (rSlA K x lo hi H Q ∨ rSlL K x lo hi H Q)
theorem sl_any : DSl X (rSlX X.K) slD := ⟨sl_str.or (sl_tupA.or sl_list), fun m S H x a lo hi rl ra d S' h Q q => by
  unfold slD at h
  split at h
  · split at h
    · cases h; cases ra
      rename_i c
      exact .inl ⟨_, rfl, c, q m H _ rl .refl (.str _)⟩
    · cases h
  · cases h
    cases ra with
    | tup h1 h2 =>
      refine .inr (.inl ⟨_, _, rfl, h1, fun w => ?_, fun w p hp => ?_⟩)
      · rw [← h2.length] at w
        rw [cut_whole w] at q
        exact q m H _ rl .refl (.tup h1 h2)
      · obtain ⟨a1, a2, a3⟩ := rl.tup hp (h2.cut lo hi)
        exact q m _ _ a1 a2 a3
  · cases h
    cases ra with
    | fl h1 h2 =>
      refine .inr (.inr ⟨_, _, rfl, h1.sq, fun p hp => ?_⟩)
      obtain ⟨a1, a2, a3⟩ := rl.new hp (.lst (h2.cut lo hi))
      exact q _ _ _ a1 a2 a3
  · split at h
    · cases h
      rename_i i _ xs e
      obtain ⟨p, vs, rfl, _, h2, h3⟩ := rl.sqL e ra
      refine .inr (.inr ⟨_, _, rfl, .inl (.inl h2), fun p hp => ?_⟩)
      obtain ⟨a1, a2, a3⟩ := rl.new hp (.lst (h3.cut lo hi))
      exact q _ _ _ a1 a2 a3
    · cases h
  · cases h⟩
/-- a slice's part -/
abbrev OutO (K : PySem.W.Frag) (m : List Addr) (H : Hp) (S' : Store) (o : Option Int) (Q : Option Int → Hp → Prop) : Prop := ∀ m' H', Rel K m' S' H' → Ext m H m' H' → Q o H'
structure DP (X : Cx) (e : Option Expr) (t : TO) (f : SEnv → M (Option Int)) : Prop where
  po : PO X e t
  so : ∀ ⦃m : List Addr⦄ ⦃S : Store⦄ ⦃H : Hp⦄ ⦃env : SEnv⦄ ⦃σ : L2.St⦄, Rel X.K m S H → RelE X.K m H env σ → ∀ o S', f env S = some (o, S') → ∀ Q : Option Int → Hp → Prop, OutO X.K m H S' o Q → t σ H Q
def pNo : SEnv → M (Option Int) := fun _ => ret none
def pSome (f : SEnv → M D) : SEnv → M (Option Int) := fun env => bnd (f env) fun d => match d with
  | .int i => ret (some i)
  | _ => fail
theorem dp_no : DP X none tNoPart pNo := ⟨po_none, fun m S H env σ rl re o S' h Q q => by
  cases h
  exact q m H rl .refl⟩
theorem dp_some {e : Expr} {f : SEnv → M D} (h : DE X e t f) : DP X (some e) (tPart t) (pSome f) := by
  obtain ⟨h1, h2⟩ := h
  refine ⟨po_some h1, fun m S H env σ rl re o S' h Q q => ?_⟩
  obtain ⟨d, S1, h3, h4⟩ := bnd_some h
  refine h2 rl re d S1 h3 _ fun m1 H1 v rl1 e1 rv => ?_
  cases d with
  | int i =>
    cases h4
    cases rv
    exact ⟨i, rfl, q m1 H1 rl1 e1⟩
  | _ => cases h4
def eSl (g : D → Option Int → Option Int → M D) (fa : SEnv → M D) (fl fh : SEnv → M (Option Int)) : SEnv → M D := fun env => bnd (fa env) fun a => bnd (fl env) fun lo => bnd (fh env) fun hi => g a lo hi
theorem de_slice {e : Expr} {lo hi : Option Expr} {pos p2 : Pos} {g : D → Option Int → Option Int → M D} {fa : SEnv → M D} {fl fh : SEnv → M (Option Int)} (hr : DSl X r g) (he : DE X e t fa) (hl : DP X lo tl fl) (hu : DP X hi th fh) :
    DE X (.Subscript e (.Slice lo hi none p2) pos) (tSl r t tl th) (eSl g fa fl fh) := by
  obtain ⟨h1, h2⟩ := hr
  obtain ⟨h3, h4⟩ := he
  obtain ⟨h5, h6⟩ := hl
  obtain ⟨h7, h8⟩ := hu
  refine ⟨pe_slice h1 h3 h5 h7, fun m S H env σ rl re d S' h Q q => ?_⟩
  obtain ⟨a, S1, k1, h⟩ := bnd_some h
  obtain ⟨l, S2, k2, h⟩ := bnd_some h
  obtain ⟨u, S3, k3, h⟩ := bnd_some h
  refine h4 rl re a S1 k1 _ fun m1 H1 v rl1 e1 rv => ?_
  refine h6 rl1 (re.mono rl e1) l S2 k2 _ fun m2 H2 rl2 e2 => ?_
  refine h8 rl2 (re.mono rl (e1.trans e2)) u S3 k3 _ fun m3 H3 rl3 e3 => ?_
  exact h2 rl3 (rv.mono rl1 (e2.trans e3)) d S' h Q fun m4 H4 w rl4 e4 rw' => q m4 H4 w rl4 (((e1.trans e2).trans e3).trans e4) rw'
/-! ### methods of what is built in -/
abbrev Rm := V → List V → Hp → VK → Prop
structure DM (X : Cx) (T id : String) (r : Rm) (g : D → List D → M D) : Prop where
  mt : MtR X id r
  sr : ∀ ⦃m : List Addr⦄ ⦃S : Store⦄ ⦃H : Hp⦄ ⦃x : V⦄ ⦃a : D⦄ ⦃xs : List V⦄ ⦃as : List D⦄, Rel X.K m S H → Rep X.K m H a x → Reps X.K m H as xs → ∀ d S', g a as S = some (d, S') → ∀ Q : VK, Out X.K m H S' d Q → r x xs H Q
/-- the receiver's type, ahead of the arguments -/
def tyM (T : String) (a : D) : M Unit := fun S => match a with
  | .str _ => if T = "str" then some ((), S) else none
  | .fl _ => if T = "list" then some ((), S) else none
  | .ref i => match S[i]? with
    | some (.lst _) => if T = "list" then some ((), S) else none
    | some (.dK _) => if T = "dict" then some ((), S) else none
    | some (.dT _) => if T = "dict" then some ((), S) else none
    | none => none
  | _ => none
theorem tyM_rep (rl : Rel K m S H) {T : String} {d : D} {v : V} (r : Rep K m H d v) (h : tyM T d S = some ((), S')) : S' = S ∧ tyV K T v H := by
  cases r with
  | str x =>
    unfold tyM at h
    simp only at h
    split at h
    · cases h; rename_i c; exact ⟨rfl, c⟩
    · cases h
  | fl h1 h2 =>
    unfold tyM at h
    simp only at h
    split at h
    · cases h; rename_i c; exact ⟨rfl, .inl ⟨c, _, h1.sq⟩⟩
    · cases h
  | @ref i a hi =>
    unfold tyM at h
    simp only at h
    cases e1 : S[i]? with
    | none => rw [e1] at h; cases h
    | some o =>
      rw [e1] at h
      obtain ⟨a', u, q1, q2, q3⟩ := rl.at e1
      rw [hi] at q1
      cases q1
      cases q3 with
      | lst _ =>
        simp only at h
        split at h
        · cases h; rename_i c; exact ⟨rfl, .inl ⟨c, _, .inl (.inl q2)⟩⟩
        · cases h
      | dK _ _ =>
        simp only at h
        split at h
        · cases h; rename_i c; exact ⟨rfl, .inr (.inr (.inl ⟨c, .inl ⟨_, q2⟩⟩))⟩
        · cases h
      | dT _ _ =>
        simp only at h
        split at h
        · cases h; rename_i c; exact ⟨rfl, .inr (.inr (.inl ⟨c, .inr ⟨_, q2⟩⟩))⟩
        · cases h
  | _ => cases h
def eMt (T : String) (g : D → List D → M D) (fo : SEnv → M D) (fa : SEnv → M (List D)) : SEnv → M D := fun env => bnd (fo env) fun a => bnd (tyM T a) fun _ => bnd (fa env) fun as => g a as
section
variable {o e : Expr} {es : List Expr} {name : Str} {apos cpos : Pos} {T id : String} {g : D → List D → M D} {fo : SEnv → M D} {fa : SEnv → M (List D)}
theorem de_mt0 (hm : DM X T id r g) (pa : PlainAttrs T) (slot : Slot T name id) (hty : typeOf (.builtin id) = pure (.type "method_descriptor")) (ho : DE X o t fo)
    (hbase : attributeBase o name X.env (eval o X.env) = eval o X.env := by rfl) (hline : (apos.endLine == cpos.line) = true := by rfl) : DE X (.Call (.Attribute o name apos) [] [] cpos) (tBM0 X.K T r t) (eMt T g fo aNil) := by
  obtain ⟨h1, h2⟩ := hm
  obtain ⟨h3, h4⟩ := ho
  refine ⟨pe_bm0 pa slot hty h1 h3 hbase hline, fun m S H env σ rl re d S' h Q q => ?_⟩
  obtain ⟨a, S1, k1, h'⟩ := bnd_some h
  obtain ⟨_, S2, k2, h''⟩ := bnd_some h'
  obtain ⟨as, S3, k3, h'''⟩ := bnd_some h''
  cases k3
  refine h4 rl re a S1 k1 _ fun m1 H1 v rl1 e1 rv => ?_
  obtain ⟨rfl, ty⟩ := tyM_rep rl1 rv k2
  exact ⟨ty, h2 rl1 rv .nil d S' h''' Q fun m4 H4 w rl4 e4 rw' => q m4 H4 w rl4 (e1.trans e4) rw'⟩
theorem de_mt (hm : DM X T id r g) (pa : PlainAttrs T) (slot : Slot T name id) (hty : typeOf (.builtin id) = pure (.type "method_descriptor")) (ho : DE X o t fo) (ha : DA X (e :: es) u fa)
    (hbase : attributeBase o name X.env (eval o X.env) = eval o X.env := by rfl)
    (hfew : ((backTo cpos (starEach (e :: es) X.env)).all (fun x => !x.1) && (backToKw cpos (keywordEach [] X.env)).all (fun x => x.1.isSome)
      && decide ((e :: es).length + ([] : List Keyword).length + (if ([] : List Keyword).isEmpty then 0 else 1) < 30)) = true := by rfl)
    (hline : (apos.endLine == cpos.line) = true := by rfl) (hs : starEach (e :: es) X.env = (false, eval e X.env) :: starEach es X.env := by rfl) (hplain : (backTo cpos (starEach es X.env)).any (·.1) = false := by rfl) :
    DE X (.Call (.Attribute o name apos) (e :: es) [] cpos) (tBM X.K T r t u) (eMt T g fo fa) := by
  obtain ⟨h1, h2⟩ := hm
  obtain ⟨h3, h4⟩ := ho
  obtain ⟨h5, h6⟩ := ha
  refine ⟨pe_bm pa slot hty h1 h3 h5 hbase hfew hline hs hplain, fun m S H env σ rl re d S' h Q q => ?_⟩
  obtain ⟨a, S1, k1, h'⟩ := bnd_some h
  obtain ⟨_, S2, k2, h''⟩ := bnd_some h'
  obtain ⟨as, S3, k3, h'''⟩ := bnd_some h''
  refine h4 rl re a S1 k1 _ fun m1 H1 v rl1 e1 rv => ?_
  obtain ⟨rfl, ty⟩ := tyM_rep rl1 rv k2
  refine ⟨ty, h6 rl1 (re.mono rl e1) as S3 k3 _ fun m2 H2 vs rl2 e2 rvs => ?_⟩
  exact h2 rl2 (rv.mono rl1 e2) rvs d S' h''' Q fun m4 H4 w rl4 e4 rw' => q m4 H4 w rl4 ((e1.trans e2).trans e4) rw'
end
def mAppend (a : D) (as : List D) : M D := fun S => match a, as with
  | .ref i, [d] => match S[i]? with
    | some (.lst xs) => if xs.length < sizeLine then some (.non, S.set i (.lst (xs ++ [d]))) else none
    | _ => none
  | _, _ => none
theorem m_append : DM X "list" "list.append" rAppend mAppend := ⟨mt_append, fun m S H x a xs as rl ra ras d S' h Q q => by
  unfold mAppend at h
  split at h
  · split at h
    · split at h
      · cases h
        rename_i i d' _ ys e c
        obtain ⟨v, rfl, rv⟩ := ras.one
        obtain ⟨p, vs, rfl, hp, h2, h3⟩ := rl.sqL e ra
        obtain ⟨a1, a2⟩ := rl.set hp (.lst (h3.snoc rv))
        exact ⟨p, vs, v, rfl, rfl, h2, by rw [← h3.length]; exact c, q m _ _ a1 a2 .non⟩
      · cases h
    · cases h
  · cases h⟩
def mIndexS (a : D) (as : List D) : M D := fun S => match a, as with
  | .str x, [.str y] => match Builtin.Str.occurrences x y 0 x.length 1 with
    | i :: _ => some (.int (i : Nat), S)
    | [] => none
  | _, _ => none
theorem m_indexS : DM X "str" "str.index" (fun x xs H Q => ∃ a b i rest, x = .str a ∧ xs = [.str b] ∧ Builtin.Str.occurrences a b 0 a.length 1 = i :: rest ∧ Q (.int (i : Nat)) H) mIndexS := ⟨mt_sindex, fun m S H x a xs as rl ra ras d S' h Q q => by
  unfold mIndexS at h
  split at h
  · split at h
    · cases h
      rename_i x' y' _ i r e
      obtain ⟨v, rfl, rv⟩ := ras.one
      cases ra
      cases rv
      exact ⟨_, _, i, r, rfl, rfl, e, q m H _ rl .refl (.int _)⟩
    · cases h
  · cases h⟩
end
end TS
set_option Elab.async false
set_option linter.all false
set_option maxRecDepth 100000
namespace TS
open PySem PySem.Spec PyProof.Rows L2
inductive Fl where
  | nx | rt (d : D) | bk | ct
def Fin (K : PySem.W.Frag) (m : List Addr) (H : Hp) (S' : Store) (fl : Fl) (env' : SEnv) (D : Ends) : Prop := match fl with
  | .nx => ∀ m' H' σ', Rel K m' S' H' → Ext m H m' H' → RelE K m' H' env' σ' → D.nx σ' H'
  | .bk => ∀ m' H' σ', Rel K m' S' H' → Ext m H m' H' → RelE K m' H' env' σ' → D.bk σ' H'
  | .ct => ∀ m' H' σ', Rel K m' S' H' → Ext m H m' H' → RelE K m' H' env' σ' → D.ct σ' H'
  | .rt d => ∀ m' H' v, Rel K m' S' H' → Ext m H m' H' → Rep K m' H' d v → D.rt v H'
def SS (K : PySem.W.Frag) (t : TS) (f : SEnv → M (Fl × SEnv)) : Prop := ∀ ⦃m : List Addr⦄ ⦃S : Store⦄ ⦃H : Hp⦄ ⦃env : SEnv⦄ ⦃σ : L2.St⦄, Rel K m S H → RelE K m H env σ → ∀ fl env' S', f env S = some ((fl, env'), S') → ∀ D : Ends, Fin K m H S' fl env' D → t D σ H
structure DS (X : Cx) (st : Stmt) (t : TS) (f : SEnv → M (Fl × SEnv)) : Prop where
  ps : PS X st t
  ss : SS X.K t f
structure DSs (X : Cx) (sts : List Stmt) (t : TS) (f : SEnv → M (Fl × SEnv)) : Prop where
  ps : PSs X sts t
  ss : SS X.K t f
/-- which slots may have changed -/
def Off (ws : List Nat) (σ σ' : L2.St) : Prop := σ'.length = σ.length ∧ ∀ i, i ∉ ws → σ'[i]? = σ[i]?
theorem Off.refl {ws : List Nat} {σ : L2.St} : Off ws σ σ := ⟨rfl, fun _ _ => rfl⟩
theorem wipe_at : ∀ (σ : L2.St) (vs : List Nat) (i : Nat), (wipe σ vs)[i]? = if i ∈ vs ∧ i < σ.length then some none else σ[i]?
  | σ, [], i => by simp [wipe]
  | σ, v :: vs, i => by
    show ((wipe σ vs).set v none)[i]? = _
    rw [List.getElem?_set, wipe_length, wipe_at σ vs i]
    by_cases h : v = i
    · subst h
      by_cases hl : v < σ.length
      · simp [hl]
      · simp [hl]
    · have h' : ¬ i = v := fun z => h z.symm
      simp [h, h', List.mem_cons]
theorem Off.wipe {ws : List Nat} {σ σ' : L2.St} (h : Off ws σ σ') : L2.wipe σ' ws = L2.wipe σ ws := by
  apply List.ext_getElem?
  intro i
  rw [wipe_at, wipe_at, h.1]
  by_cases hi : i ∈ ws
  · by_cases hl : i < σ.length
    · simp [hi, hl]
    · rw [if_neg (by simp [hl]), if_neg (by simp [hl]), List.getElem?_eq_none (by rw [h.1]; omega), List.getElem?_eq_none (by omega)]
  · rw [if_neg (by simp [hi]), if_neg (by simp [hi]), h.2 i hi]
theorem wipe_wipe (σ : L2.St) (ws : List Nat) : L2.wipe (L2.wipe σ ws) ws = L2.wipe σ ws := by
  apply List.ext_getElem?
  intro i
  rw [wipe_at, wipe_at, wipe_length]
  by_cases hi : i ∈ ws ∧ i < σ.length
  · simp [hi]
  · simp [hi]
structure DG (X : Cx) (tg : Expr) (ws : List Nat) (t : TG) (f : D → SEnv → M SEnv) : Prop where
  pg : PG X tg t
  sg : ∀ ⦃m : List Addr⦄ ⦃S : Store⦄ ⦃H : Hp⦄ ⦃env : SEnv⦄ ⦃σ : L2.St⦄ ⦃d : D⦄ ⦃v : V⦄, Rel X.K m S H → RelE X.K m H env σ → Rep X.K m H d v → ∀ env' S', f d env S = some (env', S') →
    ∀ Q : L2.St → Hp → Prop, (∀ m' H' σ', Rel X.K m' S' H' → Ext m H m' H' → RelE X.K m' H' env' σ' → Off ws σ σ' → Q σ' H') → t v σ H Q
structure DGs (X : Cx) (tgs : List Expr) (ws : List Nat) (t : TGs) (f : List D → SEnv → M SEnv) : Prop where
  pg : PGs X tgs t
  sg : ∀ ⦃m : List Addr⦄ ⦃S : Store⦄ ⦃H : Hp⦄ ⦃env : SEnv⦄ ⦃σ : L2.St⦄ ⦃ds : List D⦄ ⦃vs : List V⦄, Rel X.K m S H → RelE X.K m H env σ → Reps X.K m H ds vs → ∀ env' S', f ds env S = some (env', S') →
    ∀ Q : L2.St → Hp → Prop, (∀ m' H' σ', Rel X.K m' S' H' → Ext m H m' H' → RelE X.K m' H' env' σ' → Off ws σ σ' → Q σ' H') → t vs σ H Q
section
variable {X : Cx} {K : PySem.W.Frag} {m m' m2 m1 : List Addr} {S S' S2 : Store} {H H' H2 H1 : Hp} {env env' : SEnv} {σ : L2.St} {pos : Pos} {fl : Fl}
theorem Fin.mono {En : Ends} (e : Ext m H m1 H1) (h : Fin K m H S' fl env' En) : Fin K m1 H1 S' fl env' En := by
  cases fl <;> exact fun m' H' x r f q => h m' H' x r (e.trans f) q
/-! ### blocks -/
def sNx : SEnv → M (Fl × SEnv) := fun env => ret (.nx, env)
def sSeq (f g : SEnv → M (Fl × SEnv)) : SEnv → M (Fl × SEnv) := fun env => bnd (f env) fun r => match r.1 with
  | .nx => g r.2
  | _ => ret r
theorem dss_nil : DSs X [] tNext sNx := ⟨pss_nil, fun m S H env σ rl re fl env' S' h D q => by
  cases h
  exact q m H σ rl .refl re⟩
theorem dss_cons {st : Stmt} {rest : List Stmt} {t u : TS} {f g : SEnv → M (Fl × SEnv)} (h1 : DS X st t f) (h2 : DSs X rest u g) : DSs X (st :: rest) (tSeq t u) (sSeq f g) := ⟨pss_cons h1.ps h2.ps, fun m S H env σ rl re fl env' S' h D q => by
  obtain ⟨⟨fl1, env1⟩, S1, e1, h'⟩ := bnd_some h
  refine h1.ss rl re fl1 env1 S1 e1 _ ?_
  cases fl1 with
  | nx => exact fun m1 H1 σ1 rl1 x1 re1 => h2.ss rl1 re1 fl env' S' h' D (q.mono x1)
  | rt d => cases h'; exact q
  | bk => cases h'; exact q
  | ct => cases h'; exact q⟩
theorem dss_one {st : Stmt} {t : TS} {f : SEnv → M (Fl × SEnv)} (h1 : DS X st t f) : DSs X [st] t f := ⟨pss_one h1.ps, h1.ss⟩
/-! ### plain statements -/
def sDrop (f : SEnv → M D) : SEnv → M (Fl × SEnv) := fun env => bnd (f env) fun _ => ret (.nx, env)
def sRet (f : SEnv → M D) : SEnv → M (Fl × SEnv) := fun env => bnd (f env) fun d => ret (.rt d, env)
def sRetN : SEnv → M (Fl × SEnv) := fun env => ret (.rt .non, env)
def sBrk : SEnv → M (Fl × SEnv) := fun env => ret (.bk, env)
def sCnt : SEnv → M (Fl × SEnv) := fun env => ret (.ct, env)
def sIf (c : SEnv → M Bool) (f g : SEnv → M (Fl × SEnv)) : SEnv → M (Fl × SEnv) := fun env => bnd (c env) fun b => if b then f env else g env
def sFail : SEnv → M (Fl × SEnv) := fun _ => fail
theorem ds_expr {e : Expr} {te : TE} {f : SEnv → M D} (h : DE X e te f) (hs : swapsWith e none pos.line X.env = pure false := by rfl) : DS X (.Expr e pos) (tDrop te) (sDrop f) := ⟨ps_expr h.pe hs, fun m S H env σ rl re fl env' S' hh D q => by
  obtain ⟨d, S1, e1, h'⟩ := bnd_some hh
  cases h'
  exact h.se rl re d _ e1 _ fun m1 H1 v rl1 x1 _ => q m1 H1 σ rl1 x1 (re.mono rl x1)⟩
theorem ds_ret {e : Expr} {te : TE} {f : SEnv → M D} (h : DE X e te f) : DS X (.Return (some e) pos) (tRet te) (sRet f) := ⟨ps_ret h.pe, fun m S H env σ rl re fl env' S' hh D q => by
  obtain ⟨d, S1, e1, h'⟩ := bnd_some hh
  cases h'
  exact h.se rl re d _ e1 _ fun m1 H1 v rl1 x1 rv => q m1 H1 v rl1 x1 rv⟩
theorem ds_retN : DS X (.Return none pos) tRetN sRetN := ⟨ps_retN, fun m S H env σ rl re fl env' S' hh D q => by
  cases hh
  exact q m H _ rl .refl .non⟩
theorem ds_pass : DS X (.Pass pos) tNext sNx := ⟨ps_pass, dss_nil.ss⟩
theorem ds_doc {x j pos'} : DS X (.Expr (.Constant (.str x) j pos) pos') tNext sNx := ⟨ps_doc, dss_nil.ss⟩
theorem ds_break : DS X (.Break pos) tBreak sBrk := ⟨ps_break, fun m S H env σ rl re fl env' S' hh D q => by
  cases hh
  exact q m H σ rl .refl re⟩
theorem ds_continue : DS X (.Continue pos) tCont sCnt := ⟨ps_continue, fun m S H env σ rl re fl env' S' hh D q => by
  cases hh
  exact q m H σ rl .refl re⟩
theorem ds_if {c : Expr} {a b : List Stmt} {tc : TT} {t u : TS} {fc : SEnv → M Bool} {f g : SEnv → M (Fl × SEnv)} (hc : DT X c tc fc) (ha : DSs X a t f) (hb : DSs X b u g) : DS X (.If c a b pos) (tIfS tc t u) (sIf fc f g) := ⟨ps_if hc.pt ha.ps hb.ps, fun m S H env σ rl re fl env' S' h D q => by
  obtain ⟨b, S1, e1, h'⟩ := bnd_some h
  refine hc.st rl re b S1 e1 _ fun m1 H1 rl1 x1 => ?_
  cases b with
  | true => exact iteT (ha.ss rl1 (re.mono rl x1) fl env' S' h' D (q.mono x1))
  | false => exact iteF (hb.ss rl1 (re.mono rl x1) fl env' S' h' D (q.mono x1))⟩
theorem ds_never {st : Stmt} : DS X st tNever sFail := ⟨ps_never, fun m S H env σ rl re fl env' S' h D q => by cases h⟩
/-! ### targets -/
def gN (i : Nat) : D → SEnv → M SEnv := fun d env => ret (env.set i (some d))
theorem dg_name (i : Nat) {x : Str} (hN : X.N.Nodup) (hi : X.N[i]? = some x := by rfl) (hx : Loc X.env.scope x := by first | exact Or.inl rfl | exact Or.inr rfl) (hf : X.fn x = true ∨ X.env.scope.names.lookup x = some .local := by first | exact .inl rfl | exact .inr rfl | assumption) : DG X (.Name x pos) [i] (gName i) (gN i) :=
  ⟨pg_name hN hi hx hf, fun m S H env σ d v rl re rv env' S' h Q q => by
    cases h
    exact q m H _ rl .refl (re.set rv) ⟨by rw [List.length_set], fun j hj => List.getElem?_set_ne (fun z => hj (by rw [z]; exact List.mem_singleton.mpr rfl))⟩⟩
def gsNil : List D → SEnv → M SEnv := fun ds env => match ds with
  | [] => ret env
  | _ => fail
def gsCons (f : D → SEnv → M SEnv) (g : List D → SEnv → M SEnv) : List D → SEnv → M SEnv := fun ds env => match ds with
  | d :: r => bnd (f d env) (g r)
  | [] => fail
theorem dgs_nil : DGs X [] [] gNil gsNil := ⟨pgs_nil, fun m S H env σ ds vs rl re rv env' S' h Q q => by
  cases rv with
  | nil =>
    cases h
    exact ⟨rfl, q m H σ rl .refl re .refl⟩
  | cons _ _ => cases h⟩
theorem Off.trans {ws us : List Nat} {σ σ1 σ2 : L2.St} (a : Off ws σ σ1) (b : Off us σ1 σ2) : Off (ws ++ us) σ σ2 := ⟨b.1.trans a.1, fun i hi => (b.2 i (fun z => hi (List.mem_append_right _ z))).trans (a.2 i (fun z => hi (List.mem_append_left _ z)))⟩
theorem dgs_cons {e : Expr} {es : List Expr} {ws us : List Nat} {t : TG} {u : TGs} {f : D → SEnv → M SEnv} {g : List D → SEnv → M SEnv} (h1 : DG X e ws t f) (h2 : DGs X es us u g)
    (hs : (assignEach (e :: es) X.env).map (·.2) = assign e X.env :: (assignEach es X.env).map (·.2) := by rfl) : DGs X (e :: es) (ws ++ us) (gCons t u) (gsCons f g) := ⟨pgs_cons h1.pg h2.pg hs, fun m S H env σ ds vs rl re rv env' S' h Q q => by
  cases rv with
  | nil => cases h
  | cons r rs =>
    obtain ⟨env1, S1, e1, h'⟩ := bnd_some h
    refine ⟨_, _, rfl, h1.sg rl re r env1 S1 e1 _ fun m1 H1 σ1 rl1 x1 re1 o1 => ?_⟩
    exact h2.sg rl1 re1 (rs.mono rl x1) env' S' h' Q fun m2 H2 σ2 rl2 x2 re2 o2 => q m2 H2 σ2 rl2 (x1.trans x2) re2 (o1.trans o2)⟩
/-- a, b = a tuple -/
def gTupM (n : Nat) (f : List D → SEnv → M SEnv) : TS.D → SEnv → M SEnv := fun d env => match d with
  | .tup ds => if ds.length = n then f ds env else fail
  | _ => fail
theorem dg_tup {es : List Expr} {k : Nat} {ws : List Nat} {t : TGs} {n : Nat} {f : List TS.D → SEnv → M SEnv} (hc : X.calm = true) (h : DGs X es ws t f)
    (hn : (assignEach es X.env).length = n := by rfl) (hst : (assignEach es X.env).findIdx? (·.1) = none := by rfl) : DG X (.Tuple es k pos) ws (gTup X.K n t) (gTupM n f) := ⟨pg_tup hc h.pg hn hst, fun m S H env σ d v rl re rv env' S' hh Q q => by
  cases rv with
  | tup h1 h2 =>
    unfold gTupM at hh
    simp only at hh
    split at hh
    · rename_i c
      exact ⟨_, _, rfl, h1, by rw [← h2.length]; exact c, h.sg rl re h2 env' S' hh Q q⟩
    · cases hh
  | _ => cases hh⟩
/-- xs[i] = v -/
def gSubM (g : TS.D → TS.D → TS.D → M Unit) (fo fi : SEnv → M TS.D) : TS.D → SEnv → M SEnv := fun d env => bnd (fo env) fun o => bnd (fi env) fun i => bnd (g o i d) fun _ => ret env
structure DSet (X : Cx) (t : TSet) (g : TS.D → TS.D → TS.D → M Unit) : Prop where
  ps : PSet X t
  sr : ∀ ⦃m : List Addr⦄ ⦃S : Store⦄ ⦃H : Hp⦄ ⦃o i v : V⦄ ⦃a b d : TS.D⦄, Rel X.K m S H → Rep X.K m H a o → Rep X.K m H b i → Rep X.K m H d v → ∀ S', g a b d S = some ((), S') → ∀ Q : Hp → Prop, (∀ m' H', Rel X.K m' S' H' → Ext m H m' H' → Q H') → t o i v H Q
theorem dg_sub {o i : Expr} {to ti : TE} {t : TSet} {g : TS.D → TS.D → TS.D → M Unit} {fo fi : SEnv → M TS.D} (ho : DE X o to fo) (hi : DE X i ti fi) (hs : DSet X t g)
    (ha : ∀ v, assign (.Subscript o i pos) X.env v = (do
      let ov ← holding [v] (eval o X.env)
      let iv ← holding [v, ov] (eval i X.env)
      standAt pos
      holding [v, ov, iv] (setItem ov iv v)
      release [v, ov, iv] []) := by intro _; rfl) : DG X (.Subscript o i pos) [] (gSub to ti t) (gSubM g fo fi) := ⟨pg_sub ho.pe hi.pe hs.ps ha, fun m S H env σ d v rl re rv env' S' h Q q => by
  obtain ⟨a, S1, e1, h1⟩ := bnd_some h
  obtain ⟨b, S2, e2, h2⟩ := bnd_some h1
  obtain ⟨_, S3, e3, h3⟩ := bnd_some h2
  cases h3
  refine ho.se rl re a S1 e1 _ fun m1 H1 x rl1 x1 ra => ?_
  refine hi.se rl1 (re.mono rl x1) b S2 e2 _ fun m2 H2 y rl2 x2 rb => ?_
  refine hs.sr rl2 (ra.mono rl1 x2) rb (rv.mono rl (x1.trans x2)) _ e3 _ fun m3 H3 rl3 x3 => ?_
  exact q m3 H3 σ rl3 ((x1.trans x2).trans x3) (re.mono rl ((x1.trans x2).trans x3)) .refl⟩
def setLM (a b d : TS.D) : M Unit := fun S => match a, b with
  | .ref r, .int k => match S[r]? with
    | some (.lst xs) => match ixN xs.length k with
      | some j => some ((), S.set r (.lst (xs.set j d)))
      | none => none
    | _ => none
  | _, _ => none
theorem set_l : DSet X rSetL setLM := ⟨set_list, fun m S H o i v a b d rl ra rb rd S' h Q q => by
  unfold setLM at h
  split at h
  · split at h
    · split at h
      · cases h
        rename_i r k _ xs e _ j e2
        obtain ⟨p, vs, rfl, hp, h2, h3⟩ := rl.sqL e ra
        cases rb
        obtain ⟨a1, a2⟩ := rl.set hp (.lst (h3.set rd j))
        exact ⟨p, vs, k, j, rfl, rfl, h2, by rw [← h3.length]; exact e2, q _ _ a1 a2⟩
      · cases h
    · cases h
  · cases h⟩
/-! ### assignments -/
def sAsg (f : SEnv → M TS.D) (g : TS.D → SEnv → M SEnv) : SEnv → M (Fl × SEnv) := fun env => bnd (f env) fun d => bnd (g d env) fun env' => ret (.nx, env')
theorem ss_asg {te : TE} {f : SEnv → M TS.D} {tg : Expr} {ws : List Nat} {t : TG} {g : TS.D → SEnv → M SEnv} (h : SE X.K te f) (hg : DG X tg ws t g) : SS X.K (tAsg te t) (sAsg f g) := fun m S H env σ rl re fl env' S' hh D q => by
  obtain ⟨d, S1, e1, h1⟩ := bnd_some hh
  obtain ⟨env1, S2, e2, h2⟩ := bnd_some h1
  cases h2
  refine h rl re d S1 e1 _ fun m1 H1 v rl1 x1 rv => ?_
  exact hg.sg rl1 (re.mono rl x1) rv _ _ e2 _ fun m2 H2 σ2 rl2 x2 re2 _ => q m2 H2 σ2 rl2 (x1.trans x2) re2
theorem ds_set (i : Nat) {x : Str} {e : Expr} {te : TE} {f : SEnv → M TS.D} {pos' : Pos} (hN : X.N.Nodup) (he : DE X e te f) (hi : X.N[i]? = some x := by rfl) (hx : Loc X.env.scope x := by first | exact Or.inl rfl | exact Or.inr rfl) (hs : swapsWith e (some (.Name x pos')) pos.line X.env = pure false := by rfl) (hf : X.fn x = true ∨ X.env.scope.names.lookup x = some .local := by first | exact .inl rfl | exact .inr rfl | assumption) :
    DS X (.Assign [.Name x pos'] e pos) (tAsg te (gName i)) (sAsg f (gN i)) := ⟨ps_set hN hi hx he.pe hs hf, ss_asg he.se (dg_name (pos := pos') i hN hi hx hf)⟩
theorem ds_asg {tg e : Expr} {te : TE} {f : SEnv → M TS.D} {ws : List Nat} {g : TG} {fg : TS.D → SEnv → M SEnv} (he : DE X e te f) (hg : DG X tg ws g fg) (hs : swapsWithSole [tg] e pos.line X.env = pure false := by rfl) (hw : swappedStores [tg] e X.env = pure none := by rfl)
    (h1 : (assignEach [tg] X.env).map (·.2) = [assign tg X.env] := by rfl) : DS X (.Assign [tg] e pos) (tAsg te g) (sAsg f fg) := ⟨ps_asg he.pe hg.pg hs hw h1, ss_asg he.se hg⟩
/-- name op= e -/
def sAug (i : Nat) (f : SEnv → M TS.D) (g : TS.D → TS.D → M TS.D) : SEnv → M (Fl × SEnv) := fun env => bnd (eVar i env) fun a => bnd (f env) fun b => bnd (g a b) fun d => ret (.nx, env.set i (some d))
theorem ds_aug (i : Nat) {x : Str} {e : Expr} {te : TE} {f : SEnv → M TS.D} {op : Operator} {r : R2} {g : TS.D → TS.D → M TS.D} {pos' : Pos} (hN : X.N.Nodup) (he : DE X e te f) (ho : DO2 X (inplaceOp op) r g) (hi : X.N[i]? = some x := by rfl) (hx : Loc X.env.scope x := by first | exact Or.inl rfl | exact Or.inr rfl) (hf : X.fn x = true ∨ X.env.scope.names.lookup x = some .local := by first | exact .inl rfl | exact .inr rfl | assumption) :
    DS X (.AugAssign (.Name x pos') op e pos) (tAug i te r) (sAug i f g) := ⟨ps_aug hN hi hx he.pe ho.op hf, fun m S H env σ rl re fl env' S' hh D q => by
  obtain ⟨a, S1, e1, h1⟩ := bnd_some hh
  obtain ⟨b, S2, e2, h2⟩ := bnd_some h1
  obtain ⟨d, S3, e3, h3⟩ := bnd_some h2
  cases h3
  unfold eVar at e1
  cases e : env[i]? with
  | none => rw [e] at e1; cases e1
  | some o =>
    cases o with
    | none => rw [e] at e1; cases e1
    | some d' =>
      rw [e] at e1
      cases e1
      obtain ⟨v, q1, q2⟩ := re.get i _ e
      refine ⟨v, q1, he.se rl re b S2 e2 _ fun m1 H1 y rl1 x1 rb => ?_⟩
      refine ho.sr rl1 (q2.mono rl x1) rb d _ e3 _ fun m2 H2 z rl2 x2 rd => ?_
      exact q m2 H2 _ rl2 (x1.trans x2) ((re.mono rl (x1.trans x2)).set rd)⟩
/-! ### what is walked -/
abbrev Gd := List (Nat × List TS.D)
def gdOk (S : Store) (g : Gd) : Prop := ∀ p ∈ g, S[p.1]? = some (.lst p.2)
theorem gdOk_nil (S : Store) : gdOk S [] := fun _ h => nomatch h
def WalkD (K : PySem.W.Frag) (m : List Addr) (H : Hp) (J : It) (xs : List TS.D) (g : Gd) : Prop :=
  Walk J xs.length (fun H2 => ∃ m2 S2, Rel K m2 S2 H2 ∧ Ext m H m2 H2 ∧ gdOk S2 g)
    (fun i H2 x H3 => ∀ m2 S2, Rel K m2 S2 H2 → Ext m H m2 H2 → gdOk S2 g → ∃ d, xs[i]? = some d ∧ Rel K m2 S2 H3 ∧ Ext m2 H2 m2 H3 ∧ Rep K m2 H3 d x)
structure DI (X : Cx) (tg e : Expr) (t : TI) (f : SEnv → M (List TS.D × Gd)) : Prop where
  pi : PI X tg e t
  si : ∀ ⦃m : List Addr⦄ ⦃S : Store⦄ ⦃H : Hp⦄ ⦃env : SEnv⦄ ⦃σ : L2.St⦄, Rel X.K m S H → RelE X.K m H env σ → ∀ xs g S', f env S = some ((xs, g), S') → ∀ R : It → Hp → Prop, (∀ m' H' J, Rel X.K m' S' H' → Ext m H m' H' → WalkD X.K m' H' J xs g → R J H') → t σ H R
open Classical in
noncomputable def gdM {α : Type} (g : Gd) (k : M α) : M α := fun S => if gdOk S g then k S else none
theorem gdM_some {α : Type} {g : Gd} {k : M α} {r : α × Store} (h : gdM g k S = some r) : gdOk S g ∧ k S = some r := by
  unfold gdM at h
  split at h
  · exact ⟨by assumption, h⟩
  · cases h
theorem gdM_nil {α : Type} {k : M α} : gdM [] k = k := by
  funext S
  unfold gdM
  rw [if_pos (gdOk_nil S)]
noncomputable def loopM (g : Gd) (tgt : TS.D → SEnv → M SEnv) (body : SEnv → M (Fl × SEnv)) : List TS.D → SEnv → M (Fl × SEnv)
  | [], env => gdM g (ret (.nx, env))
  | x :: xs, env => gdM g (bnd (tgt x env) fun env1 => bnd (body env1) fun r => match r.1 with
    | .nx => loopM g tgt body xs r.2
    | .ct => loopM g tgt body xs r.2
    | .bk => ret (.nx, r.2)
    | .rt d => ret (.rt d, r.2))
noncomputable def sFor (fi : SEnv → M (List TS.D × Gd)) (tgt : TS.D → SEnv → M SEnv) (body : SEnv → M (Fl × SEnv)) : SEnv → M (Fl × SEnv) := fun env => bnd (fi env) fun p => loopM p.2 tgt body p.1 env
theorem drop_at {α : Type} {xs : List α} {i : Nat} {d : α} (h : xs[i]? = some d) : xs.drop i = d :: xs.drop (i + 1) := by
  obtain ⟨hl, e⟩ := List.getElem?_eq_some_iff.mp h
  rw [List.drop_eq_getElem_cons hl, e]
theorem ds_for {tg iter : Expr} {body : List Stmt} {wi : TI} {ws : List Nat} {g : TG} {tb : TS} {fi : SEnv → M (List TS.D × Gd)} {fg : TS.D → SEnv → M SEnv} {fb : SEnv → M (Fl × SEnv)} (hp : PassesOwn (model X.prog X.w) X.A X.env X.xe) (hc : X.calm = true) (hi : DI X tg iter wi fi) (hg : DG X tg ws g fg) (hb : DSs X body tb fb)
    (hs : ∀ x, foldedSetIterable iter X.env x = pure x := by intro _; rfl) : DS X (.For tg iter body [] pos) (tFor wi g tb) (sFor fi fg fb) := ⟨ps_for hp hc hi.pi hg.pg hb.ps hs, fun m S H env σ rl re fl env' S' hh D q => by
  obtain ⟨⟨xs, gd⟩, S1, e1, h1⟩ := bnd_some hh
  refine hi.si rl re xs gd S1 e1 _ fun m1 H1 J rl1 x1 w => ?_
  refine for_it w (fun i σ2 H2 => ∃ m2 S2 env2, Rel X.K m2 S2 H2 ∧ Ext m1 H1 m2 H2 ∧ RelE X.K m2 H2 env2 σ2 ∧ loopM gd fg fb (xs.drop i) env2 S2 = some ((fl, env'), S')) ⟨m1, S1, env, rl1, .refl, re.mono rl x1, h1⟩ ?_ ?_ ?_
  · rintro i σ2 H2 hl ⟨m2, S2, env2, rl2, x2, re2, h2⟩
    refine ⟨m2, S2, rl2, x2, ?_⟩
    cases e : xs.drop i with
    | nil => rw [e] at h2; exact (gdM_some h2).1
    | cons y ys => rw [e] at h2; exact (gdM_some h2).1
  · rintro i x σ2 H2 H3 hl ⟨m2, S2, env2, rl2, x2, re2, h2⟩ hy
    have hgd : gdOk S2 gd := by
      cases e : xs.drop i with
      | nil => rw [e] at h2; exact (gdM_some h2).1
      | cons y ys => rw [e] at h2; exact (gdM_some h2).1
    obtain ⟨d, hd, rl3, x3, rd⟩ := hy m2 S2 rl2 x2 hgd
    rw [drop_at hd] at h2
    have h3 := (gdM_some h2).2
    obtain ⟨env3, S4, e4, h4⟩ := bnd_some h3
    obtain ⟨⟨fl5, env5⟩, S5, e5, h5⟩ := bnd_some h4
    refine hg.sg rl3 (re2.mono rl2 x3) rd env3 S4 e4 _ fun m4 H4 σ4 rl4 x4 re4 _ => ?_
    have x24 := x3.trans x4
    refine hb.ss rl4 re4 fl5 env5 S5 e5 _ ?_
    cases fl5 with
    | nx => exact fun m6 H6 σ6 rl6 x6 re6 => ⟨m6, S5, env5, rl6, (x2.trans x24).trans x6, re6, h5⟩
    | ct => exact fun m6 H6 σ6 rl6 x6 re6 => ⟨m6, S5, env5, rl6, (x2.trans x24).trans x6, re6, h5⟩
    | bk =>
      cases h5
      exact fun m6 H6 σ6 rl6 x6 re6 => q m6 H6 σ6 rl6 (x1.trans ((x2.trans x24).trans x6)) re6
    | rt d =>
      cases h5
      exact fun m6 H6 v rl6 x6 rv => q m6 H6 v rl6 (x1.trans ((x2.trans x24).trans x6)) rv
  · rintro σ2 H2 ⟨m2, S2, env2, rl2, x2, re2, h2⟩
    rw [List.drop_length] at h2
    cases (gdM_some h2).2
    exact q m2 H2 σ2 rl2 (x1.trans x2) re2⟩
/-! ### while -/
def whileM (c : SEnv → M Bool) (b : SEnv → M (Fl × SEnv)) : Nat → SEnv → M (Fl × SEnv)
  | 0, _ => fail
  | n + 1, env => bnd (c env) fun k => if k then bnd (b env) fun r => match r.1 with
      | .nx => whileM c b n r.2
      | .ct => whileM c b n r.2
      | .bk => ret (.nx, r.2)
      | .rt d => ret (.rt d, r.2)
    else ret (.nx, env)
def sWhile (n : SEnv → Store → Nat) (c : SEnv → M Bool) (b : SEnv → M (Fl × SEnv)) : SEnv → M (Fl × SEnv) := fun env S => whileM c b (n env S) env S
theorem ds_while (n : SEnv → Store → Nat) {c : Expr} {body : List Stmt} {tc : TT} {tb : TS} {fc : SEnv → M Bool} {fb : SEnv → M (Fl × SEnv)} (hp : PassesOwn (model X.prog X.w) X.A X.env X.xe) (hc : DT X c tc fc) (hb : DSs X body tb fb) : DS X (.While c body [] pos) (tWhile tc tb) (sWhile n fc fb) := ⟨ps_while hp hc.pt hb.ps, fun m S H env σ rl re fl env' S' hh D q => by
  refine ⟨fun k σ2 H2 => ∃ m2 S2 env2, Rel X.K m2 S2 H2 ∧ Ext m H m2 H2 ∧ RelE X.K m2 H2 env2 σ2 ∧ whileM fc fb k env2 S2 = some ((fl, env'), S'), ⟨n env S, m, S, env, rl, .refl, re, hh⟩, ?_⟩
  rintro k σ2 H2 ⟨m2, S2, env2, rl2, x2, re2, h2⟩
  cases k with
  | zero => cases h2
  | succ k =>
    obtain ⟨b, S3, e3, h3⟩ := bnd_some h2
    refine hc.st rl2 re2 b S3 e3 _ fun m3 H3 rl3 x3 => ?_
    cases b with
    | true =>
      refine iteT ⟨fun σ4 H4 => ∃ m4 S4 env4, Rel X.K m4 S4 H4 ∧ Ext m H m4 H4 ∧ RelE X.K m4 H4 env4 σ4 ∧ whileM fc fb k env4 S4 = some ((fl, env'), S'), fun σ4 H4 h4 => ⟨k, Nat.lt_succ_self k, h4⟩, ?_⟩
      have h3' : bnd (fb env2) (fun r => match r.1 with
        | .nx => whileM fc fb k r.2
        | .ct => whileM fc fb k r.2
        | .bk => ret (.nx, r.2)
        | .rt d => ret (.rt d, r.2)) S3 = some ((fl, env'), S') := h3
      obtain ⟨⟨fl5, env5⟩, S5, e5, h5⟩ := bnd_some h3'
      refine hb.ss rl3 (re2.mono rl2 x3) fl5 env5 S5 e5 _ ?_
      cases fl5 with
      | nx => exact fun m6 H6 σ6 rl6 x6 re6 => ⟨m6, S5, env5, rl6, (x2.trans x3).trans x6, re6, h5⟩
      | ct => exact fun m6 H6 σ6 rl6 x6 re6 => ⟨m6, S5, env5, rl6, (x2.trans x3).trans x6, re6, h5⟩
      | bk =>
        cases h5
        exact fun m6 H6 σ6 rl6 x6 re6 => q m6 H6 σ6 rl6 ((x2.trans x3).trans x6) re6
      | rt d =>
        cases h5
        exact fun m6 H6 v rl6 x6 rv => q m6 H6 v rl6 ((x2.trans x3).trans x6) rv
    | false =>
      have h3' : ret (Fl.nx, env2) S3 = some ((fl, env'), S') := h3
      cases h3'
      exact iteF (q m3 H3 σ2 rl3 (x2.trans x3) (re2.mono rl2 x3))⟩
end
end TS
set_option Elab.async false
set_option linter.all false
set_option maxRecDepth 100000
namespace TS
open PySem PySem.Spec PyProof.Rows L2
section
variable {X : Cx} {K : PySem.W.Frag} {m m' m2 m1 : List Addr} {S S' S2 : Store} {H H' H2 H1 : Hp} {env env' : SEnv} {σ : L2.St} {pos : Pos} {fl : Fl}
/-! ### lists, tuples, texts, ranges walked -/
/-- for x in a list or a tuple -/
def iLstM (f : SEnv → M D) : SEnv → M (List D × Gd) := fun env => bnd (f env) fun d S => match d with
  | .fl xs => some ((xs, []), S)
  | .ref r => match S[r]? with
    | some (.lst xs) => some ((xs, [(r, xs)]), S)
    | _ => none
  | _ => none
theorem fzL_unique_len {a : Addr} {vs : List V} (h : FzL K H a vs) : SqL K H a vs := h.sq
theorem walk_fl {a : Addr} {vs : List V} {xs : List D} (rl : Rel K m S H) (h1 : FzL K H a vs) (h2 : Reps K m H xs vs) : WalkD K m H (Itl K a) xs [] := by
  refine ⟨fun i H2 hi ⟨m2, S2, rl2, x2, _⟩ => ?_, fun H2 ⟨m2, S2, rl2, x2, _⟩ => ?_, fun i H2 x H3 hi _ y m2 S2 rl2 x2 _ => ?_⟩
  · have hs := (rl.fzL x2 h1).sq
    have hv : i < vs.length := by rw [← h2.length]; exact hi
    exact ⟨vs, vs[i], hs, by rw [List.getElem?_eq_getElem hv]⟩
  · have hs := (rl.fzL x2 h1).sq
    exact ⟨vs, hs, by rw [h2.length]; exact Nat.le_refl _⟩
  · have hs := (rl.fzL x2 h1).sq
    obtain ⟨rfl, e⟩ := y
    have e2 := e vs hs
    obtain ⟨v, h3, h4⟩ := h2.get (List.getElem?_eq_getElem hi)
    rw [e2] at h3
    cases h3
    exact ⟨_, List.getElem?_eq_getElem hi, rl2, .refl, h4.mono rl x2⟩
theorem walk_ref {r : Nat} {a : Addr} {xs : List D} (ha : m[r]? = some a) : WalkD K m H (Itl K a) xs [(r, xs)] := by
  have key : ∀ {m2 : List Addr} {S2 : Store} {H2 : Hp}, Rel K m2 S2 H2 → Ext m H m2 H2 → gdOk S2 [(r, xs)] → ∃ vs, SqL K H2 a vs ∧ Reps K m2 H2 xs vs := fun rl2 x2 g => by
    have e := g (r, xs) (List.mem_singleton.mpr rfl)
    obtain ⟨p, u, q1, q2, q3⟩ := rl2.at e
    rw [x2.at ha] at q1
    cases q1
    cases q3 with
    | lst q3 => exact ⟨_, .inl (.inl q2), q3⟩
  refine ⟨fun i H2 hi ⟨m2, S2, rl2, x2, g⟩ => ?_, fun H2 ⟨m2, S2, rl2, x2, g⟩ => ?_, fun i H2 x H3 hi _ y m2 S2 rl2 x2 g => ?_⟩
  · obtain ⟨vs, hs, h2⟩ := key rl2 x2 g
    have hv : i < vs.length := by rw [← h2.length]; exact hi
    exact ⟨vs, vs[i], hs, by rw [List.getElem?_eq_getElem hv]⟩
  · obtain ⟨vs, hs, h2⟩ := key rl2 x2 g
    exact ⟨vs, hs, by rw [h2.length]; exact Nat.le_refl _⟩
  · obtain ⟨vs, hs, h2⟩ := key rl2 x2 g
    obtain ⟨rfl, e⟩ := y
    have e2 := e vs hs
    obtain ⟨v, h3, h4⟩ := h2.get (List.getElem?_eq_getElem hi)
    rw [e2] at h3
    cases h3
    exact ⟨_, List.getElem?_eq_getElem hi, rl2, .refl, h4⟩
theorem di_lst {tg l : Expr} {tl : TE} {f : SEnv → M D} (h : DE X l tl f) : DI X tg l (iList X.K tl) (iLstM f) := ⟨pi_list h.pe, fun m S H env σ rl re xs g S' hh R q => by
  obtain ⟨d, S1, e1, h1⟩ := bnd_some hh
  refine h.se rl re d S1 e1 _ fun m1 H1 v rl1 x1 rv => ?_
  cases rv with
  | fl h2 h3 =>
    cases h1
    exact ⟨_, rfl, ⟨_, h2.sq⟩, q m1 H1 _ rl1 x1 (walk_fl rl1 h2 h3)⟩
  | @ref r a ha =>
    simp only at h1
    cases e : S1[r]? with
    | none => rw [e] at h1; cases h1
    | some o =>
      rw [e] at h1
      cases o with
      | lst ys =>
        cases h1
        obtain ⟨p, vs, q1, q2, q3, q4⟩ := rl1.sqL e (.ref ha)
        cases q1
        exact ⟨_, rfl, ⟨_, .inl (.inl q3)⟩, q m1 H1 _ rl1 x1 (walk_ref ha)⟩
      | _ => cases h1
  | _ => cases h1⟩
def iTupM (f : SEnv → M D) : SEnv → M (List D × Gd) := fun env => bnd (f env) fun d => match d with
  | .tup xs => ret (xs, [])
  | _ => fail
theorem walk_tupD {a : Addr} {vs : List V} {xs : List D} (rl : Rel K m S H) (h1 : SqT K H a vs) (h2 : Reps K m H xs vs) : WalkD K m H (Itt K a) xs [] := by
  refine ⟨fun i H2 hi ⟨m2, S2, rl2, x2, _⟩ => ?_, fun H2 ⟨m2, S2, rl2, x2, _⟩ => ?_, fun i H2 x H3 hi _ y m2 S2 rl2 x2 _ => ?_⟩
  · have hs := rl.sqT x2 h1
    have hv : i < vs.length := by rw [← h2.length]; exact hi
    exact ⟨vs, vs[i], hs, by rw [List.getElem?_eq_getElem hv]⟩
  · have hs := rl.sqT x2 h1
    exact ⟨vs, hs, by rw [h2.length]; exact Nat.le_refl _⟩
  · have hs := rl.sqT x2 h1
    obtain ⟨rfl, e⟩ := y
    have e2 := e vs hs
    obtain ⟨v, h3, h4⟩ := h2.get (List.getElem?_eq_getElem hi)
    rw [e2] at h3
    cases h3
    exact ⟨_, List.getElem?_eq_getElem hi, rl2, .refl, h4.mono rl x2⟩
theorem di_tup {tg l : Expr} {tl : TE} {f : SEnv → M D} (h : DE X l tl f) : DI X tg l (iTup X.K tl) (iTupM f) := ⟨pi_tup h.pe, fun m S H env σ rl re xs g S' hh R q => by
  obtain ⟨d, S1, e1, h1⟩ := bnd_some hh
  refine h.se rl re d S1 e1 _ fun m1 H1 v rl1 x1 rv => ?_
  cases rv with
  | tup h2 h3 =>
    cases h1
    exact ⟨_, rfl, ⟨_, h2⟩, q m1 H1 _ rl1 x1 (walk_tupD rl1 h2 h3)⟩
  | _ => cases h1⟩
def signs (x : Str) : List D := x.cps.toList.map fun c => .str ⟨#[c]⟩
def iStrM (f : SEnv → M D) : SEnv → M (List D × Gd) := fun env => bnd (f env) fun d => match d with
  | .str x => ret (signs x, [])
  | _ => fail
theorem walk_strD {x : Str} : WalkD K m H (Its x) (signs x) [] := by
  have hl : (signs x).length = x.cps.size := by unfold signs; rw [List.length_map, Array.length_toList]
  refine ⟨fun i H2 hi _ => by rw [hl] at hi; exact hi, fun H2 _ => by rw [hl]; exact Nat.le_refl _, fun i H2 v H3 hi _ y m2 S2 rl2 x2 _ => ?_⟩
  obtain ⟨rfl, c, hc, rfl⟩ := y
  refine ⟨.str ⟨#[c]⟩, ?_, rl2, .refl, .str _⟩
  unfold signs
  rw [List.getElem?_map, Array.getElem?_toList, hc]
  rfl
theorem di_str {tg l : Expr} {tl : TE} {f : SEnv → M D} (h : DE X l tl f) : DI X tg l (iStr tl) (iStrM f) := ⟨pi_str h.pe, fun m S H env σ rl re xs g S' hh R q => by
  obtain ⟨d, S1, e1, h1⟩ := bnd_some hh
  refine h.se rl re d S1 e1 _ fun m1 H1 v rl1 x1 rv => ?_
  cases rv with
  | str x =>
    cases h1
    exact ⟨x, rfl, q m1 H1 _ rl1 x1 walk_strD⟩
  | _ => cases h1⟩
def rng (lo : Int) (n : Nat) : List D := (List.range n).map fun i => .int (lo + (i : Nat))
theorem walk_rngD {lo : Int} {n : Nat} : WalkD K m H (Itr lo n) (rng lo n) [] := by
  have hl : (rng lo n).length = n := by unfold rng; rw [List.length_map, List.length_range]
  refine ⟨fun i H2 hi _ => by rw [hl] at hi; exact hi, fun H2 _ => by rw [hl]; exact Nat.le_refl _, fun i H2 v H3 hi _ y m2 S2 rl2 x2 _ => ?_⟩
  obtain ⟨rfl, rfl⟩ := y
  rw [hl] at hi
  refine ⟨.int (lo + (i : Nat)), ?_, rl2, .refl, .int _⟩
  unfold rng
  rw [List.getElem?_map, List.getElem?_range hi]
  rfl
def iRg1M (f : SEnv → M (List D)) : SEnv → M (List D × Gd) := fun env => bnd (f env) fun d => match d with
  | [.int j] => if -(2 ^ 62) ≤ j ∧ j < 2 ^ 62 then ret (rng 0 j.toNat, []) else fail
  | _ => fail
def iRg2M (f : SEnv → M (List D)) : SEnv → M (List D × Gd) := fun env => bnd (f env) fun d => match d with
  | [.int i, .int j] => if -(2 ^ 62) ≤ i ∧ i < 2 ^ 62 ∧ -(2 ^ 62) ≤ j ∧ j < 2 ^ 62 then ret (rng i (j - i).toNat, []) else fail
  | _ => fail
theorem di_rg1 {tg a : Expr} {ta : TA} {f : SEnv → M (List D)} {p : Pos} (hm : X.mg "range" = none) (ha : DA X [a] ta f) (hg : Gl X "range" := by rfl) (hs : starEach [a] X.env = [(false, eval a X.env)] := by rfl) : DI X tg (.Call (.Name "range" p) [a] [] pos) (iRng1 ta) (iRg1M f) := ⟨pi_range1 hg hm ha.pa hs, fun m S H env σ rl re xs g S' hh R q => by
  obtain ⟨ds, S1, e1, h1⟩ := bnd_some hh
  refine ha.sa rl re ds S1 e1 _ fun m1 H1 vs rl1 x1 rv => ?_
  split at h1
  · split at h1
    · cases h1
      rename_i c
      obtain ⟨v, rfl, rw1⟩ := rv.one
      cases rw1
      exact ⟨_, rfl, c.1, c.2, q m1 H1 _ rl1 x1 walk_rngD⟩
    · cases h1
  · cases h1⟩
theorem di_rg2 {tg a b : Expr} {ta : TA} {f : SEnv → M (List D)} {p : Pos} (hm : X.mg "range" = none) (ha : DA X [a, b] ta f) (hg : Gl X "range" := by rfl) (hs : starEach [a, b] X.env = [(false, eval a X.env), (false, eval b X.env)] := by rfl) (hs2 : starEach [b] X.env = [(false, eval b X.env)] := by rfl) :
    DI X tg (.Call (.Name "range" p) [a, b] [] pos) (iRng2 ta) (iRg2M f) := ⟨pi_range2 hg hm ha.pa hs hs2, fun m S H env σ rl re xs g S' hh R q => by
  obtain ⟨ds, S1, e1, h1⟩ := bnd_some hh
  refine ha.sa rl re ds S1 e1 _ fun m1 H1 vs rl1 x1 rv => ?_
  split at h1
  · split at h1
    · cases h1
      rename_i c
      obtain ⟨v, u, rfl, rw1, ru⟩ := rv.two
      cases rw1
      cases ru
      exact ⟨_, _, rfl, c, q m1 H1 _ rl1 x1 walk_rngD⟩
    · cases h1
  · cases h1⟩
/-! ### list comprehensions -/
def wipeE (env : SEnv) : List Nat → SEnv
  | [] => env
  | v :: vs => (wipeE env vs).set v none
theorem RelE.wipe (h : RelE K m H env σ) : ∀ vs : List Nat, RelE K m H (wipeE env vs) (L2.wipe σ vs)
  | [] => h
  | v :: vs => by
    have ih := RelE.wipe h vs
    refine ⟨by show ((wipeE env vs).set v none).length = ((L2.wipe σ vs).set v none).length; rw [List.length_set, List.length_set]; exact ih.len, fun i d q => ?_⟩
    have q' : ((wipeE env vs).set v none)[i]? = some (some d) := q
    rw [List.getElem?_set] at q'
    show ∃ x, ((L2.wipe σ vs).set v none)[i]? = some (some x) ∧ _
    by_cases hv : v = i
    · rw [if_pos hv] at q'
      split at q' <;> cases q'
    · rw [if_neg hv] at q'
      rw [List.getElem?_set_ne hv]
      exact ih.get i d q'
structure DTs (X : Cx) (ifs : List Expr) (t : TT) (f : SEnv → M Bool) : Prop where
  pts : PTs X ifs t
  st : ST X.K t f
def bYes : SEnv → M Bool := fun _ => ret true
theorem dts_nil : DTs X [] tYes bYes := ⟨pts_nil, fun m S H env σ rl re b S' h Q q => by
  cases h
  exact q m H rl .refl⟩
theorem dts_one {c : Expr} {t : TT} {f : SEnv → M Bool} (h : DT X c t f) : DTs X [c] t f := ⟨pts_one h.pt, h.st⟩
def pushM (k : Nat) (d : D) : M Unit := fun S => match S[k]? with
  | some (.lst acc) => if acc.length < sizeLine then some ((), S.set k (.lst (acc ++ [d]))) else none
  | _ => none
def newLst : M Nat := fun S => some (S.length, S ++ [.lst []])
noncomputable def lcM (g : Gd) (k : Nat) (tgt : D → SEnv → M SEnv) (tt : SEnv → M Bool) (te : SEnv → M D) (env : SEnv) : List D → M D
  | [] => gdM g (ret (.ref k))
  | x :: xs => gdM g (bnd (tgt x env) fun env1 => bnd (tt env1) fun b => if b then bnd (te env1) fun d => bnd (pushM k d) fun _ => lcM g k tgt tt te env xs else lcM g k tgt tt te env xs)
noncomputable def eLc (fi : SEnv → M (List D × Gd)) (tgt : D → SEnv → M SEnv) (tt : SEnv → M Bool) (te : SEnv → M D) (vs : List Nat) : SEnv → M D := fun env => bnd (fi env) fun p => bnd newLst fun k => lcM p.2 k tgt tt te (wipeE env vs) p.1
theorem se_lc {K : PySem.W.Frag} {wi : TI} {g : TG} {ws : List Nat} {tt : TT} {te : TE} {fi : SEnv → M (List D × Gd)} {fg : D → SEnv → M SEnv} {ft : SEnv → M Bool} {fe : SEnv → M D}
    (hi : ∀ ⦃m : List Addr⦄ ⦃S : Store⦄ ⦃H : Hp⦄ ⦃env : SEnv⦄ ⦃σ : L2.St⦄, Rel K m S H → RelE K m H env σ → ∀ xs g S', fi env S = some ((xs, g), S') → ∀ R : It → Hp → Prop, (∀ m' H' J, Rel K m' S' H' → Ext m H m' H' → WalkD K m' H' J xs g → R J H') → wi σ H R)
    (hg : ∀ ⦃m : List Addr⦄ ⦃S : Store⦄ ⦃H : Hp⦄ ⦃env : SEnv⦄ ⦃σ : L2.St⦄ ⦃d : D⦄ ⦃v : V⦄, Rel K m S H → RelE K m H env σ → Rep K m H d v → ∀ env' S', fg d env S = some (env', S') →
      ∀ Q : L2.St → Hp → Prop, (∀ m' H' σ', Rel K m' S' H' → Ext m H m' H' → RelE K m' H' env' σ' → Off ws σ σ' → Q σ' H') → g v σ H Q)
    (ht : ST K tt ft) (he : SE K te fe) : SE K (tLc wi g tt te ws) (eLc fi fg ft fe ws) := fun m S H env σ rl re d S' hh Q q => by
  obtain ⟨⟨xs, gd⟩, S1, e1, h1⟩ := bnd_some hh
  refine hi rl re xs gd S1 e1 _ fun m1 H1 J rl1 x1 w => ?_
  intro D hD
  have h1' : lcM gd S1.length fg ft fe (wipeE env ws) xs (S1 ++ [.lst []]) = some (d, S') := h1
  obtain ⟨rl1', x1', rD⟩ := rl1.new (o := .lst []) (u := .lst []) hD (.lst .nil)
  have hk0 : (m1 ++ [D])[S1.length]? = some D := by
    rw [← rl1.len, List.getElem?_append_right (Nat.le_refl _), Nat.sub_self]
    rfl
  have hw1 := re.mono rl x1
  refine lc_it w (fun i H2 => ∃ m2 S2, Rel K m2 S2 H2 ∧ Ext (m1 ++ [D]) (upd H1 D (.lst [])) m2 H2 ∧ lcM gd S1.length fg ft fe (wipeE env ws) (xs.drop i) S2 = some (d, S')) ⟨_, _, rl1', .refl, h1'⟩ ?_ ?_ ?_
  · rintro i H2 hl ⟨m2, S2, rl2, x2, h2⟩
    refine ⟨m2, S2, rl2, x1'.trans x2, ?_⟩
    cases e : xs.drop i with
    | nil => rw [e] at h2; exact (gdM_some h2).1
    | cons y ys => rw [e] at h2; exact (gdM_some h2).1
  · rintro i x H2 H3 hl ⟨m2, S2, rl2, x2, h2⟩ hy
    have hgd : gdOk S2 gd := by
      cases e : xs.drop i with
      | nil => rw [e] at h2; exact (gdM_some h2).1
      | cons y ys => rw [e] at h2; exact (gdM_some h2).1
    obtain ⟨d1, hd, rl3, x3, rd⟩ := hy m2 S2 rl2 (x1'.trans x2) hgd
    rw [drop_at hd] at h2
    have h3 := (gdM_some h2).2
    obtain ⟨env3, S4, e4, h4⟩ := bnd_some h3
    obtain ⟨b, S5, e5, h5⟩ := bnd_some h4
    have rew : RelE K m2 H3 (wipeE env ws) (L2.wipe σ ws) := (hw1.mono rl1 (x1'.trans (x2.trans x3))).wipe ws
    refine hg rl3 rew rd env3 S4 e4 _ fun m4 H4 σ4 rl4 x4 re4 o4 => ⟨by rw [o4.wipe, wipe_wipe], ?_⟩
    refine ht rl4 re4 b S5 e5 _ fun m5 H5 rl5 x5 => ?_
    cases b with
    | true =>
      have h5' : bnd (fe env3) (fun d => bnd (pushM S1.length d) fun _ => lcM gd S1.length fg ft fe (wipeE env ws) (xs.drop (i + 1))) S5 = some (d, S') := h5
      obtain ⟨y, S6, e6, h6⟩ := bnd_some h5'
      obtain ⟨_, S7, e7, h7⟩ := bnd_some h6
      refine iteT (he rl5 (re4.mono rl4 x5) y S6 e6 _ fun m6 H6 v rl6 x6 rv => ?_)
      have x26 : Ext (m1 ++ [D]) (upd H1 D (.lst [])) m6 H6 := x2.trans (x3.trans (x4.trans (x5.trans x6)))
      unfold pushM at e7
      cases ek : S6[S1.length]? with
      | none => rw [ek] at e7; cases e7
      | some o =>
        rw [ek] at e7
        cases o with
        | lst acc =>
          simp only at e7
          split at e7
          · cases e7
            rename_i c
            have hk6 := x26.at hk0
            obtain ⟨p, u, q1, q2, q3⟩ := rl6.at ek
            rw [hk6] at q1
            cases q1
            cases q3 with
            | lst q3 =>
              obtain ⟨a1, a2⟩ := rl6.set hk6 (.lst (q3.snoc rv))
              exact ⟨_, q2, by rw [← q3.length]; exact c, m6, _, a1, x26.trans a2, h7⟩
          · cases e7
        | _ => cases e7
    | false => exact iteF ⟨m5, S5, rl5, x2.trans (x3.trans (x4.trans x5)), h5⟩
  · rintro H2 ⟨m2, S2, rl2, x2, h2⟩
    rw [List.drop_length] at h2
    cases (gdM_some h2).2
    exact q m2 H2 _ rl2 (x1.trans (x1'.trans x2)) (.ref (x2.at hk0))
theorem de_lc {elt tg iter : Expr} {ifs : List Expr} {scope : Scope} (own : List (Str × Nat)) {wi : TI} {g : TG} {tt : TT} {te : TE} {fi : SEnv → M (List D × Gd)} {fg : D → SEnv → M SEnv} {ft : SEnv → M Bool} {fe : SEnv → M D} (hc : X.calm = true) (hN : X.N.Nodup) (hi : DI X tg iter wi fi) (ok : BlkOk X.N X.env.scope scope own)
    (hg : ∀ (s : Shared) (H : Hp) (C : Addr) (cl : List (Str × Addr)) (fp : List Addr), DG (X.blk s H scope (compEnvC scope cl C X.env) fp) tg (own.map (·.2)) g fg) (ht : ∀ (s : Shared) (H : Hp) (C : Addr) (cl : List (Str × Addr)) (fp : List Addr), DTs (X.blk s H scope (compEnvC scope cl C X.env) fp) ifs tt ft)
    (he : ∀ (s : Shared) (H : Hp) (C : Addr) (cl : List (Str × Addr)) (fp : List Addr), DE (X.blk s H scope (compEnvC scope cl C X.env) fp) elt te fe) (hs : ∀ x, foldedSetIterable iter X.env x = pure x := by intro _; rfl) :
    DE X (.ListComp elt [⟨tg, iter, ifs, 0⟩] scope pos) (tLc wi g tt te (own.map (·.2))) (eLc fi fg ft fe (own.map (·.2))) :=
  ⟨pe_lc hc hN hi.pi ok (fun s H C cl fp => (hg s H C cl fp).pg) (fun s H C cl fp => (ht s H C cl fp).pts) (fun s H C cl fp => (he s H C cl fp).pe) hs,
   se_lc hi.si (hg X.s_0 X.H_0 0 [] []).sg (ht X.s_0 X.H_0 0 [] []).st (he X.s_0 X.H_0 0 [] []).se⟩
theorem ds_setLc (i : Nat) {y : Str} {py spos : Pos} {elt tg iter : Expr} {ifs : List Expr} {scope : Scope} (own : List (Str × Nat)) {wi : TI} {g : TG} {tt : TT} {te : TE} {fi : SEnv → M (List D × Gd)} {fg : D → SEnv → M SEnv} {ft : SEnv → M Bool} {fe : SEnv → M D} (hc : X.calm = true) (hN : X.N.Nodup) (hi : DI X tg iter wi fi) (ok : BlkOk X.N X.env.scope scope own)
    (hg : ∀ (s : Shared) (H : Hp) (C : Addr) (cl : List (Str × Addr)) (fp : List Addr), DG (X.blk s H scope (compEnvC scope cl C X.env) fp) tg (own.map (·.2)) g fg) (ht : ∀ (s : Shared) (H : Hp) (C : Addr) (cl : List (Str × Addr)) (fp : List Addr), DTs (X.blk s H scope (compEnvC scope cl C X.env) fp) ifs tt ft)
    (he : ∀ (s : Shared) (H : Hp) (C : Addr) (cl : List (Str × Addr)) (fp : List Addr), DE (X.blk s H scope (compEnvC scope cl C X.env) fp) elt te fe) (hsw : swapsWith (.ListComp elt [⟨tg, iter, ifs, 0⟩] scope pos) (some (.Name y py)) spos.line X.env = pure true)
    (hy : X.N[i]? = some y := by rfl) (hyl : X.env.scope.names.lookup y = some .local := by rfl) (hs : ∀ x, foldedSetIterable iter X.env x = pure x := by intro _; rfl) :
    DS X (.Assign [.Name y py] (.ListComp elt [⟨tg, iter, ifs, 0⟩] scope pos) spos) (tAsg (tLc wi g tt te (own.map (·.2))) (gName i)) (sAsg (eLc fi fg ft fe (own.map (·.2))) (gN i)) :=
  ⟨ps_setLc hc hN hy hyl hsw hi.pi ok (fun s H C cl fp => (hg s H C cl fp).pg) (fun s H C cl fp => (ht s H C cl fp).pts) (fun s H C cl fp => (he s H C cl fp).pe) hs,
   ss_asg (se_lc hi.si (hg X.s_0 X.H_0 0 [] []).sg (ht X.s_0 X.H_0 0 [] []).st (he X.s_0 X.H_0 0 [] []).se) (dg_name (pos := py) i hN hy (.inl hyl) (.inr hyl))⟩
/-! ### defs -/
def spOf (K : PySem.W.Frag) (n : Nat) (F : List D → M D) : Sp := fun vs H Q _ => ∃ (m : List Addr) (S : Store) (ds : List D) (d : D) (S' : Store), Rel K m S H ∧ Reps K m H ds vs ∧ ds.length = n ∧ F ds S = some (d, S') ∧ Out K m H S' d Q
/-- a call: the whole store is handed on -/
theorem se_callF {n : Nat} {F : List D → M D} {ta : TA} {f : SEnv → M (List D)} (hn : ∀ env S ds S', f env S = some (ds, S') → ds.length = n) (ha : SA K ta f) : SE K (tCall (spOf K n F) [] E0 ta) (eCall F f) := fun m S H env σ rl re d S' h Q q => by
  obtain ⟨ds, S1, e1, h1⟩ := bnd_some h
  refine ha rl re ds S1 e1 _ fun m1 H1 vs rl1 x1 rvs => ?_
  rw [List.append_nil]
  exact ⟨m1, S1, ds, d, S', rl1, rvs, hn env S ds S1 e1, h1, fun m2 H2 v rl2 x2 rv => q m2 H2 v rl2 (x1.trans x2) rv⟩
theorem aNil_len : ∀ env S ds S', aNil env S = some (ds, S') → ds.length = 0 := fun env S ds S' h => by
  cases h
  rfl
theorem aCons_len {n : Nat} {f : SEnv → M D} {g : SEnv → M (List D)} (h : ∀ env S ds S', g env S = some (ds, S') → ds.length = n) : ∀ env S ds S', aCons f g env S = some (ds, S') → ds.length = n + 1 := fun env S ds S' hh => by
  obtain ⟨d, S1, e1, h1⟩ := bnd_some hh
  obtain ⟨r, S2, e2, h2⟩ := bnd_some h1
  cases h2
  rw [List.length_cons, h env S1 r _ e2]
section
variable {k n : Nat} {f : Addr} {fd : FuncData} {ps : List Str} {F : List D → M D} {x : Str} {p : Pos} {e : Expr} {es : List Expr} {ta : TA} {fa : SEnv → M (List D)}
theorem de_callF (G : FnOk X.prog X.w X.K X.mg X.base CX0 k f fd ps (spOf X.K n F)) (hr : Room k X.A) (hm : X.mg x = some (.ref f)) (hk : PySem.W.keepIn X.K (.ref f) = true) (hb : Binds X.K fd ps []) (ha : DA X (e :: es) ta fa)
    (hn : ∀ env S ds S', fa env S = some (ds, S') → ds.length = n := by first | exact aCons_len aNil_len | exact aCons_len (aCons_len aNil_len) | exact aCons_len (aCons_len (aCons_len aNil_len)) | exact aCons_len (aCons_len (aCons_len (aCons_len aNil_len))) | exact aCons_len (aCons_len (aCons_len (aCons_len (aCons_len aNil_len)))))
    (hg : Gl X x := by rfl) (hdb : (x == ("__debug__" : Str)) = false := by decide) (he : starEach (e :: es) X.env = (false, eval e X.env) :: starEach es X.env := by rfl) (hpl : (backTo pos (starEach es X.env)).any (·.1) = false := by rfl) :
    DE X (.Call (.Name x p) (e :: es) [] pos) (tCall (spOf X.K n F) [] E0 ta) (eCall F fa) := ⟨pe_call G hr hg hm hk hb .nil pass0 ha.pa hdb he hpl, se_callF hn ha.sa⟩
end
/-! a call that neither takes nor hands back what may change: its own objects do not matter -/
mutual
def pureD : D → Bool
  | .ref _ => false
  | .tup xs => pureDs xs
  | .fl xs => pureDs xs
  | _ => true
def pureDs : List D → Bool
  | [] => true
  | x :: xs => pureD x && pureDs xs
end
mutual
theorem Rep.pure : ∀ {d : D} {v : V}, Rep K m H d v → pureD d = true → Rep K m' H d v
  | _, _, .non, _ => .non
  | _, _, .bl b, _ => .bl b
  | _, _, .int i, _ => .int i
  | _, _, .str x, _ => .str x
  | _, _, .ty n, _ => .ty n
  | _, _, .tup h1 h2, h => .tup h1 (Reps.pure h2 h)
  | _, _, .fl h1 h2, h => .fl h1 (Reps.pure h2 h)
  | _, _, .ref _, h => by cases h
theorem Reps.pure : ∀ {ds : List D} {vs : List V}, Reps K m H ds vs → pureDs ds = true → Reps K m' H ds vs
  | _, _, .nil, _ => .nil
  | _, _, .cons h1 h2, h => by
    have h' := (Bool.and_eq_true _ _).mp h
    exact .cons (Rep.pure h1 h'.1) (Reps.pure h2 h'.2)
end
def pureF (F : List D → M D) : List D → M D := fun ds S => if pureDs ds = true then match F ds [] with
    | some (d, _) => if pureD d = true then some (d, S) else none
    | none => none
  else none
theorem pureF_eq {F : List D → M D} {ds : List D} {d : D} {S S1 : Store} (h1 : pureDs ds = true) (h2 : F ds [] = some (d, S1)) (h3 : pureD d = true) : pureF F ds S = some (d, S) := by
  unfold pureF
  rw [if_pos h1, h2]
  exact if_pos h3
theorem FnOk.pure {P : Program} {w : World} {mg : Str → Option Value} {base : Heap} {CX : CXT} {k n : Nat} {f : Addr} {fd : FuncData} {ps : List Str} {F : List D → M D} (G : FnOk P w K mg base CX k f fd ps (spOf K n F)) : FnOk P w K mg base CX k f fd ps (spOf K n (pureF F)) := G.imp fun vs H Q E h => by
  obtain ⟨m, S, ds, d, S', rl, rvs, hn, hF, q⟩ := h
  unfold pureF at hF
  split at hF
  · rename_i hp
    split at hF
    · rename_i d' S1 e
      split at hF
      · cases hF
        rename_i hd
        refine ⟨[], [], ds, d, S1, ⟨rfl, List.nodup_nil, fun i a o h => by simp at h⟩, rvs.pure hp, hn, e, fun m' H' v rl' x' rv => ?_⟩
        obtain ⟨r2, x2⟩ := rl.keep (H' := H') fun a o ha => x'.keep a o ha List.not_mem_nil
        exact q m H' v r2 x2 (rv.pure hd)
      · cases hF
    · cases hF
  · cases hF
/-- a weaker mirror -/
theorem FnOk.weak {P : Program} {w : World} {mg : Str → Option Value} {base : Heap} {CX : CXT} {k n : Nat} {f : Addr} {fd : FuncData} {ps : List Str} {F F' : List D → M D} (G : FnOk P w K mg base CX k f fd ps (spOf K n F)) (h : ∀ ds S r, F' ds S = some r → F ds S = some r) : FnOk P w K mg base CX k f fd ps (spOf K n F') := G.imp fun vs H Q E hh => by
  obtain ⟨m, S, ds, d, S', rl, rvs, hn, hF, q⟩ := hh
  exact ⟨m, S, ds, d, S', rl, rvs, hn, h _ _ _ hF, q⟩
def env0 (n : Nat) (ds : List D) : SEnv := ds.map some ++ List.replicate (n - ds.length) none
def bodyM (n : Nat) (f : SEnv → M (Fl × SEnv)) : List D → M D := fun ds => bnd (f (env0 n ds)) fun r => match r.1 with
  | .nx => ret .non
  | .rt d => ret d
  | _ => fail
theorem rel0 {N : List Str} {ds : List D} {vs : List V} (h : Reps K m H ds vs) : RelE K m H (env0 N.length ds) (L2.start N vs) := by
  refine ⟨by unfold env0 L2.start; simp [h.length], fun i d q => ?_⟩
  unfold env0 at q
  unfold L2.start
  by_cases hi : i < ds.length
  · rw [List.getElem?_append_left (by simpa using hi), List.getElem?_map] at q
    obtain ⟨d', e1, e2⟩ := Option.map_eq_some_iff.mp q
    cases e2
    obtain ⟨v, e3, r⟩ := h.get e1
    exact ⟨v, by rw [List.getElem?_append_left (by rw [List.length_map, ← h.length]; exact hi), List.getElem?_map, e3]; rfl, r⟩
  · rw [List.getElem?_append_right (by simpa using hi), List.getElem?_replicate] at q
    split at q <;> cases q
theorem fn_ok {P : Program} {w : World} {mg : Str → Option Value} {base : Heap} {x qual : Str} {st : Stmt} {f : Addr} {fd : FuncData} {N ps : List Str} {k : Nat} {fb : SEnv → M (Fl × SEnv)} (F : Fun K x qual st f fd) (S : FnScope N ps (defScope st))
    (hbody : ∀ (cdv : Value) (A : Around) (outer : List PySem.Env) (s : Shared) (H : Hp) (E : XK), Room k (A.deeper (envOfC qual (defScope st) s.heap.objs.size f cdv)) → ∃ t, DSs (cxOf CX0 P w K mg base N qual (defScope st) f cdv A outer s H E).nox (defBody st) t fb) : FnOk P w K mg base CX0 (k + 1) f fd ps (spOf K ps.length (bodyM N.length fb)) := by
  refine F.ok S (fun vs H Q E h => ?_) (fun cdv A outer s H vs Q E hr h => ?_)
  · obtain ⟨m, S, ds, d, S', rl, rvs, hn, _⟩ := h
    rw [← rvs.length]
    exact hn
  · obtain ⟨m, S0, ds, d, S', rl, rvs, hn, hF, q⟩ := h
    obtain ⟨t, hb⟩ := hbody cdv A outer s H E hr
    obtain ⟨⟨fl, env'⟩, S1, e1, h1⟩ := bnd_some hF
    refine ⟨t, hb.ps, hb.ss rl (rel0 rvs) fl env' S1 e1 _ ?_⟩
    cases fl with
    | nx =>
      cases h1
      exact fun m' H' σ' rl' x' _ => q m' H' _ rl' x' .non
    | rt d' =>
      cases h1
      exact fun m' H' v rl' x' rv => q m' H' v rl' x' rv
    | bk => cases h1
    | ct => cases h1
end
end TS
set_option Elab.async false
set_option linter.all false
set_option maxRecDepth 100000
namespace TS
open PySem PySem.Spec PyProof.Rows L2
section
variable {X : Cx} {K : PySem.W.Frag} {m m' m2 m1 : List Addr} {S S' S2 : Store} {H H' H2 H1 : Hp} {env env' : SEnv} {σ : L2.St} {pos : Pos}
/-! ### dicts with keys ints and texts -/
def keyOf : D → Option Key
  | .int i => some (.inl i)
  | .str x => some (.inr x)
  | _ => none
theorem keyOf_rep {d : D} {v : V} {k : Key} (r : Rep K m H d v) (e : keyOf d = some k) : v = kV k := by
  cases r <;> first | (cases e; rfl) | (cases e)
def lookD (kvs : List (Key × D)) (k : Key) : Option D := match kvs with
  | [] => none
  | (k', d) :: r => if k' = k then some d else lookD r k
def hasD (kvs : List (Key × D)) (k : Key) : Bool := (lookD kvs k).isSome
def replD (kvs : List (Key × D)) (k : Key) (d : D) : List (Key × D) := kvs.map fun kv => if kv.1 = k then (kv.1, d) else kv
def putD (kvs : List (Key × D)) (k : Key) (d : D) : List (Key × D) := if hasD kvs k = true then replD kvs k d else kvs ++ [(k, d)]
/-- dicts side by side -/
inductive RepK (K : PySem.W.Frag) (m : List Addr) (H : Hp) : List (Key × D) → List (Key × V) → Prop
  | nil : RepK K m H [] []
  | cons {k : Key} {d : D} {v : V} {r : List (Key × D)} {u : List (Key × V)} : Rep K m H d v → RepK K m H r u → RepK K m H ((k, d) :: r) ((k, v) :: u)
theorem RepK.of : ∀ {kvs : List (Key × D)} {us : List (Key × V)}, us.map (·.1) = kvs.map (·.1) → Reps K m H (kvs.map (·.2)) (us.map (·.2)) → RepK K m H kvs us
  | [], [], _, _ => .nil
  | [], _ :: _, h, _ => by cases h
  | _ :: _, [], h, _ => by cases h
  | (k, d) :: r, (k', v) :: u, h, hs => by
    rw [List.map_cons, List.map_cons] at h
    injection h with h1 h2
    have h1' : k' = k := h1
    subst h1'
    cases hs with
    | cons a b => exact .cons a (RepK.of h2 b)
theorem RepK.to : ∀ {kvs : List (Key × D)} {us : List (Key × V)}, RepK K m H kvs us → us.map (·.1) = kvs.map (·.1) ∧ Reps K m H (kvs.map (·.2)) (us.map (·.2))
  | _, _, .nil => ⟨rfl, .nil⟩
  | _, _, .cons a b => by
    obtain ⟨h1, h2⟩ := RepK.to b
    exact ⟨by rw [List.map_cons, List.map_cons, h1], .cons a h2⟩
theorem RepK.length : ∀ {kvs : List (Key × D)} {us : List (Key × V)}, RepK K m H kvs us → kvs.length = us.length
  | _, _, .nil => rfl
  | _, _, .cons _ b => by rw [List.length_cons, List.length_cons, RepK.length b]
theorem RepK.look {k : Key} : ∀ {kvs : List (Key × D)} {us : List (Key × V)}, RepK K m H kvs us → (∃ d v, lookD kvs k = some d ∧ valV us k = some v ∧ Rep K m H d v) ∨ (lookD kvs k = none ∧ valV us k = none)
  | _, _, .nil => .inr ⟨rfl, rfl⟩
  | _, _, .cons (k := k') (d := d) (v := v) (r := r') (u := u') a b => by
    by_cases h : k' = k
    · exact .inl ⟨d, v, by unfold lookD; rw [if_pos h], valV_pos h, a⟩
    · have e1 : lookD ((k', d) :: r') k = lookD r' k := by
        rw [lookD, if_neg h]
      rcases RepK.look (k := k) b with ⟨d', v', h1, h2, h3⟩ | ⟨h1, h2⟩
      · exact .inl ⟨d', v', by rw [e1]; exact h1, by rw [valV_neg h]; exact h2, h3⟩
      · exact .inr ⟨by rw [e1]; exact h1, by rw [valV_neg h]; exact h2⟩
theorem RepK.repl {k : Key} {d : D} {v : V} (r : Rep K m H d v) : ∀ {kvs : List (Key × D)} {us : List (Key × V)}, RepK K m H kvs us → RepK K m H (replD kvs k d) (us.map fun kv => if kv.1 = k then (kv.1, v) else kv)
  | _, _, .nil => .nil
  | _, _, .cons (k := k') (d := d') (v := v') (r := r') (u := u') a b => by
    have ih := RepK.repl (k := k) r b
    unfold replD at ih ⊢
    rw [List.map_cons, List.map_cons]
    by_cases h : k' = k
    · rw [if_pos h, if_pos h]
      exact .cons r ih
    · rw [if_neg h, if_neg h]
      exact .cons a ih
theorem RepK.snoc {k : Key} {d : D} {v : V} (r : Rep K m H d v) : ∀ {kvs : List (Key × D)} {us : List (Key × V)}, RepK K m H kvs us → RepK K m H (kvs ++ [(k, d)]) (us ++ [(k, v)])
  | _, _, .nil => .cons r .nil
  | _, _, .cons a b => .cons a (RepK.snoc r b)
theorem RepK.put {k : Key} {d : D} {v : V} (r : Rep K m H d v) {kvs : List (Key × D)} {us : List (Key × V)} (h : RepK K m H kvs us) : RepK K m H (putD kvs k d) (putK us k v) := by
  unfold putD putK hasD
  rw [valV_any]
  rcases h.look (k := k) with ⟨d', v', h1, h2, _⟩ | ⟨h1, h2⟩
  · rw [h1, h2]
    exact h.repl r
  · rw [h1, h2]
    exact h.snoc r
theorem Rel.dict (rl : Rel K m S H) {i : Nat} {kvs : List (Key × D)} {v : V} (h : S[i]? = some (.dK kvs)) (q : Rep K m H (.ref i) v) : ∃ a us, v = .ref a ∧ m[i]? = some a ∧ H a = some (.dK us) ∧ RepK K m H kvs us := by
  obtain ⟨a, us, h1, h2, h3, h4, h5⟩ := rl.dK h q
  exact ⟨a, us, h1, h2, h3, .of h4 h5⟩
theorem RepK.o {kvs : List (Key × D)} {us : List (Key × V)} (h : RepK K m H kvs us) : RepO K m H (.dK kvs) (.dK us) := .dK h.to.1 h.to.2
def dgetM (a b : D) : M D := fun S => match a, keyOf b with
  | .ref i, some k => match S[i]? with
    | some (.dK kvs) => match lookD kvs k with
      | some d => some (d, S)
      | none => none
    | _ => none
  | _, _ => none
theorem de_dget {o i : Expr} {td ty : TE} {fo fi : SEnv → M D} (hu : X.A.units + 1 < cLine) (ho : DE X o td fo) (hi : DE X i ty fi) (hs : NoSl i := by exact fun _ _ => rfl) : DE X (.Subscript o i pos) (tDGet td ty) (eOp dgetM fo fi) := ⟨pe_dget hu ho.pe hi.pe hs, fun m S H env σ rl re d S' h Q q => by
  obtain ⟨a, S1, e1, h1⟩ := bnd_some h
  obtain ⟨b, S2, e2, h2⟩ := bnd_some h1
  refine ho.se rl re a S1 e1 _ fun m1 H1 x rl1 x1 ra => ?_
  refine hi.se rl1 (re.mono rl x1) b S2 e2 _ fun m2 H2 y rl2 x2 rb => ?_
  unfold dgetM at h2
  split at h2
  · split at h2
    · split at h2
      · cases h2
        rename_i i k hk _ kvs _ e4 e3
        obtain ⟨p, us, rfl, _, q3, q4⟩ := rl2.dict e3 (ra.mono rl1 x2)
        rcases q4.look (k := k) with ⟨d1, v1, w1, w2, w3⟩ | ⟨w1, w2⟩
        · rw [w1] at e4
          cases e4
          refine ⟨p, v1, rfl, ?_, q m2 H2 v1 rl2 (x1.trans x2) w3⟩
          rw [keyOf_rep rb hk, ← w2]
          exact DGet.k q3
        · rw [w1] at e4
          cases e4
      · cases h2
    · cases h2
  · cases h2⟩
def dsetM (a b d : D) : M Unit := fun S => match a, keyOf b with
  | .ref i, some k => match S[i]? with
    | some (.dK kvs) => if kvs.length < sizeLine then some ((), S.set i (.dK (putD kvs k d))) else none
    | _ => none
  | _, _ => none
theorem set_d (hu : X.A.units + 1 < cLine) : DSet X rSetD dsetM := ⟨set_dict hu, fun m S H o i v a b d rl ra rb rd S' h Q q => by
  unfold dsetM at h
  split at h
  · split at h
    · split at h
      · cases h
        rename_i k hk _ kvs e3 c
        obtain ⟨p, us, rfl, hp, q3, q4⟩ := rl.dict e3 ra
        obtain ⟨a1, a2⟩ := rl.set hp (q4.put (k := k) rd).o
        refine ⟨p, _, rfl, ?_, q _ _ a1 a2⟩
        rw [keyOf_rep rb hk]
        exact DPut.k q3 (by rw [← q4.length]; exact c)
      · cases h
    · cases h
  · cases h⟩
/-- {k: v, ..} -/
structure DPs (X : Cx) (pos : Pos) (keys : List (Option Expr)) (values : List Expr) (trs : List (TE × TE)) (f : SEnv → M (List (Key × D))) : Prop where
  pps : PPs X pos keys values trs
  sp : ∀ ⦃m : List Addr⦄ ⦃S : Store⦄ ⦃H : Hp⦄ ⦃env : SEnv⦄ ⦃σ : L2.St⦄, Rel X.K m S H → RelE X.K m H env σ → ∀ kvs S', f env S = some (kvs, S') → ∀ Q : List (V × V) → Hp → Prop, (∀ m' H' us, Rel X.K m' S' H' → Ext m H m' H' → RepK X.K m' H' kvs us → Q (us.map fun kv => (kV kv.1, kv.2)) H') → tPairs trs σ H Q
def kNil : SEnv → M (List (Key × D)) := fun _ => ret []
def kCons (fk fv : SEnv → M D) (g : SEnv → M (List (Key × D))) : SEnv → M (List (Key × D)) := fun env => bnd (fk env) fun a => bnd (fv env) fun d => bnd (g env) fun r => match keyOf a with
  | some k => ret ((k, d) :: r)
  | none => fail
theorem RepK.mono (rl : Rel K m S H) (e : Ext m H m' H') {kvs : List (Key × D)} {us : List (Key × V)} (h : RepK K m H kvs us) : RepK K m' H' kvs us := by
  induction h with
  | nil => exact .nil
  | cons a _ ih => exact .cons (a.mono rl e) ih
theorem dps_nil : DPs X pos [] [] [] kNil := ⟨pps_nil, fun m S H env σ rl re kvs S' h Q q => by
  cases h
  exact q m H [] rl .refl .nil⟩
theorem dps_cons {k v : Expr} {ks : List (Option Expr)} {vs : List Expr} {tk tv : TE} {trs : List (TE × TE)} {fk fv : SEnv → M D} {g : SEnv → M (List (Key × D))} (hk : DE X k tk fk) (hv : DE X v tv fv) (hr : DPs X pos ks vs trs g) : DPs X pos (some k :: ks) (v :: vs) ((tk, tv) :: trs) (kCons fk fv g) := ⟨pps_cons hk.pe hv.pe hr.pps, fun m S H env σ rl re kvs S' h Q q => by
  obtain ⟨a, S1, e1, h1⟩ := bnd_some h
  obtain ⟨d, S2, e2, h2⟩ := bnd_some h1
  obtain ⟨r, S3, e3, h3⟩ := bnd_some h2
  cases ek : keyOf a with
  | none => rw [ek] at h3; cases h3
  | some kk =>
    rw [ek] at h3
    cases h3
    refine hk.se rl re a S1 e1 _ fun m1 H1 x rl1 x1 ra => ?_
    refine hv.se rl1 (re.mono rl x1) d S2 e2 _ fun m2 H2 y rl2 x2 rd => ?_
    refine hr.sp rl2 (re.mono rl (x1.trans x2)) r _ e3 _ fun m3 H3 us rl3 x3 rk => ?_
    have z := q m3 H3 ((kk, y) :: us) rl3 ((x1.trans x2).trans x3) (.cons (rd.mono rl2 x3) rk)
    rw [keyOf_rep ra ek]
    exact z⟩
def mergeD (kvs more : List (Key × D)) : List (Key × D) := more.foldl (fun acc kv => putD acc kv.1 kv.2) kvs
theorem RepK.merge : ∀ {more : List (Key × D)} {mv : List (Key × V)} {kvs : List (Key × D)} {us : List (Key × V)}, RepK K m H more mv → RepK K m H kvs us → RepK K m H (mergeD kvs more) (mergeK us mv)
  | _, _, _, _, .nil, h => h
  | _, _, _, _, .cons (k := k) a b, h => by
    have z := RepK.merge b (h.put (k := k) a)
    exact z
def newDct : M Nat := fun S => some (S.length, S ++ [.dK []])
def fillD (k : Nat) (kvs : List (Key × D)) : M D := fun S => match S[k]? with
  | some (.dK []) => if kvs.length ≤ 15 then some (.ref k, S.set k (.dK (mergeD [] kvs))) else none
  | _ => none
def eDisp (g : SEnv → M (List (Key × D))) : SEnv → M D := fun env => bnd newDct fun k => bnd (g env) (fillD k)
theorem de_disp {keys : List (Option Expr)} {values : List Expr} {trs : List (TE × TE)} {g : SEnv → M (List (Key × D))} (h : DPs X pos keys values trs g) (hall : keys.all (·.isSome) = true := by rfl) (hl : keys.length = values.length := by rfl) (h0 : keys ≠ [] := by exact fun z => nomatch z)
    (h15 : keys.length ≤ 15 := by decide) : DE X (.Dict keys values pos) (tDisp trs) (eDisp g) := ⟨pe_disp h.pps hall hl h0 h15, fun m S H env σ rl re d S' hh Q q => by
  have hh' : bnd (g env) (fillD S.length) (S ++ [.dK []]) = some (d, S') := hh
  obtain ⟨kvs, S1, e1, h1⟩ := bnd_some hh'
  intro p hp
  obtain ⟨rl1, x1, rp⟩ := rl.new (o := .dK []) (u := .dK []) hp (RepK.nil).o
  have hk0 : (m ++ [p])[S.length]? = some p := by
    rw [← rl.len, List.getElem?_append_right (Nat.le_refl _), Nat.sub_self]
    rfl
  refine h.sp rl1 (re.mono rl x1) kvs S1 e1 _ fun m2 H2 us rl2 x2 rk => ?_
  unfold fillD at h1
  split at h1
  · split at h1
    · cases h1
      rename_i ek c
      obtain ⟨p', u, q1, q2, q3⟩ := rl2.at ek
      rw [x2.at hk0] at q1
      cases q1
      cases q3 with
      | @dK _ us0 q3 q4 =>
        have hu0 : us0 = [] := by cases us0 with | nil => rfl | cons _ _ => cases q3
        subst hu0
        obtain ⟨a1, a2⟩ := rl2.set (x2.at hk0) (rk.merge (RepK.nil)).o
        exact ⟨q2, us, rfl, by rw [← rk.length]; exact c, q _ _ _ a1 ((x1.trans x2).trans a2) (.ref (x2.at hk0))⟩
    · cases h1
  · cases h1⟩
def eDict0 : SEnv → M D := fun _ S => some (.ref S.length, S ++ [.dK []])
theorem de_dict0 : DE X (.Dict [] [] pos) tDNewK eDict0 := ⟨pe_dnewK, fun m S H env σ rl re d S' hh Q q => by
  cases hh
  intro p hp
  obtain ⟨rl1, x1, rp⟩ := rl.new (o := .dK []) (u := .dK []) hp (RepK.nil).o
  exact q _ _ _ rl1 x1 rp⟩
/-- k in d -/
def dinB (a b : D) : M Bool := fun S => match b, keyOf a with
  | .ref i, some k => match S[i]? with
    | some (.dK kvs) => some (hasD kvs k, S)
    | _ => none
  | _, _ => none
def eDin (fa fb : SEnv → M D) : SEnv → M D := fun env => bnd (fa env) fun a => bnd (fb env) fun b => bnd (dinB a b) fun k => ret (.bl k)
def eDnin (fa fb : SEnv → M D) : SEnv → M D := fun env => bnd (fa env) fun a => bnd (fb env) fun b => bnd (dinB a b) fun k => ret (.bl (!k))
theorem dinB_rep (rl : Rel K m S H) {a b : D} {y x : V} {k : Bool} (ra : Rep K m H a y) (rb : Rep K m H b x) (h : dinB a b S = some (k, S')) : S' = S ∧ ∃ p o, x = .ref p ∧ DGet H p y o ∧ o.isSome = k := by
  unfold dinB at h
  split at h
  · split at h
    · cases h
      rename_i kk hk _ kvs e
      obtain ⟨p, us, rfl, _, q3, q4⟩ := rl.dict e rb
      refine ⟨rfl, p, valV us kk, rfl, ?_, ?_⟩
      · rw [keyOf_rep ra hk]
        exact DGet.k q3
      · unfold hasD
        rcases q4.look (k := kk) with ⟨d1, v1, w1, w2, w3⟩ | ⟨w1, w2⟩
        · rw [w1, w2]
          rfl
        · rw [w1, w2]
          rfl
    · cases h
  · cases h
theorem se_din {ty td : TE} {fa fb : SEnv → M D} (ha : SE K ty fa) (hb : SE K td fb) : SE K (tDIn ty td) (eDin fa fb) := fun m S H env σ rl re d S' h Q q => by
  obtain ⟨a, S1, e1, h1⟩ := bnd_some h
  obtain ⟨b, S2, e2, h2⟩ := bnd_some h1
  obtain ⟨k, S3, e3, h3⟩ := bnd_some h2
  cases h3
  refine ha rl re a S1 e1 _ fun m1 H1 x rl1 x1 ra => ?_
  refine hb rl1 (re.mono rl x1) b S2 e2 _ fun m2 H2 y rl2 x2 rb => ?_
  obtain ⟨rfl, p, o, rfl, g, rfl⟩ := dinB_rep rl2 (ra.mono rl1 x2) rb e3
  exact ⟨p, o, rfl, g, q m2 H2 _ rl2 (x1.trans x2) (.bl _)⟩
theorem se_dnin {ty td : TE} {fa fb : SEnv → M D} (ha : SE K ty fa) (hb : SE K td fb) : SE K (tDNotIn ty td) (eDnin fa fb) := fun m S H env σ rl re d S' h Q q => by
  obtain ⟨a, S1, e1, h1⟩ := bnd_some h
  obtain ⟨b, S2, e2, h2⟩ := bnd_some h1
  obtain ⟨k, S3, e3, h3⟩ := bnd_some h2
  cases h3
  refine ha rl re a S1 e1 _ fun m1 H1 x rl1 x1 ra => ?_
  refine hb rl1 (re.mono rl x1) b S2 e2 _ fun m2 H2 y rl2 x2 rb => ?_
  obtain ⟨rfl, p, o, rfl, g, rfl⟩ := dinB_rep rl2 (ra.mono rl1 x2) rb e3
  exact ⟨p, o, rfl, g, q m2 H2 _ rl2 (x1.trans x2) (.bl _)⟩
section
variable {o i : Expr} {td ty : TE} {fo fi : SEnv → M D}
theorem de_din (hu : X.A.units + 1 < cLine) (hi : DE X i ty fi) (ho : DE X o td fo) (h1 : behindInMarks .In o = false := by rfl) : DE X (.Compare i [.In] [o] pos) (tDIn ty td) (eDin fi fo) := ⟨pe_cmp (pc_din hu hi.pe ho.pe) h1, se_din hi.se ho.se⟩
theorem de_dnin (hu : X.A.units + 1 < cLine) (hi : DE X i ty fi) (ho : DE X o td fo) (h1 : behindInMarks .NotIn o = false := by rfl) : DE X (.Compare i [.NotIn] [o] pos) (tDNotIn ty td) (eDnin fi fo) := ⟨pe_cmp (pc_dnotin hu hi.pe ho.pe) h1, se_dnin hi.se ho.se⟩
theorem dt_din (hu : X.A.units + 1 < cLine) (hi : DE X i ty fi) (ho : DE X o td fo) (h1 : behindInMarks .In o = false := by rfl) : DT X (.Compare i [.In] [o] pos) (tB (tDIn ty td)) (asB (eDin fi fo)) := ⟨pt_cmp (pc_din hu hi.pe ho.pe) h1, st_B (se_din hi.se ho.se)⟩
theorem dt_dnin (hu : X.A.units + 1 < cLine) (hi : DE X i ty fi) (ho : DE X o td fo) (h1 : behindInMarks .NotIn o = false := by rfl) : DT X (.Compare i [.NotIn] [o] pos) (tB (tDNotIn ty td)) (asB (eDnin fi fo)) := ⟨pt_cmp (pc_dnotin hu hi.pe ho.pe) h1, st_B (se_dnin hi.se ho.se)⟩
end
end
end TS
set_option Elab.async false
set_option linter.all false
set_option maxRecDepth 100000
namespace TS
open PySem PySem.Spec PyProof.Rows L2
/-! ### zip and enumerate over lists, tuples and texts -/
/-- what is walked: a list, a tuple, a text -/
inductive Kd where
  | l (a : Addr) | t (a : Addr) | s (x : Str) (tk : Tok)
def Kd.its (K : PySem.W.Frag) (H : Hp) : Kd → List V → Prop
  | .l a, vs => SqL K H a vs
  | .t a, vs => SqT K H a vs
  | .s x _, vs => vs = x.cps.toList.map fun c => V.str ⟨#[c]⟩
def Kd.at : Kd → Addr → Nat → Heap → Prop
  | .l a, it, i, h => h.IsListIter it a i
  | .t a, it, i, h => h.IsTupleIter it a i
  | .s x tk, it, i, h => h.IsStrIter it (strIterType x) x tk i
def Kd.fp : Kd → Addr → List Addr
  | .l a, it => [it, a]
  | .t a, it => [it, a]
  | .s _ _, it => [it]
def Kd.off : Kd → Addr → Prop
  | .l a, b => a ≠ b
  | .t a, b => a ≠ b
  | .s _ _, _ => True
theorem Kd.mem (k : Kd) (it : Addr) : it ∈ k.fp it := by
  cases k <;> exact List.mem_cons_self ..
theorem Kd.not_fp {k : Kd} {it b : Addr} (h : it ≠ b) (o : k.off b) : b ∉ k.fp it := by
  cases k with
  | l a => exact fun q => (List.mem_cons.mp q).elim (fun z => h z.symm) fun z => o (List.mem_singleton.mp z).symm
  | t a => exact fun q => (List.mem_cons.mp q).elim (fun z => h z.symm) fun z => o (List.mem_singleton.mp z).symm
  | s x tk => exact fun q => h (List.mem_singleton.mp q).symm
theorem Kd.live {k : Kd} {it : Addr} {i : Nat} {h : Heap} (q : k.at it i h) : ∃ o, h.get? it = some o ∧ ∀ v, o.data ≠ .cell v := by
  cases k with
  | l a => obtain ⟨o, e, _, d⟩ := q; exact ⟨o, e, fun v z => by rw [d] at z; cases z⟩
  | t a => obtain ⟨o, e, _, d⟩ := q; exact ⟨o, e, fun v z => by rw [d] at z; cases z⟩
  | s x tk => obtain ⟨o, e, _, d⟩ := q; exact ⟨o, e, fun v z => by rw [d] at z; cases z⟩
theorem Kd.keep {k : Kd} {it : Addr} {i : Nat} {h h' : Heap} (q : k.at it i h) (e : ∀ o, h.get? it = some o → h'.get? it = some o) : k.at it i h' := by
  cases k with
  | l a => exact q.at e
  | t a => exact q.at e
  | s x tk => obtain ⟨o, e1, r⟩ := q; exact ⟨o, e o e1, r⟩
section
variable {X : Cx} {pins : List (Addr × Obj)} {σ : L2.St} {H : Hp} {s : Shared}
/-- at a turn: the iterator's step, by what it draws -/
theorem Kd.draws (I : Inv X pins σ H s) (hc : X.calm = true) {k : Kd} {vs : List V} (hv : k.its X.K H vs) {it : Addr} (ho : k.off it) {i : Nat} (hi : k.at it i s.heap) :
    ∃ (P : Nat → Value → Prop) (St : Nat → Heap → Prop), Draws X.prog X.w X.A.in1 it (k.fp it) vs.length P St ∧ St i s.heap ∧ (∀ j u, P j u → ∃ y, vs[j]? = some y ∧ RelV y u) ∧ ∀ j h, St j h → k.at it j h := by
  have hh : X.A.in1.handled = none := I.ok.hd hc
  cases k with
  | l a =>
    obtain ⟨us, rv, pl, _⟩ := I.list hv
    have hs : us.toArray.size = vs.length := by rw [List.size_toArray, rv.length]
    refine ⟨_, _, hs ▸ Draws.list hh it a ho us.toArray, ⟨hi, pl.isList⟩, fun j u hu => ?_, fun j h q => q.1⟩
    have hu' : us[j]? = some u := by simpa using hu
    have hj : j < vs.length := by rw [rv.length]; exact (List.getElem?_eq_some_iff.mp hu').1
    obtain ⟨u2, h2, r2⟩ := rv.get (List.getElem?_eq_getElem hj)
    rw [hu'] at h2
    cases h2
    exact ⟨_, List.getElem?_eq_getElem hj, r2⟩
  | t a =>
    obtain ⟨us, rv, pt, _⟩ := I.tuple hv
    have hs : us.toArray.size = vs.length := by rw [List.size_toArray, rv.length]
    refine ⟨_, _, hs ▸ Draws.tuple hh it a ho us.toArray, ⟨hi, pt⟩, fun j u hu => ?_, fun j h q => q.1⟩
    have hu' : us[j]? = some u := by simpa using hu
    have hj : j < vs.length := by rw [rv.length]; exact (List.getElem?_eq_some_iff.mp hu').1
    obtain ⟨u2, h2, r2⟩ := rv.get (List.getElem?_eq_getElem hj)
    rw [hu'] at h2
    cases h2
    exact ⟨_, List.getElem?_eq_getElem hj, r2⟩
  | s x tk =>
    have hv' : vs = x.cps.toList.map fun c => V.str ⟨#[c]⟩ := hv
    have hs : x.cps.size = vs.length := by rw [hv', List.length_map, Array.length_toList]
    refine ⟨_, _, hs ▸ Draws.text hh it x tk, hi, fun j u hu => ?_, fun j h q => q⟩
    obtain ⟨c, t, e1, rfl⟩ := hu
    refine ⟨.str ⟨#[c]⟩, ?_, ⟨t, rfl⟩⟩
    rw [hv', List.getElem?_map, Array.getElem?_toList, e1]
    rfl
theorem Kd.its_inj (I : Inv X pins σ H s) {k : Kd} {vs us : List V} (h1 : k.its X.K H vs) (h2 : k.its X.K H us) : vs = us := by
  cases k with
  | l a => exact I.list_inj h1 h2
  | t a => exact I.tuple_inj h1 h2
  | s x tk => exact Eq.trans h1 (Eq.symm h2)
end
/-- zip at each turn -/
def ItG (K : PySem.W.Frag) (k1 k2 : Kd) : It :=
  ⟨fun i H => ∃ vs us : List V, k1.its K H vs ∧ k2.its K H us ∧ i < vs.length ∧ i < us.length,
   fun i H v H' => ∃ T x y, v = .ref T ∧ H T = none ∧ H' = upd H T (.tup [x, y]) ∧ (∀ vs, k1.its K H vs → vs[i]? = some x) ∧ ∀ us, k2.its K H us → us[i]? = some y,
   fun i H => ∃ vs us : List V, k1.its K H vs ∧ k2.its K H us ∧ i ≤ vs.length ∧ i ≤ us.length ∧ (i = vs.length ∨ i = us.length)⟩
structure ApG (z TI TO i1 i2 : Addr) (k1 k2 : Kd) : Prop where
  a1 : TI ≠ z
  a2 : TO ≠ z
  a3 : TI ≠ TO
  a4 : TI ≠ i1
  a5 : TI ≠ i2
  a6 : i1 ≠ z
  a7 : i2 ≠ z
  a8 : i1 ≠ TO
  a9 : i2 ≠ TO
  aa : i1 ≠ i2
  o1 : ∀ b ∈ [z, TO, i1, i2], k1.off b
  o2 : ∀ b ∈ [z, TO, i1, i2], k2.off b
theorem ApG.sep {z TI TO i1 i2 : Addr} {k1 k2 : Kd} (A : ApG z TI TO i1 i2 k1 k2) : ZipSep2 z TI TO i1 i2 (k1.fp i1) (k2.fp i2) where
  TIz := A.a1
  TOz := A.a2
  TITO := A.a3
  TIi1 := A.a4
  mem1 := k1.mem i1
  zf1 := Kd.not_fp A.a6 (A.o1 z (by simp))
  Tf1 := Kd.not_fp A.a8 (A.o1 TO (by simp))
  TIi2 := A.a5
  mem2 := k2.mem i2
  zf2 := Kd.not_fp A.a7 (A.o2 z (by simp))
  Tf2 := Kd.not_fp A.a9 (A.o2 TO (by simp))
  sep1_2 := Kd.not_fp (Ne.symm A.aa) (A.o2 i1 (by simp))
  sep2_1 := Kd.not_fp A.aa (A.o1 i2 (by simp))
theorem five {P : Addr → Prop} {z TI TO i1 i2 c : Addr} (h : c ∈ [z, TI, TO, i1, i2]) (q1 : P z) (q2 : P TI) (q3 : P TO) (q4 : P i1) (q5 : P i2) : P c := by
  rcases List.mem_cons.mp h with rfl | h
  · exact q1
  rcases List.mem_cons.mp h with rfl | h
  · exact q2
  rcases List.mem_cons.mp h with rfl | h
  · exact q3
  rcases List.mem_cons.mp h with rfl | h
  · exact q4
  · rw [List.mem_singleton.mp h]
    exact q5
theorem turn_zipG {P : Program} {w : World} {K : PySem.W.Frag} {elts : List Expr} {kk : Nat} {tpos : Pos} {z TI TO i1 i2 : Addr} {k1 k2 : Kd} (A : ApG z TI TO i1 i2 k1 k2) :
    Turn P w K (.Tuple elts kk tpos) (ItG K k1 k2) [z, TI, TO, i1, i2] z (fun i h => IsZip h z TI TO .none ∧ IsTupOf2 h TI (.ref i1) (.ref i2) ∧ (∃ x y, IsTupOf2 h TO x y) ∧ k1.at i1 i h ∧ k2.at i2 i h) where
  mem := List.mem_cons_self ..
  obj := fun i h st c hc => by
    obtain ⟨s1, s2, ⟨x, y, s3⟩, s4, s5⟩ := st
    exact five (P := fun c => ∃ o, h.get? c = some o ∧ ∀ v, o.data ≠ .cell v) hc ⟨_, s1, fun v q => nomatch q⟩ ⟨_, s2, fun v q => nomatch q⟩ ⟨_, s3, fun v q => nomatch q⟩ (Kd.live s4) (Kd.live s5)
  keep := fun i h h' st kp => by
    obtain ⟨s1, s2, ⟨x, y, s3⟩, s4, s5⟩ := st
    exact ⟨kp z (by simp) _ s1, kp TI (by simp) _ s2, ⟨x, y, kp TO (by simp) _ s3⟩, Kd.keep s4 (kp i1 (by simp)), Kd.keep s5 (kp i2 (by simp))⟩
  item := by
    intro X e1 e2 e3 hc i pins s σ H E I hf st hg
    subst e1 e2 e3
    obtain ⟨s1, s2, ⟨x0, y0, s3⟩, s4, s5⟩ := st
    obtain ⟨vs, us, hvs, hus, l1, l2⟩ := hg
    obtain ⟨P1, St1, D1, t1, r1, b1⟩ := Kd.draws I hc hvs (A.o1 i1 (by simp)) s4
    obtain ⟨P2, St2, D2, t2, r2, b2⟩ := Kd.draws I hc hus (A.o2 i2 (by simp)) s5
    refine wpAny_pyNext_zipD2_item A.sep D1 D2 s1 s2 s3 t1 t2 l1 l2 fun u1 u2 h1 tk p1 p2 c1 c2 c3 c4 c5 _ kp => ?_
    obtain ⟨x, hx, rx⟩ := r1 i u1 p1
    obtain ⟨y, hy, ry⟩ := r2 i u2 p2
    have lz : z < s.heap.objs.size := Heap.lt_size s1
    have lTI : TI < s.heap.objs.size := Heap.lt_size s2
    have lTO : TO < s.heap.objs.size := Heap.lt_size s3
    have li1 : i1 < s.heap.objs.size := let ⟨_, q, _⟩ := Kd.live s4; Heap.lt_size q
    have li2 : i2 < s.heap.objs.size := let ⟨_, q, _⟩ := Kd.live s5; Heap.lt_size q
    refine ⟨_, rfl, wpAny_letOwnedTupleGo_zip (s := { s with heap := h1, toks := tk }) c1 fun h2 c1' sb => ?_⟩
    have five5 : ∀ c o, c ∉ [z, TI, TO, i1, i2] → s.heap.get? c = some o → h2.get? c = some o := fun c o hn q =>
      (sb.2 c fun w => hn (by simp [w])).trans (kp c o (fun w => hn (by simp [w])) (fun w => hn (by simp [w])) (fun w => hn (by simp [w])) (fun w => hn (by simp [w])) q)
    have hT : IsTupOf2 h2 s.heap.objs.size u1 u2 := (sb.2 _ (Nat.ne_of_gt lz)).trans c5
    have new : ObjOk X.prog X.w (upd H s.heap.objs.size (.tup [x, y])) h2 s.heap.objs.size (.tup [x, y]) := ⟨by show 2 ≤ sizeLine; decide, [u1, u2], .cons rx (.cons ry .nil), _, hT, rfl, _, rfl⟩
    have I2 : Inv X pins σ (upd H s.heap.objs.size (.tup [x, y])) { s with heap := h2, toks := tk } := I.turnedNew (ch := [z, TI, TO, i1, i2]) five5 hf (Nat.le_refl _) new
    refine ⟨.ref s.heap.objs.size, _, I2, rfl, ⟨_, x, y, rfl, I.hok.fresh (Nat.le_refl _), rfl, fun ws hw => by rw [Kd.its_inj I hw hvs]; exact hx, fun ws hw => by rw [Kd.its_inj I hw hus]; exact hy⟩, ⟨c1', ?_, ⟨u1, u2, ?_⟩, ?_, ?_⟩, fun c hcm => ?_⟩
    · exact (sb.2 _ A.a1).trans (kp _ _ A.a1 A.a3 A.a4 A.a5 s2)
    · exact (sb.2 _ A.a2).trans c2
    · exact Kd.keep (b1 _ _ c3) fun o q => (sb.2 _ A.a6).trans q
    · exact Kd.keep (b2 _ _ c4) fun o q => (sb.2 _ A.a7).trans q
    · have hlt : c < s.heap.objs.size := five (P := fun c => c < s.heap.objs.size) hcm lz lTI lTO li1 li2
      rw [upd_ne (Nat.ne_of_lt hlt)]
      exact (hf c hcm).1
  done := by
    intro X e1 e2 e3 hc i pins s σ H E I hf st hg
    subst e1 e2 e3
    obtain ⟨s1, s2, ⟨x0, y0, s3⟩, s4, s5⟩ := st
    obtain ⟨vs, us, hvs, hus, l1, l2, l3⟩ := hg
    obtain ⟨P1, St1, D1, t1, r1, b1⟩ := Kd.draws I hc hvs (A.o1 i1 (by simp)) s4
    obtain ⟨P2, St2, D2, t2, r2, b2⟩ := Kd.draws I hc hus (A.o2 i2 (by simp)) s5
    refine wpAny_pyNext_zipD2_end A.sep D1 D2 s1 s2 s3 t1 t2 l1 l2 l3 fun h1 tk kp => ⟨rfl, ?_⟩
    exact I.turnedL (ch := [z, TI, TO, i1, i2]) (fun c o hn q => kp c o (fun w => hn (by simp [w])) (fun w => hn (by simp [w])) (fun w => hn (by simp [w])) (fun w => hn (by simp [w])) q) hf
  self := fun A' i s Q E st h => wpAny_pyIter_zip st.1 h
/-- what the walk of a value begins with -/
def Kd.obj : Kd → Obj
  | .l a => { cls := .type "list_iterator", data := .fields #[.ref a, .int 0 0] }
  | .t a => { cls := .type "tuple_iterator", data := .fields #[.ref a, .int 0 0] }
  | .s x tk => { cls := .type (strIterType x), data := .fields #[.str x tk, .int 0 0] }
def Kd.val : Kd → Value
  | .l a => .ref a
  | .t a => .ref a
  | .s x tk => .str x tk
theorem Kd.at0 (k : Kd) {h : Heap} {it : Addr} (e : h.get? it = some k.obj) : k.at it 0 h := by
  cases k with
  | l a => exact ⟨_, e, rfl, rfl⟩
  | t a => exact ⟨_, e, rfl, rfl⟩
  | s x tk => exact ⟨_, e, rfl, rfl⟩
section
variable {X : Cx} {pins : List (Addr × Obj)} {σ : L2.St} {H : Hp} {s : Shared}
theorem Kd.begins (I : Inv X pins σ H s) {k : Kd} {vs : List V} (hv : k.its X.K H vs) : ∃ G : Heap → Prop, Begins k.val k.obj G ∧ G s.heap ∧ ∀ b, s.heap.objs.size ≤ b → k.off b := by
  cases k with
  | l a =>
    obtain ⟨us, rv, pl, _⟩ := I.list hv
    exact ⟨_, begins_list a us.toArray, pl.isList, fun b hb w => Nat.lt_irrefl _ (Nat.lt_of_lt_of_le (w ▸ pl.lt) hb)⟩
  | t a =>
    obtain ⟨us, rv, pt, _⟩ := I.tuple hv
    obtain ⟨o, ho, _⟩ := id pt
    exact ⟨_, begins_tuple a us.toArray, pt, fun b hb w => Nat.lt_irrefl _ (Nat.lt_of_lt_of_le (w ▸ Heap.lt_size ho) hb)⟩
  | s x tk => exact ⟨_, begins_text x tk, trivial, fun _ _ => trivial⟩
end
/-- a value is of a kind -/
inductive OfK : V → Value → Kd → Prop where
  | l (a : Addr) : OfK (.ref a) (.ref a) (.l a)
  | t (a : Addr) : OfK (.ref a) (.ref a) (.t a)
  | s (x : Str) (tk : Tok) : OfK (.str x) (.str x tk) (.s x tk)
theorem OfK.val {v : V} {u : Value} {k : Kd} (h : OfK v u k) : u = k.val := by
  cases h <;> rfl
theorem apG_new {k1 k2 : Kd} (n : Nat) (f1 : ∀ b, n ≤ b → k1.off b) (f2 : ∀ b, n ≤ b → k2.off b) : ApG (n + 4) (n + 2) (n + 3) n (n + 1) k1 k2 := by
  have ne : ∀ i j : Nat, i ≠ j → (n + i : Nat) ≠ n + j := fun i j h => by omega
  have le : ∀ b : Nat, b ∈ [n + 4, n + 3, n, n + 1] → n ≤ b := fun b hb => by
    simp only [List.mem_cons, List.not_mem_nil, or_false] at hb
    omega
  exact ⟨ne 2 4 (by decide), ne 3 4 (by decide), ne 2 3 (by decide), ne 2 0 (by decide), ne 2 1 (by decide), ne 0 4 (by decide), ne 1 4 (by decide), ne 0 3 (by decide), ne 1 3 (by decide), ne 0 1 (by decide), fun b hb => f1 b (le b hb), fun b hb => f2 b (le b hb)⟩
def iZipG (K : PySem.W.Frag) (ta : TA) : TI := fun σ H R => ta σ H fun vs H1 => ∃ x y, vs = [x, y] ∧ ∀ u1 u2, RelV x u1 → RelV y u2 → ∃ k1 k2 ws us, OfK x u1 k1 ∧ OfK y u2 k2 ∧ k1.its K H1 ws ∧ k2.its K H1 us ∧ R (ItG K k1 k2) H1
theorem pi_zipG {X : Cx} {e e2 : Expr} {ta : TA} {p pos tpos : Pos} {elts : List Expr} {kk : Nat} (hm : X.mg "zip" = none) (ha : PA X [e, e2] ta) (hg : Gl X "zip" := by rfl)
    (hs : starEach [e, e2] X.env = (false, eval e X.env) :: starEach [e2] X.env := by rfl) (hpl : (backTo pos (starEach [e2] X.env)).any (·.1) = false := by rfl) :
    PI X (.Tuple elts kk tpos) (.Call (.Name "zip" p) [e, e2] [] pos) (iZipG X.K ta) := by
  refine ⟨fun pins s σ H R I h => Call_ (ld_blt I hg hm PyProof.Rows.boot_zip (PyProof.Rows.callWith_type1 (thn (ha.run pos pins s σ H _ I h) fun us s1 ⟨vs, H1, I1, rv, q⟩ => ?_) hs hpl))⟩
  obtain ⟨x, y, rfl, q⟩ := q
  obtain ⟨u1, u2, rfl, rx, ry⟩ := vals2 rv
  obtain ⟨k1, k2, ws, us, o1, o2, i1, i2, q⟩ := q u1 u2 rx ry
  obtain ⟨G1, B1, g1, f1⟩ := Kd.begins I1 i1
  obtain ⟨G2, B2, g2, f2⟩ := Kd.begins I1 i2
  rw [o1.val, o2.val]
  refine zip_begins2 B1 B2 g1 g2 fun h' z1 z2 z3 z4 z5 z6 kp => wpAny_pyIter_zip z1 ?_
  have I2 : Inv X pins σ H1 { s1 with heap := h' } := I1.kept (t' := s1.toks) kp
  have ap := apG_new s1.heap.objs.size f1 f2
  refine ⟨s1.heap.objs.size + 4, [s1.heap.objs.size + 4, s1.heap.objs.size + 2, s1.heap.objs.size + 3, s1.heap.objs.size, s1.heap.objs.size + 1], _, _, H1, rfl, I2, turn_zipG ap, ⟨z1, z2, ⟨_, _, z3⟩, k1.at0 z4, k2.at0 z5⟩, fun c hc => ?_, q⟩
  have hle : s1.heap.objs.size ≤ c := five (P := fun c => s1.heap.objs.size ≤ c) hc (Nat.le_add_right _ _) (Nat.le_add_right _ _) (Nat.le_add_right _ _) (Nat.le_refl _) (Nat.le_add_right _ _)
  exact I1.fpOk hle (I1.hok.fresh hle)
/-! data -/
section
variable {X : Cx} {K : PySem.W.Frag} {m m' m2 m1 : List Addr} {S S' S2 : Store} {H H' H2 H1 : Hp} {env env' : SEnv} {σ : L2.St} {pos : Pos}
def srcOf (S : Store) : D → Option (List D × Gd)
  | .tup xs => some (xs, [])
  | .fl xs => some (xs, [])
  | .str x => some (signs x, [])
  | .ref r => match S[r]? with
    | some (.lst xs) => some (xs, [(r, xs)])
    | _ => none
  | _ => none
def KW (K : PySem.W.Frag) (m : List Addr) (H : Hp) (k : Kd) (xs : List D) (g : Gd) : Prop := ∀ m2 S2 H2, Rel K m2 S2 H2 → Ext m H m2 H2 → gdOk S2 g → ∃ vs, k.its K H2 vs ∧ Reps K m2 H2 xs vs
theorem signs_rep {x : Str} : Reps K m H (signs x) (x.cps.toList.map fun c => V.str ⟨#[c]⟩) := by
  unfold signs
  induction x.cps.toList with
  | nil => exact .nil
  | cons c r ih => exact .cons (.str _) ih
theorem srcOf_rep (rl : Rel K m S H) {d : D} {v : V} {xs : List D} {g : Gd} (r : Rep K m H d v) (e : srcOf S d = some (xs, g)) : gdOk S g ∧ ∀ u, RelV v u → ∃ k, OfK v u k ∧ KW K m H k xs g := by
  cases r with
  | tup h1 h2 =>
    cases e
    refine ⟨gdOk_nil S, fun u hu => ?_⟩
    cases hu
    exact ⟨_, .t _, fun m2 S2 H2 rl2 x2 _ => ⟨_, rl.sqT x2 h1, h2.mono rl x2⟩⟩
  | fl h1 h2 =>
    cases e
    refine ⟨gdOk_nil S, fun u hu => ?_⟩
    cases hu
    exact ⟨_, .l _, fun m2 S2 H2 rl2 x2 _ => ⟨_, (rl.fzL x2 h1).sq, h2.mono rl x2⟩⟩
  | str x =>
    cases e
    refine ⟨gdOk_nil S, fun u hu => ?_⟩
    obtain ⟨t, rfl⟩ := hu
    exact ⟨_, .s x t, fun m2 S2 H2 rl2 x2 _ => ⟨_, rfl, signs_rep⟩⟩
  | @ref i a hi =>
    unfold srcOf at e
    simp only at e
    cases e1 : S[i]? with
    | none => rw [e1] at e; cases e
    | some o =>
      rw [e1] at e
      cases o with
      | lst ys =>
        cases e
        refine ⟨fun p hp => by rw [List.mem_singleton.mp hp]; exact e1, fun u hu => ?_⟩
        cases hu
        refine ⟨_, .l _, fun m2 S2 H2 rl2 x2 g2 => ?_⟩
        obtain ⟨p, w, q1, q2, q3⟩ := rl2.at (g2 (i, xs) (List.mem_singleton.mpr rfl))
        rw [x2.at hi] at q1
        cases q1
        cases q3 with
        | lst q3 => exact ⟨_, .inl (.inl q2), q3⟩
      | _ => cases e
  | _ => cases e
theorem KW.mono {k : Kd} {xs : List D} {g : Gd} (e : Ext m H m1 H1) (h : KW K m H k xs g) : KW K m1 H1 k xs g := fun m2 S2 H2 rl x q => h m2 S2 H2 rl (e.trans x) q
def zipD (xs ys : List D) : List D := (xs.zip ys).map fun p => .tup [p.1, p.2]
theorem walk_zipG {k1 k2 : Kd} {xs ys : List D} {g1 g2 : Gd} (w1 : KW K m H k1 xs g1) (w2 : KW K m H k2 ys g2) : WalkD K m H (ItG K k1 k2) (zipD xs ys) (g1 ++ g2) := by
  have hl : (zipD xs ys).length = min xs.length ys.length := by unfold zipD; rw [List.length_map, List.length_zip]
  have sp : ∀ {S2 : Store}, gdOk S2 (g1 ++ g2) → gdOk S2 g1 ∧ gdOk S2 g2 := fun q => ⟨fun p hp => q p (List.mem_append_left _ hp), fun p hp => q p (List.mem_append_right _ hp)⟩
  refine ⟨fun i H2 hi ⟨m2, S2, rl2, x2, g⟩ => ?_, fun H2 ⟨m2, S2, rl2, x2, g⟩ => ?_, fun i H2 x H3 hi _ y m2 S2 rl2 x2 g => ?_⟩
  · obtain ⟨vs, a1, a2⟩ := w1 m2 S2 H2 rl2 x2 (sp g).1
    obtain ⟨us, b1, b2⟩ := w2 m2 S2 H2 rl2 x2 (sp g).2
    rw [hl] at hi
    exact ⟨vs, us, a1, b1, by rw [← a2.length]; omega, by rw [← b2.length]; omega⟩
  · obtain ⟨vs, a1, a2⟩ := w1 m2 S2 H2 rl2 x2 (sp g).1
    obtain ⟨us, b1, b2⟩ := w2 m2 S2 H2 rl2 x2 (sp g).2
    rw [hl]
    exact ⟨vs, us, a1, b1, by rw [← a2.length]; omega, by rw [← b2.length]; omega, by rw [← a2.length, ← b2.length]; omega⟩
  · obtain ⟨vs, a1, a2⟩ := w1 m2 S2 H2 rl2 x2 (sp g).1
    obtain ⟨us, b1, b2⟩ := w2 m2 S2 H2 rl2 x2 (sp g).2
    rw [hl] at hi
    obtain ⟨T, u, v, rfl, hT, rfl, c1, c2⟩ := y
    have hi1 : i < xs.length := by omega
    have hi2 : i < ys.length := by omega
    obtain ⟨u', d1, d2⟩ := a2.get (List.getElem?_eq_getElem hi1)
    obtain ⟨v', d3, d4⟩ := b2.get (List.getElem?_eq_getElem hi2)
    rw [c1 vs a1] at d1
    rw [c2 us b1] at d3
    cases d1
    cases d3
    obtain ⟨z1, z2, z3⟩ := rl2.tup hT (.cons d2 (.cons d4 .nil))
    refine ⟨_, ?_, z1, z2, z3⟩
    unfold zipD
    rw [List.getElem?_map, List.getElem?_eq_getElem (by rw [List.length_zip]; omega), List.getElem_zip]
    rfl
def iZipM (f : SEnv → M (List D)) : SEnv → M (List D × Gd) := fun env => bnd (f env) fun ds S => match ds with
  | [a, b] => match srcOf S a, srcOf S b with
    | some (xs, g1), some (ys, g2) => some ((zipD xs ys, g1 ++ g2), S)
    | _, _ => none
  | _ => none
theorem di_zip {e e2 : Expr} {ta : TA} {f : SEnv → M (List D)} {p tpos : Pos} {elts : List Expr} {kk : Nat} (hm : X.mg "zip" = none) (ha : DA X [e, e2] ta f) (hg : Gl X "zip" := by rfl)
    (hs : starEach [e, e2] X.env = (false, eval e X.env) :: starEach [e2] X.env := by rfl) (hpl : (backTo pos (starEach [e2] X.env)).any (·.1) = false := by rfl) :
    DI X (.Tuple elts kk tpos) (.Call (.Name "zip" p) [e, e2] [] pos) (iZipG X.K ta) (iZipM f) := ⟨pi_zipG hm ha.pa hg hs hpl, fun m S H env σ rl re xs g S' hh R q => by
  obtain ⟨ds, S1, e1, h1⟩ := bnd_some hh
  refine ha.sa rl re ds S1 e1 _ fun m1 H1 vs rl1 x1 rv => ?_
  split at h1
  · rename_i a b
    obtain ⟨v, u, rfl, r1, r2⟩ := rv.two
    cases ea : srcOf S1 a with
    | none => rw [ea] at h1; cases h1
    | some pa =>
      cases eb : srcOf S1 b with
      | none => rw [ea, eb] at h1; cases h1
      | some pb =>
        obtain ⟨xs1, g1⟩ := pa
        obtain ⟨ys1, g2⟩ := pb
        rw [ea, eb] at h1
        cases h1
        refine ⟨v, u, rfl, fun u1 u2 hu1 hu2 => ?_⟩
        obtain ⟨gk1, w1⟩ := srcOf_rep rl1 r1 ea
        obtain ⟨gk2, w2⟩ := srcOf_rep rl1 r2 eb
        obtain ⟨k1, o1, w1⟩ := w1 u1 hu1
        obtain ⟨k2, o2, w2⟩ := w2 u2 hu2
        obtain ⟨ws, a1, _⟩ := w1 m1 _ H1 rl1 .refl gk1
        obtain ⟨us, b1, _⟩ := w2 m1 _ H1 rl1 .refl gk2
        exact ⟨k1, k2, ws, us, o1, o2, a1, b1, q m1 H1 _ rl1 x1 (walk_zipG w1 w2)⟩
  · cases h1⟩
end
end TS
set_option Elab.async false
set_option linter.all false
set_option maxRecDepth 100000
namespace TS
open PySem PySem.Spec PyProof.Rows L2
section
variable {X : Cx} {K : PySem.W.Frag} {m m' m2 m1 : List Addr} {S S' S2 : Store} {H H' H2 H1 : Hp} {env env' : SEnv} {σ : L2.St} {pos : Pos}
/-! ### one rule for all kinds -/
theorem ix_dct (hu : X.A.units + 1 < cLine) : IxR X (fun x y H Q => ∃ a v, x = .ref a ∧ DGet H a y (some v) ∧ Q v H) := by
  intro value slice pins s σ H x y v u Q I rx ry h hs
  obtain ⟨a, w, rfl, g, q⟩ := h
  cases rx
  exact tail_any (dict_typeIs I g) PySem.F.slot_dict_getitem.lookup (d_getItem hu I g ry fun w' s3 I3 rw' => ⟨w, H, I3, rw', q⟩) hs
def isDct (S : Store) (a : D) : Bool := match a with
  | .ref i => match S[i]? with
    | some (.dK _) => true
    | _ => false
  | _ => false
def ixU (a b : D) : M D := fun S => if isDct S a = true then dgetM a b S else ixD a b S
def rIxU (K : PySem.W.Frag) : R2 := fun x y H Q => (∃ a v, x = .ref a ∧ DGet H a y (some v) ∧ Q v H) ∨ rIx K x y H Q
theorem ix_u (hu : X.A.units + 1 < cLine) : DIx X (rIxU X.K) ixU := ⟨(ix_dct hu).or ix_seq, fun m S H x y a b rl ra rb d S' h Q q => by
  unfold ixU at h
  split at h
  · refine .inl ?_
    unfold dgetM at h
    split at h
    · split at h
      · split at h
        · cases h
          rename_i k hk _ _ kvs e3 _ e4
          obtain ⟨p, us, rfl, _, q3, q4⟩ := rl.dict e3 ra
          rcases q4.look (k := k) with ⟨d1, v1, w1, w2, w3⟩ | ⟨w1, w2⟩
          · rw [w1] at e4
            cases e4
            refine ⟨p, v1, rfl, ?_, q m H v1 rl .refl w3⟩
            rw [keyOf_rep rb hk, ← w2]
            exact DGet.k q3
          · rw [w1] at e4
            cases e4
        · cases h
      · cases h
    · cases h
  · exact .inr (ix_sr rl ra rb d S' h Q q)⟩
theorem op_inDct (hu : X.A.units + 1 < cLine) : OpR X (compareOp .In) (fun x y H Q => ∃ a o, y = .ref a ∧ DGet H a x o ∧ Q (.bl o.isSome) H) := by
  intro pins s σ H x y v u Q I rx ry h
  obtain ⟨a, o, rfl, g, q⟩ := h
  cases ry
  exact d_in hu I g rx fun s3 I3 => ⟨.bl o.isSome, H, I3, rfl, q⟩
theorem op_ninDct (hu : X.A.units + 1 < cLine) : OpR X (compareOp .NotIn) (fun x y H Q => ∃ a o, y = .ref a ∧ DGet H a x o ∧ Q (.bl (!o.isSome)) H) := by
  intro pins s σ H x y v u Q I rx ry h
  obtain ⟨a, o, rfl, g, q⟩ := h
  cases ry
  exact d_notIn hu I g rx fun s3 I3 => ⟨.bl (!o.isSome), H, I3, rfl, q⟩
def inUB (a b : D) : M Bool := fun S => if isDct S b = true then dinB a b S else inB a b S
def inU (a b : D) : M D := bnd (inUB a b) fun k => ret (.bl k)
def ninU (a b : D) : M D := bnd (inUB a b) fun k => ret (.bl (!k))
def rInU (K : PySem.W.Frag) : R2 := fun x y H Q => (∃ a o, y = .ref a ∧ DGet H a x o ∧ Q (.bl o.isSome) H) ∨ rInA K x y H Q
def rNinU (K : PySem.W.Frag) : R2 := fun x y H Q => (∃ a o, y = .ref a ∧ DGet H a x o ∧ Q (.bl (!o.isSome)) H) ∨ rNotInA K x y H Q
theorem o_inU (hu : X.A.units + 1 < cLine) : DO2 X (compareOp .In) (rInU X.K) inU := ⟨(op_inDct hu).or (op_in_sign.or op_in_seq), fun m S H x y a b rl ra rb d S' h Q q => by
  obtain ⟨k, S1, h1, h2⟩ := bnd_some h
  cases h2
  unfold inUB at h1
  split at h1
  · obtain ⟨rfl, p, o, rfl, g, rfl⟩ := dinB_rep rl ra rb h1
    exact .inl ⟨p, o, rfl, g, q m H _ rl .refl (.bl _)⟩
  · exact .inr (o_in (X := X).sr rl ra rb _ _ (bnd_eq h1) Q q)⟩
theorem o_ninU (hu : X.A.units + 1 < cLine) : DO2 X (compareOp .NotIn) (rNinU X.K) ninU := ⟨(op_ninDct hu).or (op_notIn_sign.or op_notIn_seq), fun m S H x y a b rl ra rb d S' h Q q => by
  obtain ⟨k, S1, h1, h2⟩ := bnd_some h
  cases h2
  unfold inUB at h1
  split at h1
  · obtain ⟨rfl, p, o, rfl, g, rfl⟩ := dinB_rep rl ra rb h1
    exact .inl ⟨p, o, rfl, g, q m H _ rl .refl (.bl _)⟩
  · exact .inr (o_notin (X := X).sr rl ra rb _ _ (bnd_eq h1) Q q)⟩
def setU (a b d : D) : M Unit := fun S => if isDct S a = true then dsetM a b d S else setLM a b d S
def rSetU : TSet := fun o i v H Q => rSetD o i v H Q ∨ rSetL o i v H Q
theorem set_u (hu : X.A.units + 1 < cLine) : DSet X rSetU setU := ⟨fun pins s σ H o i v ov iv u Q I ro ri rv h => by
  rcases h with h | h
  · exact set_dict hu pins s σ H o i v ov iv u Q I ro ri rv h
  · exact set_list pins s σ H o i v ov iv u Q I ro ri rv h, fun m S H o i v a b d rl ra rb rd S' h Q q => by
  unfold setU at h
  split at h
  · exact .inl ((set_d hu).sr rl ra rb rd S' h Q q)
  · exact .inr ((set_l (X := X)).sr rl ra rb rd S' h Q q)⟩
/-- name += e -/
def iaddD (a b : D) : M D := fun S => match a, b with
  | .int i, .int j => some (.int (i + j), S)
  | .str x, .str y => if x.length + y.length ≤ sizeLine then some (.str (x ++ y), S) else none
  | _, _ => none
def rIadd : R2 := fun x y H Q => rI0 (fun i j => .int (i + j)) x y H Q ∨ (∃ i j, x = .str i ∧ y = .str j ∧ i.length + j.length ≤ sizeLine ∧ Q (.str (i ++ j)) H)
theorem o_iadd : DO2 X (inplaceOp .Add) rIadd iaddD := ⟨iop_add.or iop_add_str, fun m S H x y a b rl ra rb d S' h Q q => by
  unfold iaddD at h
  split at h
  · cases h; cases ra; cases rb
    exact .inl ⟨_, _, rfl, rfl, q m H _ rl .refl (.int _)⟩
  · split at h
    · cases h; cases ra; cases rb
      rename_i c
      exact .inr ⟨_, _, rfl, rfl, c, q m H _ rl .refl (.str _)⟩
    · cases h
  · cases h⟩
theorem o_isub : DO2 X (inplaceOp .Sub) (rI0 fun i j => .int (i - j)) subD := ⟨iop_sub, fun m S H x y a b rl ra rb d S' h Q q => by
  unfold subD at h
  split at h
  · cases h; cases ra; cases rb
    exact ⟨_, _, rfl, rfl, q m H _ rl .refl (.int _)⟩
  · cases h⟩
/-! a for or a comprehension over a list, a tuple or a text -/
def It1 (K : PySem.W.Frag) : Kd → It
  | .l a => Itl K a
  | .t a => Itt K a
  | .s x _ => Its x
theorem turn_one {P : Program} {w : World} {tg : Expr} (k : Kd) (it : Addr) : Turn P w K tg (It1 K k) [it] it (fun i h => k.at it i h) := by
  cases k with
  | l a => exact turn_list a it
  | t a => exact turn_tuple a it
  | s x tk => exact turn_str it x tk (strIterType x) (by
      unfold strIterType
      split
      · exact .inl rfl
      · exact .inr rfl)
def iAny (K : PySem.W.Frag) (te : TE) : TI := fun σ H R => te σ H fun x H1 => ∀ u, RelV x u → ∃ k vs, OfK x u k ∧ k.its K H1 vs ∧ R (It1 K k) H1
theorem pi_any {tg e : Expr} {te : TE} (he : PE X e te) : PI X tg e (iAny X.K te) := by
  refine ⟨fun pins s σ H R I h => thn (he.run pins s σ H _ I h) fun u s1 ⟨x, H1, I1, rx, q⟩ => ?_⟩
  obtain ⟨k, vs, o, iv, q⟩ := q u rx
  obtain ⟨G, B, g, f⟩ := Kd.begins I1 iv
  rw [o.val]
  refine B.iter _ _ _ _ _ _ g ?_
  refine ⟨s1.heap.objs.size, [s1.heap.objs.size], _, _, H1, rfl, I1.kept (t' := s1.toks) fun b ob e1 => Heap.get?_push_of_some _ e1, turn_one k _, k.at0 (Heap.get?_push_size _ B.free), fun b hb => ?_, q⟩
  rw [List.mem_singleton.mp hb]
  exact I1.fpOk (Nat.le_refl _) (I1.hok.fresh (Nat.le_refl _))
theorem walk_one {k : Kd} {xs : List D} {g : Gd} (w : KW K m H k xs g) : WalkD K m H (It1 K k) xs g := by
  refine ⟨fun i H2 hi ⟨m2, S2, rl2, x2, g2⟩ => ?_, fun H2 ⟨m2, S2, rl2, x2, g2⟩ => ?_, fun i H2 x H3 hi _ y m2 S2 rl2 x2 g2 => ?_⟩
  · obtain ⟨vs, a1, a2⟩ := w m2 S2 H2 rl2 x2 g2
    have hv : i < vs.length := by rw [← a2.length]; exact hi
    cases k with
    | l a => exact ⟨vs, vs[i], a1, List.getElem?_eq_getElem hv⟩
    | t a => exact ⟨vs, vs[i], a1, List.getElem?_eq_getElem hv⟩
    | s z tk =>
      have a1' : vs = z.cps.toList.map fun c => V.str ⟨#[c]⟩ := a1
      rw [a1', List.length_map, Array.length_toList] at hv
      exact hv
  · obtain ⟨vs, a1, a2⟩ := w m2 S2 H2 rl2 x2 g2
    cases k with
    | l a => exact ⟨vs, a1, by rw [a2.length]; exact Nat.le_refl _⟩
    | t a => exact ⟨vs, a1, by rw [a2.length]; exact Nat.le_refl _⟩
    | s z tk =>
      have a1' : vs = z.cps.toList.map fun c => V.str ⟨#[c]⟩ := a1
      show z.cps.size ≤ xs.length
      rw [a2.length, a1', List.length_map, Array.length_toList]
      exact Nat.le_refl _
  · obtain ⟨vs, a1, a2⟩ := w m2 S2 H2 rl2 x2 g2
    obtain ⟨v, h3, h4⟩ := a2.get (List.getElem?_eq_getElem hi)
    cases k with
    | l a =>
      obtain ⟨rfl, e⟩ := y
      rw [e vs a1] at h3
      cases h3
      exact ⟨_, List.getElem?_eq_getElem hi, rl2, .refl, h4⟩
    | t a =>
      obtain ⟨rfl, e⟩ := y
      rw [e vs a1] at h3
      cases h3
      exact ⟨_, List.getElem?_eq_getElem hi, rl2, .refl, h4⟩
    | s z tk =>
      obtain ⟨rfl, c, hc, rfl⟩ := y
      have a1' : vs = z.cps.toList.map fun c => V.str ⟨#[c]⟩ := a1
      rw [a1', List.getElem?_map, Array.getElem?_toList, hc] at h3
      cases h3
      exact ⟨_, List.getElem?_eq_getElem hi, rl2, .refl, h4⟩
def iAnyM (f : SEnv → M D) : SEnv → M (List D × Gd) := fun env => bnd (f env) fun d S => match srcOf S d with
  | some p => some (p, S)
  | none => none
theorem di_any {tg l : Expr} {tl : TE} {f : SEnv → M D} (h : DE X l tl f) : DI X tg l (iAny X.K tl) (iAnyM f) := ⟨pi_any h.pe, fun m S H env σ rl re xs g S' hh R q => by
  obtain ⟨d, S1, e1, h1⟩ := bnd_some hh
  refine h.se rl re d S1 e1 _ fun m1 H1 v rl1 x1 rv => ?_
  cases e : srcOf S1 d with
  | none => rw [e] at h1; cases h1
  | some p =>
    rw [e] at h1
    cases h1
    obtain ⟨gk, w⟩ := srcOf_rep rl1 rv e
    intro u hu
    obtain ⟨k, o, w⟩ := w u hu
    obtain ⟨vs, iv, _⟩ := w m1 _ H1 rl1 .refl gk
    exact ⟨k, vs, o, iv, q m1 H1 _ rl1 x1 (walk_one w)⟩⟩
end
end TS
set_option Elab.async false
set_option linter.all false
set_option maxRecDepth 100000
set_option maxHeartbeats 2000000
namespace TS
open PySem PySem.Spec PyProof.Rows L2
section
variable {prog : Program} {w : World} {A : Around} {E : Value → Shared → Prop} {s : Shared}
/-! ### list of a text -/
theorem hint_txt {z : Str} {u : Tok} {Q : Bool → Shared → Prop} (h : Q false s) : wpAny (model prog w) A (Builtin.List.listLengthHint (.str z u)) Q E s := by
  have ty : s.TypeIs (.str z u) "str" := typeIs_str s z u
  unfold Builtin.List.listLengthHint
  refine wpAny_bind (wpAny_specialOf ty F.slot_str_len.lookup ?_)
  generalize hq : ("str.__len__" : String) = nm
  wp_delta
  rw [show splitId nm = some ("str", "__len__") from by subst hq; decide +kernel]
  subst hq
  refine wpAny_bind (wpAny_isInstance (T := "str") (b := true) ty (by rw [isSubtype_type]; kernel_rfl) ?_)
  refine wpAny_ite_split (fun c => absurd c (by decide)) (fun _ => ?_)
  refine wpAny_ite_split (fun _ => ?_) (fun c => absurd (by decide +kernel) c)
  exact wpAny_bind (wpAny_typeOf ty (wpAny_pure h))
/-- one sign of a text -/
def SgAt (z : Str) (i : Nat) (v : Value) : Prop := ∃ c u, z.cps[i]? = some c ∧ v = .str ⟨#[c]⟩ u
theorem walks_txt (hh : A.handled = none) (z : Str) (u : Tok) (J : Addr) : Walks prog w A J [J] [J] z.cps.size (SgAt z) (fun i h => h.IsStrIter J (strIterType z) z u i) := by
  unfold strIterType
  cases q : z.cps.all (· < 128)
  · exact Walks.strWide hh J z u
  · exact Walks.strAscii hh J z u
theorem ext_txt {R : Result → Shared → Prop} (hh : A.handled = none) (z : Str) (u : Tok) (L : Addr) (out : Value) (c0 : Nat) (hL : s.heap.get? L = some { cls := .type "list", data := .seq #[] c0 }) (hz : z.cps.size ≤ sizeLine)
    (hR : ∀ g tk acc c1, (∀ b o, b ≠ L → s.heap.get? b = some o → g.get? b = some o) → g.get? L = some { cls := .type "list", dict := none, data := .seq acc c1, slots := #[] } →
      ItemsOf (SgAt z) acc z.cps.size → R (.ok (.ret out)) { s with heap := g, toks := tk }) :
    wpAny (model prog w) A.in1 (Builtin.List.listExtendWith (.ref L) (.str z u) out)
      (fun r s' => match r with | .done f => R (.ok f) s' | .again c => c.quiet = true ∧ codeAny (model prog w) A c R s') (fun e s' => R (.error e) s') s := by
  have nLI : L ≠ s.heap.objs.size := Nat.ne_of_lt (Heap.lt_size hL)
  have nLf : L ∉ [s.heap.objs.size] := fun q => nLI (List.mem_singleton.mp q)
  unfold Builtin.List.listExtendWith
  refine wpAny_bind (wpAny_typeOf (T := "str") (v := .str z u) (typeIs_str s z u) ?_)
  have t1 : Builtin.List.listSameRef (.ref L) (.str z u) = false := rfl
  have t2 : (Value.type "str" == Value.type "list") = false := by decide
  have t3 : (Value.type "str" == Value.type "tuple") = false := by decide
  simp only [t1, t2, t3, Bool.or_false, Bool.false_eq_true, if_false]
  refine wpAny_bind (wpAny_pyIter_strU ?_)
  refine wpAny_bind (wpAny_holding (hint_txt ?_))
  rw [if_neg (by first | decide | decide +kernel)]
  have W := walks_txt (prog := prog) (w := w) (A := A.in1) hh z u s.heap.objs.size
  have st0 : (s.heap.push { cls := .type (strIterType z), data := .fields #[.str z u, .int 0 0] }).IsStrIter s.heap.objs.size (strIterType z) z u 0 := ⟨_, Heap.get?_push_size _ rfl, rfl, rfl⟩
  refine wpAny_pure ⟨plainId_quiet PySem.F.plain_extend_loop _, codeAny_extend_loopS W.toS hz _ nLf _ z.cps.size 0 _ _ _ rfl (Nat.zero_le _) st0 (Heap.get?_push_of_some _ hL) (ItemsOf.nil _) fun s2 acc c1 mv hL2 ha => ?_⟩
  rw [Moved.eq_with mv]
  refine hR s2.heap s2.toks acc c1 (fun b o hb e => mv.heap b o (fun q => ?_) (Heap.get?_push_of_some _ e)) hL2 ha
  rcases List.mem_cons.mp q with e1 | q
  · exact hb e1
  · rw [List.mem_singleton.mp q] at e
    exact Nat.lt_irrefl _ (Heap.lt_size e)
theorem init_txt {R : Result → Shared → Prop} (hh : A.handled = none) (z : Str) (u : Tok) (L : Addr) (hL : s.heap.get? L = some { cls := .type "list", data := .seq #[] }) (hz : z.cps.size ≤ sizeLine)
    (hR : ∀ g tk acc c1, (∀ b o, b ≠ L → s.heap.get? b = some o → g.get? b = some o) → g.get? L = some { cls := .type "list", dict := none, data := .seq acc c1, slots := #[] } →
      ItemsOf (SgAt z) acc z.cps.size → R (.ok (.ret .none)) { s with heap := g, toks := tk }) :
    wpAny (model prog w) A.in1 (Builtin.«list.__init__» ⟨[.ref L, .str z u], []⟩)
      (fun r s' => match r with | .done f => R (.ok f) s' | .again c => c.quiet = true ∧ codeAny (model prog w) A c R s') (fun e s' => R (.error e) s') s := by
  show wpAny _ _ (Builtin.List.listItems (.ref L) >>= fun old => Builtin.List.listUpdate (.ref L) (fun _ => #[]) >>= fun _ => letGo old.toList.reverse >>= fun _ => Builtin.List.listExtendWith (.ref L) (.str z u) .none) _ _ s
  refine wpAny_bind ?_
  unfold Builtin.List.listItems
  refine wpAny_bind (wpAny_seqItems hL rfl (wpAny_pure ?_))
  show wpAny _ _ (updateSeq L (fun _ => #[]) >>= fun _ => letGo (#[] : Array Value).toList.reverse >>= fun _ => Builtin.List.listExtendWith (.ref L) (.str z u) .none) _ _ s
  refine wpAny_bind (wpAny_updateSeq hL rfl ?_)
  have hL2 := Heap.get?_update_self (Obj.mapSeq (fun _ => (#[] : Array Value))) hL rfl
  have other : ∀ b o, b ≠ L → s.heap.get? b = some o → (s.heap.update L (Obj.mapSeq (fun _ => (#[] : Array Value)))).get? b = some o := fun b o hb e => (Heap.get?_update_other _ _ (Ne.symm hb)).trans e
  refine wpAny_bind (wpAny_letGo ?_)
  exact ext_txt hh z u L .none _ hL2 hz fun g tk acc c1 kp a1 a2 => hR g tk acc c1 (fun b o hb e => kp b o hb (other b o hb e)) a1 a2
theorem call_list_txt {z : Str} {u : Tok} {Q : Value → Shared → Prop} (hh : A.handled = none) (hz : z.cps.size ≤ sizeLine)
    (hQ : ∀ g tk acc c1, (∀ b o, s.heap.get? b = some o → g.get? b = some o) → g.get? s.heap.objs.size = some { cls := .type "list", dict := none, data := .seq acc c1, slots := #[] } → ItemsOf (SgAt z) acc z.cps.size → Q (.ref s.heap.objs.size) { s with heap := g, toks := tk }) :
    wpAny (model prog w) A (call (.type "list") [.str z u]) Q E s := by
  refine callType_codes (Q₁ := fun ob s1 => ob = .ref s.heap.objs.size ∧ s1 = { s with heap := s.heap.push { cls := .type "list", data := .seq #[] } }) PySem.F.called_list (PySem.F.typeCall_list_1 _) PySem.F.entry_list_init
    (code_list_new _ ⟨rfl, rfl⟩) fun ob s1 q => ?_
  obtain ⟨rfl, rfl⟩ := q
  have hL : (s.heap.push { cls := .type "list", data := .seq #[] }).get? s.heap.objs.size = some { cls := .type "list", data := .seq #[] } := Heap.get?_push_size _ rfl
  refine ⟨⟨_, hL, rfl⟩, PySem.F.args_list_init_2 _ _, init_txt (A := A.in1) hh z u _ hL hz fun g tk acc c1 kp a1 a2 => ?_⟩
  exact ⟨rfl, hQ g tk acc c1 (fun b o e => kp b o (Nat.ne_of_lt (Heap.lt_size e)) (Heap.get?_push_of_some _ e)) a1 a2⟩
/-! ### a tuple once -/
theorem tuple_once (l : Addr) (items : Array Value) (n : Nat) (dd : Option Addr) (sl : Array (Option Value)) (u : Tok) :
    Meets (Builtin.«tuple.__mul__» ⟨[.ref l, .int 1 u], []⟩) (fun _ R s => s.heap.get? l = some { cls := .type "tuple", dict := dd, data := .seq items n, slots := sl } ∧ R (.ok (.ret (Value.ref l))) s) :=
  .of_wp fun prog w A R s h => by
    obtain ⟨hp, g, d, tk, os⟩ := s
    obtain ⟨hl, h⟩ := h
    have ix := AutoSeq1.idx_int
    have big : (decide ((1 : Int) < -(2 ^ 63)) || decide ((1 : Int) ≥ 2 ^ 63)) = false := by decide
    have one : (items.isEmpty || (1 : Int) == 1) = true := by simp
    wp_walk using wpAny_loadPart' hl
    repeat (first
      | (refine wpAny_ite_false (decide_eq_false (by rw [big]; exact Bool.false_ne_true)) ?_; wp_walk using wpAny_loadPart' hl)
      | (refine wpAny_ite_true (decide_eq_true one) ?_; wp_walk using wpAny_loadPart' hl))
    exact ⟨_, rfl, h⟩
end
section
variable {X : Cx} {K : PySem.W.Frag}
def rOnce (K : PySem.W.Frag) : R2 := fun x y H Q => ∃ l xs, x = .ref l ∧ y = .int 1 ∧ SqT K H l xs ∧ Q (.ref l) H
theorem op_once : OpR X (binaryOp .Mult) (rOnce X.K) := by
  intro pins s σ H x y v u Q I rx ry h
  obtain ⟨l, xs, rfl, rfl, ht, q⟩ := h
  cases rx
  obtain ⟨tk, rfl⟩ := ry
  obtain ⟨us, rv, ⟨⟨c, dd, dt, sl⟩, ho, hc, n, hd⟩, hs⟩ := I.tuple ht
  simp only at hc hd
  subst hc hd
  exact wpAny_binaryOp_repeat_ref (T := "tuple") (U := "int") (by decide) ⟨_, ho, rfl⟩ (fun s' => typeIs_int s' 1 tk) noFill_tuple_mul F.fills_int_mul F.slot_int_rmul repeat_tuple F.slot_int_index.lookup
    (call_meets F.slot_int_rmul (typeIs_int s 1 tk) F.entry_int_rmul (F.args_int_rmul_2 _ _) (int_rmul_tuple 1 tk l us.toArray n dd sl)
      ⟨ho, rfl, ⟨_, ho, rfl⟩, call_meets F.slot_tuple_mul ⟨_, ho, rfl⟩ F.entry_tuple_mul (F.args_tuple_mul_2 _ _) (tuple_once l us.toArray n dd sl tk) ⟨ho, .ref l, H, I, rfl, q⟩⟩)
def mulU (a b : D) : M D := fun S => match a, b with
  | .tup xs, .int 1 => some (.tup xs, S)
  | _, _ => mulD a b S
def rMulU (K : PySem.W.Frag) : R2 := fun x y H Q => rOnce K x y H Q ∨ rMulA K x y H Q
theorem o_mulU : DO2 X (binaryOp .Mult) (rMulU X.K) mulU := ⟨op_once.or (op_mul.or op_repT), fun m S H x y a b rl ra rb d S' h Q q => by
  unfold mulU at h
  split at h
  · cases h
    cases rb
    cases ra with
    | tup h1 h2 => exact .inl ⟨_, _, rfl, rfl, h1, q m H _ rl .refl (.tup h1 h2)⟩
  · exact .inr ((o_mul (X := X)).sr rl ra rb d S' h Q q)⟩
def powD (a b : D) : M D := fun S => match a, b with
  | .int i, .int j => if 0 ≤ j ∧ j ≤ 1000000 ∧ i.natAbs < 2 ^ 64 then some (.int (i ^ j.toNat), S) else none
  | _, _ => none
theorem o_pow : DO2 X (binaryOp .Pow) (rI CPow fun i j => .int (i ^ j.toNat)) powD := ⟨op_pow, fun m S H x y a b rl ra rb d S' h Q q => by
  unfold powD at h
  split at h
  · split at h
    · cases h; cases ra; cases rb
      rename_i c
      exact ⟨_, _, rfl, rfl, c, q m H _ rl .refl (.int _)⟩
    · cases h
  · cases h⟩
def mFind (a : D) (as : List D) : M D := fun S => match a, as with
  | .str x, [.str y] => some (.int (Txt.find x y), S)
  | _, _ => none
theorem m_find : DM X "str" "str.find" (fun x xs H Q => ∃ a b, x = .str a ∧ xs = [.str b] ∧ Q (.int (Txt.find a b)) H) mFind := ⟨mt_find, fun m S H x a xs as rl ra ras d S' h Q q => by
  unfold mFind at h
  split at h
  · cases h
    obtain ⟨v, rfl, rv⟩ := ras.one
    cases ra
    cases rv
    exact ⟨_, _, rfl, rfl, q m H _ rl .refl (.int _)⟩
  · cases h⟩
def rListU (K : PySem.W.Frag) : Rn := fun xs H Q => (∃ z : Str, xs = [.str z] ∧ z.cps.size ≤ sizeLine ∧ ∀ l, H l = none → Q (.ref l) (upd H l (.lst (z.cps.toList.map fun c => V.str ⟨#[c]⟩)))) ∨
  (∃ p ys, xs = [.ref p] ∧ (SqL K H p ys ∨ SqT K H p ys) ∧ ∀ l, H l = none → Q (.ref l) (upd H l (.lst ys)))
theorem call_list_z (hc : X.calm = true) : CallR X (.type "list") (fun xs H Q => ∃ z : Str, xs = [.str z] ∧ z.cps.size ≤ sizeLine ∧ ∀ l, H l = none → Q (.ref l) (upd H l (.lst (z.cps.toList.map fun c => V.str ⟨#[c]⟩)))) := by
  intro pins s σ H xs us Q I r h
  obtain ⟨z, rfl, hz, q⟩ := h
  obtain ⟨u, rfl, t, rfl⟩ := vals1 r
  refine call_list_txt (I.ok.hd hc) hz fun g tk acc c1 kp a1 a2 => ?_
  have vs : Vals (z.cps.toList.map fun c => V.str ⟨#[c]⟩) acc.toList := by
    refine vals_of_idx _ _ (by rw [Array.length_toList, a2.1, List.length_map, Array.length_toList]) fun j u hu => ?_
    have hu' : acc[j]? = some u := by rw [← hu, Array.getElem?_toList]
    obtain ⟨c, t', e1, rfl⟩ := a2.2 j u hu'
    exact ⟨.str ⟨#[c]⟩, by rw [List.getElem?_map, Array.getElem?_toList, e1]; rfl, t', rfl⟩
  refine ⟨.ref s.heap.objs.size, _, I.laid (t' := tk) kp (Nat.le_refl _) (show ObjOk X.prog X.w _ g _ (.lst _) from ⟨by rw [List.length_map, Array.length_toList]; exact hz, acc.toList, c1, vs, a1⟩), rfl, q _ (I.hok.fresh (Nat.le_refl _))⟩
def nListU : List D → M D
  | [.str z] => fun S => if z.cps.size ≤ sizeLine then some (.ref S.length, S ++ [.lst (signs z)]) else none
  | ds => nList ds
theorem c_listU (hc : X.calm = true) : DC X (.type "list") (rListU X.K) nListU := ⟨(call_list_z hc).or call_list_of, fun m S H xs as rl ra d S' h Q q => by
  unfold nListU at h
  split at h
  · split at h
    · cases h
      rename_i z c
      obtain ⟨v, rfl, rv⟩ := ra.one
      cases rv
      refine .inl ⟨z, rfl, c, fun l hl => ?_⟩
      obtain ⟨a1, a2, a3⟩ := rl.new hl (.lst (signs_rep (x := z)))
      exact q _ _ _ a1 a2 a3
    · cases h
  · exact .inr ((c_list (X := X)).sr rl ra d S' h Q q)⟩
end
end TS
set_option Elab.async false
set_option linter.all false
set_option maxRecDepth 100000
namespace TS
open PySem PySem.Spec PyProof.Rows L2
/-- a def of the text that may be called -/
structure Callee (P : Program) (w : World) (K : PySem.W.Frag) (mg : Str → Option Value) (base : Heap) (x : Str) (lv n : Nat) (ps : List Str) (F : List D → M D) : Prop where
  ex : ∃ (f : Addr) (fd : FuncData), FnOk P w K mg base CX0 lv f fd ps (spOf K n F) ∧ mg x = some (.ref f) ∧ PySem.W.keepIn K (.ref f) = true ∧ Binds K fd ps []
section
variable {P : Program} {w : World} {K : PySem.W.Frag} {mg : Str → Option Value} {base : Heap} {x : Str} {lv n : Nat} {ps : List Str} {F F' : List D → M D}
theorem Callee.pure (C : Callee P w K mg base x lv n ps F) : Callee P w K mg base x lv n ps (pureF F) := let ⟨f, fd, a, b, c, d⟩ := C.ex; ⟨f, fd, FnOk.pure a, b, c, d⟩
theorem Callee.weak (C : Callee P w K mg base x lv n ps F) (h : ∀ ds S r, F' ds S = some r → F ds S = some r) : Callee P w K mg base x lv n ps F' := let ⟨f, fd, a, b, c, d⟩ := C.ex; ⟨f, fd, FnOk.weak a h, b, c, d⟩
end
section
variable {X : Cx} {x : Str} {lv n : Nat} {ps : List Str} {F : List D → M D} {p pos : Pos} {e : Expr} {es : List Expr} {ta : TA} {fa : SEnv → M (List D)}
theorem de_fn (C : Callee X.prog X.w X.K X.mg X.base x lv n ps F) (hr : Room lv X.A) (ha : DA X (e :: es) ta fa)
    (hn : ∀ env S ds S', fa env S = some (ds, S') → ds.length = n := by first | exact aCons_len aNil_len | exact aCons_len (aCons_len aNil_len) | exact aCons_len (aCons_len (aCons_len aNil_len)) | exact aCons_len (aCons_len (aCons_len (aCons_len aNil_len))) | exact aCons_len (aCons_len (aCons_len (aCons_len (aCons_len aNil_len)))))
    (hg : Gl X x := by rfl) (hdb : (x == ("__debug__" : Str)) = false := by decide) (he : starEach (e :: es) X.env = (false, eval e X.env) :: starEach es X.env := by rfl) (hpl : (backTo pos (starEach es X.env)).any (·.1) = false := by rfl) :
    DE X (.Call (.Name x p) (e :: es) [] pos) (tCall (spOf X.K n F) [] E0 ta) (eCall F fa) := let ⟨f, fd, a, b, c, d⟩ := C.ex; de_callF a hr b c d ha hn hg hdb he hpl
end

/-! the same with the written part named -/
section
variable {X : Cx} {pos : Pos} (K : PySem.W.Frag) (hK : X.K = K)
include hK
theorem k_eq (hu : X.A.units + 64 < cLine) : DO2 X (compareOp .Eq) (rEqD K) eqD := by subst hK; exact o_eq hu
theorem k_ne (hu : X.A.units + 64 < cLine) : DO2 X (compareOp .NotEq) (rNeD K) neD := by subst hK; exact o_ne hu
theorem k_in (hu : X.A.units + 1 < cLine) : DO2 X (compareOp .In) (rInU K) inU := by subst hK; exact o_inU hu
theorem k_nin (hu : X.A.units + 1 < cLine) : DO2 X (compareOp .NotIn) (rNinU K) ninU := by subst hK; exact o_ninU hu
theorem k_add : DO2 X (binaryOp .Add) (rAddA K) addD := by subst hK; exact o_add
theorem k_mul : DO2 X (binaryOp .Mult) (rMulU K) mulU := by subst hK; exact o_mulU
theorem k_ix (hu : X.A.units + 1 < cLine) : DIx X (rIxU K) ixU := by subst hK; exact ix_u hu
theorem k_len : DC X (.builtin "len") (rLenA K) nLen := by subst hK; exact c_len
theorem k_isi : DC X (.builtin "isinstance") (rIsi K) nIsi := by subst hK; exact c_isi
theorem k_sum (hc : X.calm = true) : DC X (.builtin "sum") (rSum K) nSum := by subst hK; exact c_sum hc
theorem k_all (hc : X.calm = true) : DC X (.builtin "all") (rAll K) nAll := by subst hK; exact c_all hc
theorem k_any (hc : X.calm = true) : DC X (.builtin "any") (rAny K) nAny := by subst hK; exact c_any hc
theorem k_tuple : DC X (.type "tuple") (fun xs H Q => ∃ p ys, xs = [.ref p] ∧ ((SqL K H p ys ∧ ∀ l, H l = none → Q (.ref l) (upd H l (.tup ys))) ∨ (SqT K H p ys ∧ Q (.ref p) H))) nTuple := by subst hK; exact c_tuple
theorem k_list (hc : X.calm = true) : DC X (.type "list") (rListU K) nListU := by subst hK; exact c_listU hc
theorem k_sl : DSl X (rSlX K) slD := by subst hK; exact sl_any
theorem dk_truth {a : Expr} {ta : TE} {f : SEnv → M D} (h : DE X a ta f) (he : ∀ whole, isTrue a X.env whole = (do let v ← whole; standAt a.pos; holding [v] (truthy v)) := by intro _; rfl) : DT X a (fun σ H Q => ta σ H fun x H' => ∃ k, TruV K x H' k ∧ Q k H') (asT f) := by subst hK; exact dt_truth h he
theorem dk_any {tg l : Expr} {tl : TE} {f : SEnv → M D} (h : DE X l tl f) : DI X tg l (iAny K tl) (iAnyM f) := by subst hK; exact di_any h
theorem dk_zip {e e2 : Expr} {ta : TA} {f : SEnv → M (List D)} {p tpos : Pos} {elts : List Expr} {kk : Nat} (hm : X.mg "zip" = none) (ha : DA X [e, e2] ta f) (hg : Gl X "zip" := by rfl)
    (hs : starEach [e, e2] X.env = (false, eval e X.env) :: starEach [e2] X.env := by rfl) (hpl : (backTo pos (starEach [e2] X.env)).any (·.1) = false := by rfl) :
    DI X (.Tuple elts kk tpos) (.Call (.Name "zip" p) [e, e2] [] pos) (iZipG K ta) (iZipM f) := by subst hK; exact di_zip hm ha hg hs hpl
theorem dk_tup {es : List Expr} {k : Nat} {ws : List Nat} {t : TGs} {n : Nat} {f : List D → SEnv → M SEnv} (hc : X.calm = true) (h : DGs X es ws t f)
    (hn : (assignEach es X.env).length = n := by rfl) (hst : (assignEach es X.env).findIdx? (·.1) = none := by rfl) : DG X (.Tuple es k pos) ws (gTup K n t) (gTupM n f) := by subst hK; exact dg_tup hc h hn hst
variable {o e : Expr} {es : List Expr} {name : Str} {apos cpos : Pos} {T id : String} {r : Rm} {g : D → List D → M D} {t : TE} {u : TA} {fo : SEnv → M D} {fa : SEnv → M (List D)}
theorem dk_mt0 (hm : DM X T id r g) (pa : PlainAttrs T) (slot : Slot T name id) (hty : typeOf (.builtin id) = pure (.type "method_descriptor")) (ho : DE X o t fo)
    (hbase : attributeBase o name X.env (eval o X.env) = eval o X.env := by rfl) (hline : (apos.endLine == cpos.line) = true := by rfl) : DE X (.Call (.Attribute o name apos) [] [] cpos) (tBM0 K T r t) (eMt T g fo aNil) := by subst hK; exact de_mt0 hm pa slot hty ho hbase hline
theorem dk_mt (hm : DM X T id r g) (pa : PlainAttrs T) (slot : Slot T name id) (hty : typeOf (.builtin id) = pure (.type "method_descriptor")) (ho : DE X o t fo) (ha : DA X (e :: es) u fa)
    (hbase : attributeBase o name X.env (eval o X.env) = eval o X.env := by rfl)
    (hfew : ((backTo cpos (starEach (e :: es) X.env)).all (fun x => !x.1) && (backToKw cpos (keywordEach [] X.env)).all (fun x => x.1.isSome)
      && decide ((e :: es).length + ([] : List Keyword).length + (if ([] : List Keyword).isEmpty then 0 else 1) < 30)) = true := by rfl)
    (hline : (apos.endLine == cpos.line) = true := by rfl) (hs : starEach (e :: es) X.env = (false, eval e X.env) :: starEach es X.env := by rfl) (hplain : (backTo cpos (starEach es X.env)).any (·.1) = false := by rfl) :
    DE X (.Call (.Attribute o name apos) (e :: es) [] cpos) (tBM K T r t u) (eMt T g fo fa) := by subst hK; exact de_mt hm pa slot hty ho ha hbase hfew hline hs hplain
end
section
variable {X : Cx} {x : Str} {lv n : Nat} {ps : List Str} {F : List D → M D} {p pos : Pos} {e : Expr} {es : List Expr} {ta : TA} {fa : SEnv → M (List D)}
theorem dk_fn (K : PySem.W.Frag) (hK : X.K = K) (C : Callee X.prog X.w X.K X.mg X.base x lv n ps F) (hr : Room lv X.A) (ha : DA X (e :: es) ta fa)
    (hn : ∀ env S ds S', fa env S = some (ds, S') → ds.length = n := by first | exact aCons_len aNil_len | exact aCons_len (aCons_len aNil_len) | exact aCons_len (aCons_len (aCons_len aNil_len)) | exact aCons_len (aCons_len (aCons_len (aCons_len aNil_len))) | exact aCons_len (aCons_len (aCons_len (aCons_len (aCons_len aNil_len)))))
    (hg : Gl X x := by rfl) (hdb : (x == ("__debug__" : Str)) = false := by decide) (he : starEach (e :: es) X.env = (false, eval e X.env) :: starEach es X.env := by rfl) (hpl : (backTo pos (starEach es X.env)).any (·.1) = false := by rfl) :
    DE X (.Call (.Name x p) (e :: es) [] pos) (tCall (spOf K n F) [] E0 ta) (eCall F fa) := by subst hK; exact de_fn C hr ha hn hg hdb he hpl
end

/-! ### the law's own end -/
theorem law_end {K : PySem.W.Frag} {H : Hp} {a : Addr} {ns : List Int} {F : List D → M D} (hl : ns.length ≤ 63) (hO : Only H) (hS : SqL K H a (ns.map V.int))
    (h : ∀ ns : List Int, ns.length ≤ 63 → ∃ S, F [.fl (ns.map D.int)] [] = some (.bl true, S)) : spOf K 1 F [.ref a] H (fun v _ => v = .bl true) fun _ _ _ => False := by
  obtain ⟨S, e⟩ := h ns hl
  have hf : FzL K H a (ns.map V.int) := by
    rcases hS with (q | ⟨o, q⟩) | q
    · rcases hO a with z | ⟨o, xs, z⟩
      · rw [z] at q; cases q
      · rw [z] at q; cases q
    · exact .inl ⟨o, q⟩
    · exact .inr q
  have hr : ∀ ns : List Int, Reps K [] H (ns.map D.int) (ns.map V.int) := fun ns => by
    induction ns with
    | nil => exact .nil
    | cons n r ih => exact .cons (.int n) ih
  refine ⟨[], [], [.fl (ns.map D.int)], .bl true, S, ⟨rfl, List.nodup_nil, fun i a o h => by simp at h⟩, .cons (.fl hf (hr ns)) .nil, rfl, e, fun m' H' v _ _ rv => ?_⟩
  cases rv
  rfl
end TS
set_option Elab.async false
set_option linter.all false
set_option maxRecDepth 100000
namespace TS
open PySem PySem.Spec PyProof.Rows L2 Builtin.Str PySem.StrLaws
/-! ### what holds behind a run -/
def wp {α : Type} (x : M α) (S : Store) (Q : α → Store → Prop) : Prop := ∃ a S', x S = some (a, S') ∧ Q a S'
theorem wp_bnd {α β : Type} {x : M α} {f : α → M β} {S : Store} {Q : β → Store → Prop} : wp (bnd x f) S Q ↔ wp x S fun a S' => wp (f a) S' Q := by
  constructor
  · rintro ⟨b, S2, h, q⟩
    obtain ⟨a, S1, h1, h2⟩ := bnd_some h
    exact ⟨a, S1, h1, b, S2, h2, q⟩
  · rintro ⟨a, S1, h1, b, S2, h2, q⟩
    exact ⟨b, S2, by rw [bnd_eq h1]; exact h2, q⟩
theorem wp_ret {α : Type} {a : α} {S : Store} {Q : α → Store → Prop} : wp (ret a) S Q ↔ Q a S :=
  ⟨fun ⟨b, S2, h, q⟩ => by cases h; exact q, fun q => ⟨a, S, rfl, q⟩⟩
theorem wp_some {α : Type} {x : M α} {a : α} {S S' : Store} {Q : α → Store → Prop} (h : x S = some (a, S')) : wp x S Q ↔ Q a S' :=
  ⟨fun ⟨b, S2, h2, q⟩ => by rw [h] at h2; cases h2; exact q, fun q => ⟨a, S', h, q⟩⟩
theorem wp.mono {α : Type} {x : M α} {S : Store} {Q Q' : α → Store → Prop} (h : wp x S Q) (q : ∀ a S', Q a S' → Q' a S') : wp x S Q' := let ⟨a, S', e, p⟩ := h; ⟨a, S', e, q a S' p⟩
theorem wp_gd {α : Type} {g : Gd} {k : M α} {S : Store} {Q : α → Store → Prop} (h : gdOk S g) : wp (gdM g k) S Q ↔ wp k S Q := by
  unfold wp gdM
  rw [if_pos h]
theorem wp_gd0 {α : Type} {k : M α} {S : Store} {Q : α → Store → Prop} : wp (gdM [] k) S Q ↔ wp k S Q := wp_gd (gdOk_nil S)
/-- a for, by a word over the turn, the slots and the store -/
theorem wp_loop {g : Gd} {tgt : D → SEnv → M SEnv} {body : SEnv → M (Fl × SEnv)} {Q : Fl × SEnv → Store → Prop} {xs : List D} (I : Nat → SEnv → Store → Prop)
    (hg : ∀ i env S, I i env S → gdOk S g)
    (step : ∀ i x env S, xs[i]? = some x → I i env S → wp (tgt x env) S fun env1 S1 => wp (body env1) S1 fun r S2 => match r.1 with
      | .nx => I (i + 1) r.2 S2
      | .ct => I (i + 1) r.2 S2
      | .bk => Q (.nx, r.2) S2
      | .rt d => Q (.rt d, r.2) S2)
    (fin : ∀ env S, I xs.length env S → Q (.nx, env) S) : ∀ {env : SEnv} {S : Store}, I 0 env S → wp (loopM g tgt body xs env) S Q := by
  have key : ∀ (n i : Nat) env S, i + n = xs.length → I i env S → wp (loopM g tgt body (xs.drop i) env) S Q := by
    intro n
    induction n with
    | zero =>
      intro i env S hn hI
      have e : xs.drop i = [] := List.drop_eq_nil_iff.mpr (by omega)
      rw [e]
      show wp (gdM g (ret (.nx, env))) S Q
      rw [wp_gd (hg i env S hI), wp_ret]
      have : i = xs.length := by omega
      subst this
      exact fin env S hI
    | succ n ih =>
      intro i env S hn hI
      have hi : i < xs.length := by omega
      rw [drop_at (List.getElem?_eq_getElem hi)]
      show wp (gdM g (bnd (tgt xs[i] env) fun env1 => bnd (body env1) fun r => match r.1 with
        | .nx => loopM g tgt body (xs.drop (i + 1)) r.2
        | .ct => loopM g tgt body (xs.drop (i + 1)) r.2
        | .bk => ret (.nx, r.2)
        | .rt d => ret (.rt d, r.2))) S Q
      rw [wp_gd (hg i env S hI), wp_bnd]
      refine (step i xs[i] env S (List.getElem?_eq_getElem hi) hI).mono fun env1 S1 h => ?_
      rw [wp_bnd]
      refine h.mono fun r S2 h => ?_
      obtain ⟨fl, env2⟩ := r
      cases fl with
      | nx => exact ih (i + 1) env2 S2 (by omega) h
      | ct => exact ih (i + 1) env2 S2 (by omega) h
      | bk => exact wp_ret.mpr h
      | rt d => exact wp_ret.mpr h
  intro env S h0
  exact key xs.length 0 env S (by omega) h0
/-- a comprehension, by a word over the turn, what is made so far, the store behind the new list -/
theorem wp_lc {fi : SEnv → M (List D × Gd)} {tgt : D → SEnv → M SEnv} {tt : SEnv → M Bool} {te : SEnv → M D} {vs : List Nat} {env : SEnv} {S S1 : Store} {Q : D → Store → Prop} {xs : List D} {g : Gd}
    (h0 : fi env S = some ((xs, g), S1)) (I : Nat → List D → Store → Prop) (hI : I 0 [] (S1 ++ [.lst []])) (hk : ∀ i acc S, I i acc S → S[S1.length]? = some (.lst acc)) (hg : ∀ i acc S, I i acc S → gdOk S g)
    (hl : ∀ i acc S, I i acc S → acc.length ≤ i) (hz : xs.length < sizeLine)
    (step : ∀ i x acc S, xs[i]? = some x → I i acc S → wp (tgt x (wipeE env vs)) S fun env1 S1' => wp (tt env1) S1' fun b S2 => if b = true then wp (te env1) S2 fun d S3 => S3[S1.length]? = some (.lst acc) ∧ I (i + 1) (acc ++ [d]) (S3.set S1.length (.lst (acc ++ [d]))) else I (i + 1) acc S2)
    (fin : ∀ acc S, I xs.length acc S → Q (.ref S1.length) S) : wp (eLc fi tgt tt te vs env) S Q := by
  unfold eLc
  rw [wp_bnd, wp_some h0, wp_bnd, wp_some (show newLst S1 = some (S1.length, S1 ++ [.lst []]) from rfl)]
  have key : ∀ (n i : Nat) acc S, i + n = xs.length → I i acc S → wp (lcM g S1.length tgt tt te (wipeE env vs) (xs.drop i)) S Q := by
    intro n
    induction n with
    | zero =>
      intro i acc S hn hI
      have e : xs.drop i = [] := List.drop_eq_nil_iff.mpr (by omega)
      rw [e]
      show wp (gdM g (ret (.ref S1.length))) S Q
      rw [wp_gd (hg i acc S hI), wp_ret]
      have : i = xs.length := by omega
      subst this
      exact fin acc S hI
    | succ n ih =>
      intro i acc S hn hI
      have hi : i < xs.length := by omega
      rw [drop_at (List.getElem?_eq_getElem hi)]
      show wp (gdM g (bnd (tgt xs[i] (wipeE env vs)) fun env1 => bnd (tt env1) fun b => if b then bnd (te env1) fun d => bnd (pushM S1.length d) fun _ => lcM g S1.length tgt tt te (wipeE env vs) (xs.drop (i + 1)) else lcM g S1.length tgt tt te (wipeE env vs) (xs.drop (i + 1)))) S Q
      rw [wp_gd (hg i acc S hI), wp_bnd]
      refine (step i xs[i] acc S (List.getElem?_eq_getElem hi) hI).mono fun env1 S1' h => ?_
      rw [wp_bnd]
      refine h.mono fun b S2 h => ?_
      cases b with
      | true =>
        rw [if_pos rfl] at h ⊢
        rw [wp_bnd]
        refine h.mono fun d S3 h => ?_
        rw [wp_bnd]
        have e : pushM S1.length d S3 = some ((), S3.set S1.length (.lst (acc ++ [d]))) := by
          unfold pushM
          rw [h.1]
          have := hl i acc S hI
          exact if_pos (by omega)
        rw [wp_some e]
        exact ih (i + 1) _ _ (by omega) h.2
      | false =>
        rw [if_neg Bool.false_ne_true] at h ⊢
        exact ih (i + 1) _ _ (by omega) h
  exact key xs.length 0 [] _ (by omega) hI
/-! ### places of signs -/
def place (c : Nat) : List Nat → Option Nat
  | [] => none
  | d :: r => if d = c then some 0 else (place c r).map (· + 1)
theorem place_some {c : Nat} : ∀ {l : List Nat} {i : Nat}, place c l = some i → l[i]? = some c ∧ ∀ j, j < i → l[j]? ≠ some c
  | [], _, h => by cases h
  | d :: r, i, h => by
    unfold place at h
    by_cases e : d = c
    · rw [if_pos e] at h
      cases h
      exact ⟨by rw [List.getElem?_cons_zero, e], fun j hj => absurd hj (Nat.not_lt_zero j)⟩
    · rw [if_neg e] at h
      obtain ⟨k, hk, rfl⟩ := Option.map_eq_some_iff.mp h
      obtain ⟨h1, h2⟩ := place_some hk
      refine ⟨by rw [List.getElem?_cons_succ]; exact h1, fun j hj => ?_⟩
      cases j with
      | zero => rw [List.getElem?_cons_zero]; exact fun z => e (Option.some.inj z)
      | succ j => rw [List.getElem?_cons_succ]; exact h2 j (by omega)
theorem place_none {c : Nat} : ∀ {l : List Nat}, place c l = none ↔ c ∉ l
  | [] => by simp [place]
  | d :: r => by
    unfold place
    by_cases e : d = c
    · rw [if_pos e]
      simp [e]
    · rw [if_neg e, Option.map_eq_none_iff, place_none]
      simp [Ne.symm e]
theorem occ_stop (s sub : Str) (hi : Nat) : ∀ (l : List Nat) (st : Array Nat × Nat), 1 ≤ st.fst.size → (forIn l st (occBody s sub hi 1)).run.fst = st.fst
  | [], _, _ => rfl
  | a :: l, st, h => by
    rw [List.forIn_cons]
    unfold occBody
    rw [if_neg (fun z => absurd z.1.1.1 (by omega))]
    exact occ_stop s sub hi l _ h
theorem occ_first (s sub : Str) (hi : Nat) : ∀ (l : List Nat), (forIn l ((#[] : Array Nat), 0) (occBody s sub hi 1)).run.fst = (match l.find? (fun i => decide (i + sub.length ≤ hi ∧ subAt s sub i = true)) with
    | some i => #[i]
    | none => #[])
  | [] => rfl
  | a :: l => by
    rw [List.forIn_cons, List.find?_cons]
    unfold occBody
    by_cases c : a + sub.length ≤ hi ∧ subAt s sub a = true
    · rw [if_pos ⟨⟨⟨by simp, Nat.zero_le _⟩, c.1⟩, c.2⟩, decide_eq_true c]
      exact occ_stop s sub hi l _ (by simp)
    · rw [if_neg (fun z => c ⟨z.1.2, z.2⟩), decide_eq_false c]
      exact occ_first s sub hi l
theorem find_place (c : Nat) (l : List Nat) : ∀ (k n : Nat), k + n = l.length + 1 → (List.range' k n).find? (fun i => decide (l[i]? = some c)) = (place c (l.drop k)).map (· + k)
  | k, 0, h => by
    rw [List.drop_eq_nil_iff.mpr (by omega)]
    rfl
  | k, n + 1, h => by
    rw [List.range'_succ, List.find?_cons]
    by_cases hk : k < l.length
    · rw [drop_at (List.getElem?_eq_getElem hk)]
      unfold place
      by_cases e : l[k] = c
      · rw [List.getElem?_eq_getElem hk, decide_eq_true (by rw [e]), if_pos e]
        simp
      · rw [List.getElem?_eq_getElem hk, decide_eq_false (fun z => e (Option.some.inj z)), if_neg e]
        show (List.range' (k + 1) n).find? _ = _
        rw [find_place c l (k + 1) n (by omega), Option.map_map]
        congr 1
        funext i
        show i + (k + 1) = i + 1 + k
        omega
    · have hd : l.drop k = [] := List.drop_eq_nil_iff.mpr (by omega)
      have hn : n = 0 := by omega
      subst hn
      rw [hd, List.getElem?_eq_none (by omega), decide_eq_false (by simp)]
      rfl
theorem occ_sign (x : Str) (c : Nat) : occurrences x ⟨#[c]⟩ 0 x.length 1 = (match place c x.cps.toList with
    | some i => [i]
    | none => []) := by
  rw [occ_eq, occ_first]
  have e : (fun i => decide (i + (⟨#[c]⟩ : Str).length ≤ x.length ∧ subAt x ⟨#[c]⟩ i = true)) = fun i => decide (x.cps.toList[i]? = some c) := by
    funext i
    rw [decide_eq_decide]
    exact subAt_one x c i
  rw [e, find_place c x.cps.toList 0 _ (by simp [Str.length]), List.drop_zero]
  cases place c x.cps.toList <;> rfl
end TS
set_option Elab.async false
set_option linter.all false
set_option maxRecDepth 100000
namespace TS
open PySem PySem.Spec PyProof.Rows L2
section
variable {S S' : Store} {env : SEnv} {Q : D → Store → Prop} {QB : Bool → Store → Prop} {QA : List D → Store → Prop} {QF : Fl × SEnv → Store → Prop} {QE : SEnv → Store → Prop} {QU : Unit → Store → Prop} {QO : Option Int → Store → Prop} {QI : List D × Gd → Store → Prop}
theorem wp_fn {α : Type} {x : M α} {R : α → Store → Prop} : wp (fun S => x S) S R ↔ wp x S R := Iff.rfl
theorem w_fail {α : Type} {R : α → Store → Prop} : wp (fail : M α) S R ↔ False := by
  constructor
  · intro h
    obtain ⟨a, S2, e, _⟩ := h
    cases e
  · exact False.elim
theorem w_ite {α : Type} {c : Prop} [Decidable c] {x y : M α} {R : α → Store → Prop} : wp (if c then x else y) S R ↔ if c then wp x S R else wp y S R := by
  split <;> rfl
theorem w_opt {α : Type} {o : Option (α × Store)} {x : M α} {R : α → Store → Prop} (h : x S = o) : wp x S R ↔ ∃ a S', o = some (a, S') ∧ R a S' := by rw [← h]; rfl
theorem w_var {i : Nat} : wp (eVar i env) S Q ↔ ∃ d, env[i]? = some (some d) ∧ Q d S := by
  unfold wp eVar
  constructor
  · rintro ⟨a, S', h, q⟩
    cases e : env[i]? with
    | none => rw [e] at h; cases h
    | some o =>
      cases o with
      | none => rw [e] at h; cases h
      | some d => rw [e] at h; cases h; exact ⟨_, rfl, q⟩
  · rintro ⟨d, h, q⟩
    exact ⟨d, S, by rw [h], q⟩
theorem w_op {g : D → D → M D} {fa fb : SEnv → M D} : wp (eOp g fa fb env) S Q ↔ wp (fa env) S fun a S1 => wp (fb env) S1 fun b S2 => wp (g a b) S2 Q := by
  unfold eOp; rw [wp_bnd]; simp only [wp_bnd]
theorem w_un {g : D → M D} {fa : SEnv → M D} : wp (eUn g fa env) S Q ↔ wp (fa env) S fun a S1 => wp (g a) S1 Q := wp_bnd
theorem w_c {d : D} : wp (eC d env) S Q ↔ Q d S := wp_ret
theorem w_call {g : List D → M D} {fa : SEnv → M (List D)} : wp (eCall g fa env) S Q ↔ wp (fa env) S fun a S1 => wp (g a) S1 Q := wp_bnd
theorem w_aNil : wp (aNil env) S QA ↔ QA [] S := wp_ret
theorem w_aCons {f : SEnv → M D} {g : SEnv → M (List D)} : wp (aCons f g env) S QA ↔ wp (f env) S fun d S1 => wp (g env) S1 fun ds S2 => QA (d :: ds) S2 := by
  unfold aCons; rw [wp_bnd]; simp only [wp_bnd, wp_ret]
theorem w_tup {f : SEnv → M (List D)} : wp (eTup f env) S Q ↔ wp (f env) S fun ds S1 => ds.length ≤ sizeLine ∧ Q (.tup ds) S1 := by
  unfold eTup
  rw [wp_bnd]
  constructor
  · exact fun h => h.mono fun ds S1 ⟨a, S2, e, q⟩ => by
      unfold mkTup at e
      split at e
      · cases e; exact ⟨by assumption, q⟩
      · cases e
  · exact fun h => h.mono fun ds S1 ⟨e, q⟩ => ⟨_, S1, if_pos e, q⟩
theorem w_lst {f : SEnv → M (List D)} : wp (eLst f env) S Q ↔ wp (f env) S fun ds S1 => ds.length ≤ sizeLine ∧ Q (.ref S1.length) (S1 ++ [.lst ds]) := by
  unfold eLst
  rw [wp_bnd]
  constructor
  · exact fun h => h.mono fun ds S1 ⟨a, S2, e, q⟩ => by
      unfold mkLst at e
      split at e
      · cases e; exact ⟨by assumption, q⟩
      · cases e
  · exact fun h => h.mono fun ds S1 ⟨e, q⟩ => ⟨_, _, if_pos e, q⟩
theorem w_asB {f : SEnv → M D} : wp (asB f env) S QB ↔ wp (f env) S fun d S1 => ∃ b, d = .bl b ∧ QB b S1 := by
  unfold asB
  rw [wp_bnd]
  constructor
  · exact fun h => h.mono fun d S1 h => by
      cases d with
      | bl b => exact ⟨b, rfl, wp_ret.mp h⟩
      | _ => exact (w_fail.mp h).elim
  · exact fun h => h.mono fun d S1 ⟨b, e, q⟩ => by subst e; exact wp_ret.mpr q
theorem w_asT {f : SEnv → M D} : wp (asT f env) S QB ↔ wp (f env) S fun d S1 => wp (tru d) S1 QB := wp_bnd
theorem w_bAnd {f g : SEnv → M Bool} : wp (bAnd f g env) S QB ↔ wp (f env) S fun b S1 => if b = true then wp (g env) S1 QB else QB false S1 := by
  unfold bAnd; rw [wp_bnd]; simp only [w_ite, wp_ret]
theorem w_bOr {f g : SEnv → M Bool} : wp (bOr f g env) S QB ↔ wp (f env) S fun b S1 => if b = true then QB true S1 else wp (g env) S1 QB := by
  unfold bOr; rw [wp_bnd]; simp only [w_ite, wp_ret]
theorem w_bNot {f : SEnv → M Bool} : wp (bNot f env) S QB ↔ wp (f env) S fun b S1 => QB (!b) S1 := by
  unfold bNot; rw [wp_bnd]; simp only [wp_ret]
theorem w_eAnd {f g : SEnv → M D} : wp (eAnd f g env) S Q ↔ wp (f env) S fun d S1 => ∃ b, d = .bl b ∧ if b = true then wp (g env) S1 Q else Q (.bl false) S1 := by
  unfold eAnd; rw [wp_bnd, w_asB]; simp only [w_ite, wp_ret]
theorem w_eOr {f g : SEnv → M D} : wp (eOr f g env) S Q ↔ wp (f env) S fun d S1 => ∃ b, d = .bl b ∧ if b = true then Q (.bl true) S1 else wp (g env) S1 Q := by
  unfold eOr; rw [wp_bnd, w_asB]; simp only [w_ite, wp_ret]
theorem w_eNot {f : SEnv → M D} : wp (eNot f env) S Q ↔ wp (f env) S fun d S1 => ∃ b, d = .bl b ∧ Q (.bl (!b)) S1 := by
  unfold eNot; rw [wp_bnd, w_asB]; simp only [wp_ret]
theorem w_eIf {c : SEnv → M Bool} {f g : SEnv → M D} : wp (eIf c f g env) S Q ↔ wp (c env) S fun b S1 => if b = true then wp (f env) S1 Q else wp (g env) S1 Q := by
  unfold eIf; rw [wp_bnd]; simp only [w_ite]
theorem w_eSl {g : D → Option Int → Option Int → M D} {fa : SEnv → M D} {fl fh : SEnv → M (Option Int)} : wp (eSl g fa fl fh env) S Q ↔ wp (fa env) S fun a S1 => wp (fl env) S1 fun lo S2 => wp (fh env) S2 fun hi S3 => wp (g a lo hi) S3 Q := by
  unfold eSl; simp only [wp_bnd]
theorem w_pNo : wp (pNo env) S QO ↔ QO none S := wp_ret
theorem w_pSome {f : SEnv → M D} : wp (pSome f env) S QO ↔ wp (f env) S fun d S1 => ∃ i, d = .int i ∧ QO (some i) S1 := by
  unfold pSome
  rw [wp_bnd]
  constructor
  · exact fun h => h.mono fun d S1 h => by
      cases d with
      | int b => exact ⟨b, rfl, wp_ret.mp h⟩
      | _ => exact (w_fail.mp h).elim
  · exact fun h => h.mono fun d S1 ⟨b, e, q⟩ => by subst e; exact wp_ret.mpr q
theorem w_eMt {T : String} {g : D → List D → M D} {fo : SEnv → M D} {fa : SEnv → M (List D)} : wp (eMt T g fo fa env) S Q ↔ wp (fo env) S fun a S1 => wp (tyM T a) S1 fun _ S2 => wp (fa env) S2 fun as S3 => wp (g a as) S3 Q := by
  unfold eMt; simp only [wp_bnd]
theorem w_chain {g g' : D → D → M D} {fa fb fc : SEnv → M D} : wp (eChain g g' fa fb fc env) S Q ↔ wp (fa env) S fun a S1 => wp (fb env) S1 fun b S2 => wp (g a b) S2 fun k S3 => ∃ q, k = .bl q ∧ if q = true then wp (fc env) S3 fun c S4 => wp (g' b c) S4 Q else Q (.bl false) S3 := by
  unfold eChain
  simp only [wp_bnd]
  constructor
  · exact fun h => h.mono fun a S1 h => h.mono fun b S2 h => h.mono fun k S3 h => by
      cases k with
      | bl q =>
        refine ⟨q, rfl, ?_⟩
        cases q with
        | true => rw [if_pos rfl]; exact wp_bnd.mp h
        | false => rw [if_neg Bool.false_ne_true]; exact wp_ret.mp h
      | _ => exact (w_fail.mp h).elim
  · exact fun h => h.mono fun a S1 h => h.mono fun b S2 h => h.mono fun k S3 ⟨q, e, h⟩ => by
      subst e
      cases q with
      | true => rw [if_pos rfl] at h; exact wp_bnd.mpr h
      | false => rw [if_neg Bool.false_ne_true] at h; exact wp_ret.mpr h
/-! statements -/
theorem w_seq {f g : SEnv → M (Fl × SEnv)} : wp (sSeq f g env) S QF ↔ wp (f env) S fun r S1 => match r.1 with
    | .nx => wp (g r.2) S1 QF
    | _ => QF r S1 := by
  unfold sSeq
  rw [wp_bnd]
  constructor
  · exact fun h => h.mono fun r S1 h => by
      obtain ⟨fl, e⟩ := r
      cases fl with
      | nx => exact h
      | rt d => exact wp_ret.mp h
      | bk => exact wp_ret.mp h
      | ct => exact wp_ret.mp h
  · exact fun h => h.mono fun r S1 h => by
      obtain ⟨fl, e⟩ := r
      cases fl with
      | nx => exact h
      | rt d => exact wp_ret.mpr h
      | bk => exact wp_ret.mpr h
      | ct => exact wp_ret.mpr h
theorem w_nx : wp (sNx env) S QF ↔ QF (.nx, env) S := wp_ret
theorem w_brk : wp (sBrk env) S QF ↔ QF (.bk, env) S := wp_ret
theorem w_cnt : wp (sCnt env) S QF ↔ QF (.ct, env) S := wp_ret
theorem w_retN : wp (sRetN env) S QF ↔ QF (.rt .non, env) S := wp_ret
theorem w_drop {f : SEnv → M D} : wp (sDrop f env) S QF ↔ wp (f env) S fun _ S1 => QF (.nx, env) S1 := by
  unfold sDrop; rw [wp_bnd]; simp only [wp_ret]
theorem w_sret {f : SEnv → M D} : wp (sRet f env) S QF ↔ wp (f env) S fun d S1 => QF (.rt d, env) S1 := by
  unfold sRet; rw [wp_bnd]; simp only [wp_ret]
theorem w_sIf {c : SEnv → M Bool} {f g : SEnv → M (Fl × SEnv)} : wp (sIf c f g env) S QF ↔ wp (c env) S fun b S1 => if b = true then wp (f env) S1 QF else wp (g env) S1 QF := by
  unfold sIf; rw [wp_bnd]; simp only [w_ite]
theorem w_asg {f : SEnv → M D} {g : D → SEnv → M SEnv} : wp (sAsg f g env) S QF ↔ wp (f env) S fun d S1 => wp (g d env) S1 fun e S2 => QF (.nx, e) S2 := by
  unfold sAsg; rw [wp_bnd]; simp only [wp_bnd, wp_ret]
theorem w_gN {i : Nat} {d : D} : wp (gN i d env) S QE ↔ QE (env.set i (some d)) S := wp_ret
theorem w_gTup {n : Nat} {f : List D → SEnv → M SEnv} {ds : List D} : wp (gTupM n f (.tup ds) env) S QE ↔ ds.length = n ∧ wp (f ds env) S QE := by
  unfold gTupM
  simp only [w_ite, w_fail]
  constructor
  · intro h
    split at h
    · exact ⟨by assumption, h⟩
    · exact h.elim
  · exact fun h => by rw [if_pos h.1]; exact h.2
theorem w_gsNil : wp (gsNil [] env) S QE ↔ QE env S := wp_ret
theorem w_gsCons {f : D → SEnv → M SEnv} {g : List D → SEnv → M SEnv} {d : D} {r : List D} : wp (gsCons f g (d :: r) env) S QE ↔ wp (f d env) S fun e S1 => wp (g r e) S1 QE := wp_bnd
theorem w_gSub {g : D → D → D → M Unit} {fo fi : SEnv → M D} {d : D} : wp (gSubM g fo fi d env) S QE ↔ wp (fo env) S fun o S1 => wp (fi env) S1 fun i S2 => wp (g o i d) S2 fun _ S3 => QE env S3 := by
  unfold gSubM; simp only [wp_bnd, wp_ret]
theorem w_aug {i : Nat} {f : SEnv → M D} {g : D → D → M D} : wp (sAug i f g env) S QF ↔ wp (eVar i env) S fun a S1 => wp (f env) S1 fun b S2 => wp (g a b) S2 fun d S3 => QF (.nx, env.set i (some d)) S3 := by
  unfold sAug; simp only [wp_bnd, wp_ret]
theorem w_for {fi : SEnv → M (List D × Gd)} {tgt : D → SEnv → M SEnv} {body : SEnv → M (Fl × SEnv)} : wp (sFor fi tgt body env) S QF ↔ wp (fi env) S fun p S1 => wp (loopM p.2 tgt body p.1 env) S1 QF := wp_bnd
theorem w_body {n : Nat} {f : SEnv → M (Fl × SEnv)} {ds : List D} : wp (bodyM n f ds) S Q ↔ wp (f (env0 n ds)) S fun r S1 => match r.1 with
    | .nx => Q .non S1
    | .rt d => Q d S1
    | _ => False := by
  unfold bodyM
  rw [wp_bnd]
  constructor
  · exact fun h => h.mono fun r S1 h => by
      obtain ⟨fl, e⟩ := r
      cases fl with
      | nx => exact wp_ret.mp h
      | rt d => exact wp_ret.mp h
      | bk => exact (w_fail.mp h).elim
      | ct => exact (w_fail.mp h).elim
  · exact fun h => h.mono fun r S1 h => by
      obtain ⟨fl, e⟩ := r
      cases fl with
      | nx => exact wp_ret.mpr h
      | rt d => exact wp_ret.mpr h
      | bk => exact h.elim
      | ct => exact h.elim
/-! values -/
theorem w_add {i j : Int} : wp (addD (.int i) (.int j)) S Q ↔ Q (.int (i + j)) S := wp_some rfl
theorem w_addS {x y : Str} : wp (addD (.str x) (.str y)) S Q ↔ x.length + y.length ≤ sizeLine ∧ Q (.str (x ++ y)) S := by
  constructor
  · rintro ⟨a, S', h, q⟩
    unfold addD at h
    simp only at h
    split at h
    · cases h; exact ⟨by assumption, q⟩
    · cases h
  · exact fun ⟨h, q⟩ => ⟨_, S, if_pos h, q⟩
theorem w_addT {xs ys : List D} : wp (addD (.tup xs) (.tup ys)) S Q ↔ xs.length + ys.length ≤ sizeLine ∧ Q (.tup (xs ++ ys)) S := by
  constructor
  · rintro ⟨a, S', h, q⟩
    unfold addD at h
    simp only at h
    split at h
    · cases h; exact ⟨by assumption, q⟩
    · cases h
  · exact fun ⟨h, q⟩ => ⟨_, S, if_pos h, q⟩
theorem w_sub {i j : Int} : wp (subD (.int i) (.int j)) S Q ↔ Q (.int (i - j)) S := wp_some rfl
theorem w_mul {i j : Int} : wp (mulU (.int i) (.int j)) S Q ↔ (smallI i = true ∨ smallI j = true) ∧ Q (.int (i * j)) S := by
  constructor
  · rintro ⟨a, S', h, q⟩
    unfold mulU mulD at h
    simp only at h
    split at h
    · cases h; exact ⟨by assumption, q⟩
    · cases h
  · exact fun ⟨h, q⟩ => ⟨_, S, if_pos h, q⟩
theorem w_mod {i j : Int} : wp (modD (.int i) (.int j)) S Q ↔ 0 < j ∧ Q (.int (i % j)) S := by
  constructor
  · rintro ⟨a, S', h, q⟩
    unfold modD at h
    simp only at h
    split at h
    · cases h; exact ⟨by assumption, q⟩
    · cases h
  · exact fun ⟨h, q⟩ => ⟨_, S, if_pos h, q⟩
theorem w_fdiv {i j : Int} : wp (fdivD (.int i) (.int j)) S Q ↔ (0 < j ∧ j < 1073741824) ∧ Q (.int (i / j)) S := by
  constructor
  · rintro ⟨a, S', h, q⟩
    unfold fdivD at h
    simp only at h
    split at h
    · cases h; exact ⟨by assumption, q⟩
    · cases h
  · exact fun ⟨h, q⟩ => ⟨_, S, if_pos h, q⟩
theorem w_pow {i j : Int} : wp (powD (.int i) (.int j)) S Q ↔ (0 ≤ j ∧ j ≤ 1000000 ∧ i.natAbs < 2 ^ 64) ∧ Q (.int (i ^ j.toNat)) S := by
  constructor
  · rintro ⟨a, S', h, q⟩
    unfold powD at h
    simp only at h
    split at h
    · cases h; exact ⟨by assumption, q⟩
    · cases h
  · exact fun ⟨h, q⟩ => ⟨_, S, if_pos h, q⟩
theorem w_lt {i j : Int} : wp (ltD (.int i) (.int j)) S Q ↔ Q (.bl (decide (i < j))) S := wp_some rfl
theorem w_le {i j : Int} : wp (leD (.int i) (.int j)) S Q ↔ Q (.bl (decide (i ≤ j))) S := wp_some rfl
theorem w_gt {i j : Int} : wp (gtD (.int i) (.int j)) S Q ↔ Q (.bl (decide (j < i))) S := wp_some rfl
theorem w_ge {i j : Int} : wp (geD (.int i) (.int j)) S Q ↔ Q (.bl (decide (j ≤ i))) S := wp_some rfl
theorem w_int {i : Int} : wp (nInt [.int i]) S Q ↔ Q (.int i) S := wp_ret
theorem w_min {i j : Int} : wp (nMin2 [.int i, .int j]) S Q ↔ Q (.int (if j < i then j else i)) S := wp_ret
theorem w_max {i j : Int} : wp (nMax2 [.int i, .int j]) S Q ↔ Q (.int (if j > i then j else i)) S := wp_ret
theorem w_lenS {x : Str} : wp (nLen [.str x]) S Q ↔ x.length ≤ sizeLine ∧ Q (.int x.length) S := by
  constructor
  · rintro ⟨a, S', h, q⟩
    unfold nLen at h
    simp only at h
    split at h
    · cases h; exact ⟨by assumption, q⟩
    · cases h
  · exact fun ⟨h, q⟩ => ⟨_, S, if_pos h, q⟩
theorem w_lenT {xs : List D} : wp (nLen [.tup xs]) S Q ↔ Q (.int xs.length) S := wp_ret
theorem w_lenF {xs : List D} : wp (nLen [.fl xs]) S Q ↔ Q (.int xs.length) S := wp_ret
theorem w_lenL {r : Nat} {xs : List D} (h : S[r]? = some (.lst xs)) : wp (nLen [.ref r]) S Q ↔ Q (.int xs.length) S := wp_some (by unfold nLen; simp only [h])
theorem w_truB {b : Bool} : wp (tru (.bl b)) S QB ↔ QB b S := wp_some rfl
theorem w_isB {a b : Bool} : wp (isD (.bl a) (.bl b)) S Q ↔ Q (.bl (decide (a = b))) S := wp_some rfl
theorem w_notB {a b : Bool} : wp (notD (.bl a) (.bl b)) S Q ↔ Q (.bl (!decide (a = b))) S := wp_some rfl
theorem w_tyS {x : Str} {QU : Unit → Store → Prop} : wp (tyM "str" (.str x)) S QU ↔ QU () S := wp_some rfl
theorem w_tyL {r : Nat} {xs : List D} (h : S[r]? = some (.lst xs)) {QU : Unit → Store → Prop} : wp (tyM "list" (.ref r)) S QU ↔ QU () S := wp_some (by unfold tyM; simp only [h, if_true])
theorem w_app {r : Nat} {xs : List D} {d : D} (h : S[r]? = some (.lst xs)) (hz : xs.length < sizeLine) : wp (mAppend (.ref r) [d]) S Q ↔ Q .non (S.set r (.lst (xs ++ [d]))) := wp_some (by unfold mAppend; simp only [h, hz, if_true])
def rgOf : List D → Option Int
  | [.int j] => some j
  | _ => none
theorem rgOf_1 {j : Int} : rgOf [.int j] = some j := rfl
theorem w_rg1 {f : SEnv → M (List D)} : wp (iRg1M f env) S QI ↔ wp (f env) S fun ds S1 => ∃ j : Int, rgOf ds = some j ∧ (-(2 ^ 62) ≤ j ∧ j < 2 ^ 62) ∧ QI (rng 0 j.toNat, []) S1 := by
  unfold iRg1M
  rw [wp_bnd]
  constructor
  · exact fun h => h.mono fun ds S1 h => by
      split at h
      · split at h
        · exact ⟨_, rfl, by assumption, wp_ret.mp h⟩
        · exact (w_fail.mp h).elim
      · exact (w_fail.mp h).elim
  · exact fun h => h.mono fun ds S1 ⟨j, e, c, q⟩ => by
      unfold rgOf at e
      split at e
      · cases e
        simp only [c, and_self, if_true]
        exact wp_ret.mpr q
      · cases e
theorem w_anyI {f : SEnv → M D} : wp (iAnyM f env) S QI ↔ wp (f env) S fun d S1 => ∃ p, srcOf S1 d = some p ∧ QI p S1 := by
  unfold iAnyM
  rw [wp_bnd]
  constructor
  · exact fun h => h.mono fun d S1 ⟨a, S2, e, q⟩ => by
      have e' : (match srcOf S1 d with | some p => some (p, S1) | none => none) = some (a, S2) := e
      cases e1 : srcOf S1 d with
      | none => rw [e1] at e'; cases e'
      | some p => rw [e1] at e'; cases e'; exact ⟨_, rfl, q⟩
  · exact fun h => h.mono fun d S1 ⟨p, e, q⟩ => ⟨p, S1, by show (match srcOf S1 d with | some p => some (p, S1) | none => none) = _; rw [e], q⟩
theorem w_ixT {xs : List D} {i : Int} : wp (ixU (.tup xs) (.int i)) S Q ↔ ∃ d, atI xs i = some d ∧ Q d S := by
  have e : ixU (.tup xs) (.int i) S = (match atI xs i with | some d => some (d, S) | none => none) := rfl
  rw [w_opt e]
  constructor
  · rintro ⟨a, S', h, q⟩
    cases e1 : atI xs i with
    | none => rw [e1] at h; cases h
    | some d => rw [e1] at h; cases h; exact ⟨_, rfl, q⟩
  · rintro ⟨d, h, q⟩
    exact ⟨d, S, by rw [h], q⟩
theorem w_ixF {xs : List D} {i : Int} : wp (ixU (.fl xs) (.int i)) S Q ↔ ∃ d, atI xs i = some d ∧ Q d S := by
  have e : ixU (.fl xs) (.int i) S = (match atI xs i with | some d => some (d, S) | none => none) := rfl
  rw [w_opt e]
  constructor
  · rintro ⟨a, S', h, q⟩
    cases e1 : atI xs i with
    | none => rw [e1] at h; cases h
    | some d => rw [e1] at h; cases h; exact ⟨_, rfl, q⟩
  · rintro ⟨d, h, q⟩
    exact ⟨d, S, by rw [h], q⟩
theorem w_ixS {z : Str} {i : Int} : wp (ixU (.str z) (.int i)) S Q ↔ z.length ≤ sizeLine ∧ ∃ c, atI z.cps.toList i = some c ∧ Q (.str ⟨#[c]⟩) S := by
  have e : ixU (.str z) (.int i) S = (if z.length ≤ sizeLine then match atI z.cps.toList i with | some c => some (.str ⟨#[c]⟩, S) | none => none else none) := rfl
  rw [w_opt e]
  constructor
  · rintro ⟨a, S', h, q⟩
    split at h
    · cases e1 : atI z.cps.toList i with
      | none => rw [e1] at h; cases h
      | some d => rw [e1] at h; cases h; exact ⟨by assumption, _, rfl, q⟩
    · cases h
  · rintro ⟨h0, d, h, q⟩
    exact ⟨_, S, by rw [if_pos h0, h], q⟩
theorem w_ixL {r : Nat} {xs : List D} {i : Int} (hr : S[r]? = some (.lst xs)) : wp (ixU (.ref r) (.int i)) S Q ↔ ∃ d, atI xs i = some d ∧ Q d S := by
  have e : ixU (.ref r) (.int i) S = (match atI xs i with | some d => some (d, S) | none => none) := by
    unfold ixU isDct ixD seqOf
    simp only [hr, Bool.false_eq_true, if_false]
    all_goals (cases atI xs i <;> rfl)
  rw [w_opt e]
  constructor
  · rintro ⟨a, S', h, q⟩
    cases e1 : atI xs i with
    | none => rw [e1] at h; cases h
    | some d => rw [e1] at h; cases h; exact ⟨_, rfl, q⟩
  · rintro ⟨d, h, q⟩
    exact ⟨d, S, by rw [h], q⟩
theorem w_ixD {r : Nat} {kvs : List (Key × D)} {b d : D} {k : Key} (hr : S[r]? = some (.dK kvs)) (hk : keyOf b = some k) (hd : lookD kvs k = some d) : wp (ixU (.ref r) b) S Q ↔ Q d S := by
  refine wp_some ?_
  unfold ixU isDct dgetM
  simp only [hr, hk, hd, if_true]
theorem w_setD {r : Nat} {kvs : List (Key × D)} {b d : D} {k : Key} {QU : Unit → Store → Prop} (hr : S[r]? = some (.dK kvs)) (hk : keyOf b = some k) (hz : kvs.length < sizeLine) : wp (setU (.ref r) b d) S QU ↔ QU () (S.set r (.dK (putD kvs k d))) := by
  refine wp_some ?_
  unfold setU isDct dsetM
  simp only [hr, hk, hz, if_true]
theorem w_slS {z : Str} {lo hi : Option Int} : wp (slD (.str z) lo hi) S Q ↔ z.length ≤ sizeLine ∧ Q (.str (cutS z lo hi)) S := by
  constructor
  · rintro ⟨a, S', h, q⟩
    unfold slD at h
    simp only at h
    split at h
    · cases h; exact ⟨by assumption, q⟩
    · cases h
  · exact fun ⟨h, q⟩ => ⟨_, S, if_pos h, q⟩
theorem w_slT {xs : List D} {lo hi : Option Int} : wp (slD (.tup xs) lo hi) S Q ↔ Q (.tup (cutD xs lo hi)) S := wp_some rfl
theorem w_tupT {xs : List D} : wp (nTuple [.tup xs]) S Q ↔ Q (.tup xs) S := wp_ret
theorem w_tupL {r : Nat} {xs : List D} (h : S[r]? = some (.lst xs)) : wp (nTuple [.ref r]) S Q ↔ Q (.tup xs) S := wp_some (by unfold nTuple lstOf; simp only [h])
theorem w_find {x y : Str} : wp (mFind (.str x) [.str y]) S Q ↔ Q (.int (Txt.find x y)) S := wp_some rfl
theorem w_eqB {a b : D} {p q : PyData} (h1 : pyS S a = some p) (h2 : pyS S b = some q) (h3 : SeqAt.shaped p = true) (h4 : SeqAt.shaped q = true) : wp (eqD a b) S Q ↔ Q (.bl (PyData.eqv p q)) S := by
  refine wp_some ?_
  show bnd (eqB a b) _ S = _
  exact bnd_eq (by unfold eqB; rw [h1, h2]; exact if_pos ⟨h3, h4⟩)
theorem w_neB {a b : D} {p q : PyData} (h1 : pyS S a = some p) (h2 : pyS S b = some q) (h3 : SeqAt.shaped p = true) (h4 : SeqAt.shaped q = true) : wp (neD a b) S Q ↔ Q (.bl (!PyData.eqv p q)) S := by
  refine wp_some ?_
  show bnd (eqB a b) _ S = _
  exact bnd_eq (by unfold eqB; rw [h1, h2]; exact if_pos ⟨h3, h4⟩)
theorem w_eqI {i j : Int} : wp (eqD (.int i) (.int j)) S Q ↔ Q (.bl (i == j)) S := w_eqB (p := .int i) (q := .int j) rfl rfl rfl rfl
theorem w_neI {i j : Int} : wp (neD (.int i) (.int j)) S Q ↔ Q (.bl (!(i == j))) S := w_neB (p := .int i) (q := .int j) rfl rfl rfl rfl
theorem w_eqBl {i j : Bool} : wp (eqD (.bl i) (.bl j)) S Q ↔ Q (.bl (i == j)) S := w_eqB (p := .bool i) (q := .bool j) rfl rfl rfl rfl
theorem w_neBl {i j : Bool} : wp (neD (.bl i) (.bl j)) S Q ↔ Q (.bl (!(i == j))) S := w_neB (p := .bool i) (q := .bool j) rfl rfl rfl rfl
end
end TS
set_option Elab.async false
set_option linter.all false
set_option maxRecDepth 100000
namespace TS
open PySem PySem.Spec PyProof.Rows L2
section
variable {S S' : Store} {env : SEnv} {Q : D → Store → Prop}
theorem w_disp {g : SEnv → M (List (Key × D))} : wp (eDisp g env) S Q ↔ wp (g env) (S ++ [.dK []]) fun kvs S1 => wp (fillD S.length kvs) S1 Q := by
  unfold eDisp
  rw [wp_bnd, wp_some (show newDct S = some (S.length, S ++ [.dK []]) from rfl), wp_bnd]
theorem w_kNil {QK : List (Key × D) → Store → Prop} : wp (kNil env) S QK ↔ QK [] S := wp_ret
theorem w_kCons {fk fv : SEnv → M D} {g : SEnv → M (List (Key × D))} {QK : List (Key × D) → Store → Prop} : wp (kCons fk fv g env) S QK ↔ wp (fk env) S fun a S1 => wp (fv env) S1 fun d S2 => wp (g env) S2 fun r S3 => ∃ k, keyOf a = some k ∧ QK ((k, d) :: r) S3 := by
  unfold kCons
  simp only [wp_bnd]
  constructor
  · exact fun h => h.mono fun a S1 h => h.mono fun d S2 h => h.mono fun r S3 h => by
      split at h
      · exact ⟨_, by assumption, wp_ret.mp h⟩
      · exact (w_fail.mp h).elim
  · exact fun h => h.mono fun a S1 h => h.mono fun d S2 h => h.mono fun r S3 ⟨k, e, h⟩ => by
      rw [e]
      exact wp_ret.mpr h
theorem w_fill {k : Nat} {kvs : List (Key × D)} (h : S[k]? = some (.dK [])) (hl : kvs.length ≤ 15) : wp (fillD k kvs) S Q ↔ Q (.ref k) (S.set k (.dK (mergeD [] kvs))) := wp_some (by unfold fillD; simp only [h, hl, if_true])
theorem w_sumL {r : Nat} {ns : List Int} (h : S[r]? = some (.lst (ns.map .int))) : wp (nSum [.ref r]) S Q ↔ Q (.int ns.sum) S := by
  have e : ∀ l : List Int, intsOf (l.map .int) = some l := fun l => by
    induction l with
    | nil => rfl
    | cons x r ih => show (intsOf (r.map .int)).map (x :: ·) = _; rw [ih]; rfl
  exact wp_some (by unfold nSum lstOf; simp only [h, e])
theorem rng_get {lo : Int} {n i : Nat} {x : D} (h : (rng lo n)[i]? = some x) : i < n ∧ x = .int (lo + (i : Nat)) := by
  unfold rng at h
  rw [List.getElem?_map] at h
  obtain ⟨j, hj, rfl⟩ := Option.map_eq_some_iff.mp h
  obtain ⟨h1, h2⟩ := List.getElem?_eq_some_iff.mp hj
  rw [List.length_range] at h1
  rw [List.getElem_range] at h2
  subst h2
  exact ⟨h1, rfl⟩
theorem rng_length {lo : Int} {n : Nat} : (rng lo n).length = n := by unfold rng; rw [List.length_map, List.length_range]
theorem small_mod {x m : Int} (h0 : 0 < m) (h : m ≤ 18446744073709551616) : smallI (x % m) = true := by
  unfold smallI
  have h1 := Int.emod_nonneg x (Int.ne_of_gt h0)
  have h2 := Int.emod_lt_of_pos x h0
  exact decide_eq_true ⟨by omega, by omega⟩
theorem ints_get {ns : List Int} {i : Nat} (h : i < ns.length) : atI (ns.map D.int) (i : Int) = some (.int ns[i]) := atI_nat (by rw [List.getElem?_map, List.getElem?_eq_getElem h]; rfl)
/-- the dict of the draws -/
abbrev drw (q : Nat) (a seed : Int) : List (Key × D) := [(.inr "row", .ref q), (.inr "at", .int a), (.inr "seed", .int seed)]
theorem key_ra : ¬ (Sum.inr ("row" : Str) : Key) = Sum.inr ("at" : Str) := by decide +kernel
theorem key_sa : ¬ (Sum.inr ("seed" : Str) : Key) = Sum.inr ("at" : Str) := by decide +kernel
theorem key_rs : ¬ (Sum.inr ("row" : Str) : Key) = Sum.inr ("seed" : Str) := by decide +kernel
theorem key_as : ¬ (Sum.inr ("at" : Str) : Key) = Sum.inr ("seed" : Str) := by decide +kernel
theorem drw_put (q : Nat) (a seed b : Int) : putD (drw q a seed) (.inr "at") (.int b) = drw q b seed := by
  unfold putD hasD replD drw
  simp only [lookD, key_ra, key_sa, if_true, if_false, Option.isSome, List.map_cons, List.map_nil]
theorem drw_row (q : Nat) (a seed : Int) : lookD (drw q a seed) (.inr "row") = some (.ref q) := by
  simp only [lookD, drw, if_true]
theorem drw_at (q : Nat) (a seed : Int) : lookD (drw q a seed) (.inr "at") = some (.int a) := by
  simp only [lookD, drw, key_ra, if_true, if_false]
theorem drw_seed (q : Nat) (a seed : Int) : lookD (drw q a seed) (.inr "seed") = some (.int seed) := by
  simp only [lookD, drw, key_rs, key_as, if_true, if_false]
theorem drw_made (q : Nat) (a seed : Int) : mergeD [] (drw q a seed) = drw q a seed := by
  unfold mergeD drw
  simp only [List.foldl, putD, hasD, lookD, key_ra, key_rs, key_as, if_false, Option.isSome, Bool.false_eq_true, List.nil_append, List.cons_append]
/-- the draws: the dict at r, its row at q -/
structure Dr (r q : Nat) (S : Store) : Prop where
  ne : r ≠ q
  ex : ∃ (row : List Int) (a : Nat) (seed : Int), S[r]? = some (.dK (drw q a seed)) ∧ S[q]? = some (.lst (row.map .int)) ∧ row.length ≤ 100000
/-- all else is as it was -/
structure Kp (r : Nat) (S S' : Store) : Prop where
  le : S.length ≤ S'.length
  get : ∀ i, i < S.length → i ≠ r → S'[i]? = S[i]?
theorem Dr.lt {r q : Nat} {S : Store} (h : Dr r q S) : r < S.length ∧ q < S.length := by
  obtain ⟨row, a, seed, h1, h2, _⟩ := h.ex
  exact ⟨(List.getElem?_eq_some_iff.mp h1).1, (List.getElem?_eq_some_iff.mp h2).1⟩
theorem Kp.refl {r : Nat} {S : Store} : Kp r S S := ⟨Nat.le_refl _, fun _ _ _ => rfl⟩
theorem Kp.trans {r : Nat} {S S1 S2 : Store} (a : Kp r S S1) (b : Kp r S1 S2) : Kp r S S2 := ⟨Nat.le_trans a.le b.le, fun i hi hr => (b.get i (Nat.lt_of_lt_of_le hi a.le) hr).trans (a.get i hi hr)⟩
theorem Kp.app {r : Nat} {S l : Store} : Kp r S (S ++ l) := ⟨by rw [List.length_append]; omega, fun i hi _ => List.getElem?_append_left hi⟩
theorem Kp.set {r i : Nat} {S S1 : Store} {o : MO} (h : Kp r S S1) (hi : S.length ≤ i) : Kp r S (S1.set i o) := ⟨by rw [List.length_set]; exact h.le, fun j hj hr => by rw [List.getElem?_set_ne (by omega)]; exact h.get j hj hr⟩
theorem Dr.app {r q : Nat} {S l : Store} (h : Dr r q S) : Dr r q (S ++ l) := by
  obtain ⟨row, a, seed, h1, h2, h3⟩ := h.ex
  exact ⟨h.ne, row, a, seed, by rw [List.getElem?_append_left h.lt.1]; exact h1, by rw [List.getElem?_append_left h.lt.2]; exact h2, h3⟩
theorem Dr.set {r q i : Nat} {S : Store} {o : MO} (h : Dr r q S) (h1 : i ≠ r) (h2 : i ≠ q) : Dr r q (S.set i o) := by
  obtain ⟨row, a, seed, e1, e2, h3⟩ := h.ex
  exact ⟨h.ne, row, a, seed, by rw [List.getElem?_set_ne h1]; exact e1, by rw [List.getElem?_set_ne h2]; exact e2, h3⟩
theorem w_lcm {α : Type} {x y : M α} {R : α → Store → Prop} (h : x = y) : wp x S R ↔ wp y S R := by rw [h]
end
end TS
set_option Elab.async false
set_option linter.all false
set_option maxRecDepth 100000
namespace TS
open PySem PySem.Spec PyProof.Rows L2
/-! ### a def that calls itself -/
theorem fn_fail {P : Program} {w : World} {K : PySem.W.Frag} {mg : Str → Option Value} {base : Heap} {f : Addr} {fd : FuncData} {ps : List Str} {n k : Nat} : FnOk P w K mg base CX0 k f fd ps (spOf K n fun _ => fail) :=
  ⟨fun _ _ _ _ h => (by obtain ⟨_, _, _, _, _, _, _, _, e, _⟩ := h; cases e), fun _ _ _ _ _ _ _ _ _ _ _ _ _ h => (by obtain ⟨_, _, _, _, _, _, _, _, e, _⟩ := h; cases e)⟩
/-! ### a text turned round -/
section
variable {X : Cx} {e : Expr} {te : TE} {f : SEnv → M D} {k : Nat} {p1 p2 p3 pos : Pos}
def turnS (x : Str) : Str := ⟨x.cps.toList.reverse.toArray⟩
def tRevS (te : TE) : TE := fun σ H Q => te σ H fun x H1 => ∃ z : Str, x = .str z ∧ z.length ≤ sizeLine ∧ Q (.str (turnS z)) H1
theorem pe_revS (he : PE X e te) : PE X (.Subscript e (.Slice none none (some (.UnaryOp .USub (.Constant (.int 1) k p1) p2)) p3) pos) (tRevS te) := by
  refine ⟨fun pins s σ H Q I h => ?_⟩
  refine Subscript_ (thn (he.run pins s σ H _ I h) fun v s1 ⟨x, H1, I1, r1, q1⟩ => ?_)
  obtain ⟨z, rfl, hz, q⟩ := q1
  obtain ⟨t, rfl⟩ := r1
  have neg1 : PO X (some (.UnaryOp .USub (.Constant (.int 1) k p1) p2)) (tPart (tUn (rU fun i => .int (-i)) (tC (.int 1)))) := po_some (pe_un un_neg pe_int)
  have lo0 := fun (s2 : Shared) (G : Hp) (I2 : Inv X pins σ G s2) => (po_none (X := X)).run pins s2 σ G (fun o G2 => o = none ∧ G2 = G) I2 ⟨rfl, rfl⟩
  refine wpAny_Slice (thn (lo0 s1 H1 I1) fun v1 s2 ⟨o1, G1, J1, a1, b1, c1⟩ => ?_)
  subst b1 c1
  refine thn (lo0 s2 G1 J1) fun v2 s3 ⟨o2, G2, J2, a2, b2, c2⟩ => ?_
  subst b2 c2
  refine thn (neg1.run pins s3 σ G2 (fun o G => o = some (-1) ∧ G = G2) J2 ⟨1, rfl, -1, rfl, rfl, rfl⟩) fun v3 s4 ⟨o3, G3, J3, a3, b3, c3⟩ => ?_
  subst b3 c3
  cases a1
  cases a2
  cases a3
  rename_i tk _
  refine tail_any (ops := [.ref s4.heap.objs.size, .str z t]) (typeIs_str _ z t) PySem.F.slot_str_getitem.lookup (wpAny_getItem_str_slice (l := none) (u := none) (st := some (-1, tk)) ⟨_, Heap.get?_push_size _ rfl, rfl, rfl⟩ rfl ?_) (by with_unfolding_all rfl)
  have e : sliceMade z t none none (some (-1, tk)) = .str (turnS z) := by
    unfold sliceMade
    rw [if_neg (by simp)]
    unfold turnS slicePicked
    show Made.str ⟨((Builtin.Str.strSliceIndices none none (-1) z.length).filterMap (z.cps[·]?)).toArray⟩ = _
    have e2 : Builtin.Str.strSliceIndices none none (-1) z.length = (List.range z.length).reverse := by
      rw [← PySem.W.krv_range, ← PySem.W.krv_sliceRange]
      rfl
    rw [e2, List.filterMap_reverse, show z.length = z.cps.size from rfl, PySem.W.krv_all]
  rw [e]
  refine ⟨by unfold turnS; simpa [Str.length] using hz, .str (turnS z), G3, ?_, ⟨_, rfl⟩, q⟩
  exact (J3.kept (t' := s4.toks) fun b ob q => Heap.get?_push_of_some _ q).tok _
def revM (d : D) : M D := fun S => match d with
  | .str z => if z.length ≤ sizeLine then some (.str (turnS z), S) else none
  | _ => none
def eRev (f : SEnv → M D) : SEnv → M D := fun env => bnd (f env) revM
theorem de_rev (he : DE X e te f) : DE X (.Subscript e (.Slice none none (some (.UnaryOp .USub (.Constant (.int 1) k p1) p2)) p3) pos) (tRevS te) (eRev f) := ⟨pe_revS he.pe, fun m S H env σ rl re d S' h Q q => by
  obtain ⟨a, S1, h1, h2⟩ := bnd_some h
  refine he.se rl re a S1 h1 _ fun m1 H1 v rl1 e1 rv => ?_
  unfold revM at h2
  split at h2
  · split at h2
    · cases h2
      cases rv
      exact ⟨_, rfl, by assumption, q m1 H1 _ rl1 e1 (.str _)⟩
    · cases h2
  · cases h2⟩
end
end TS
set_option Elab.async false
set_option linter.all false
set_option maxRecDepth 100000
namespace TS
open PySem PySem.Spec PyProof.Rows PySem.Builtin PySem.Calls L2
/-! ### set(xs) of a list of integers -/
abbrev newS (w : World) : Obj := { cls := .type "set", dict := none, data := .set #[] 0 (.fresh 0 0 (!w.params.followText "set-order")) }
section
variable {P : Program} {w : World} {A : Around} {E : Value → Shared → Prop} {s : Shared}
/-- what is there behind the making -/
def MadeS (w : World) (ns : List Int) (s s2 : Shared) : Prop := ∃ (h2 : Heap) (t2 c2 : Nat), s2 = { s with heap := h2, toks := t2 } ∧ SetR w h2 s.heap.objs.size (fun j => decide (j ∈ ns)) c2 ∧ c2 ≤ ns.length ∧ ∀ b o, s.heap.get? b = some o → h2.get? b = some o
set_option maxHeartbeats 3200000 in
theorem set_of_list {l : Addr} {items : Array Value} (ns : List Int) {Q : Value → Shared → Prop} (hh : A.handled = none) (hl : s.heap.IsList l items) (hi : IntsAre items.toList ns) (hb : ns.length + 1 < scanBound)
    (q : ∀ s2, MadeS w ns s s2 → Q (.ref s.heap.objs.size) s2) : wpAny (model P w) A (call (.type "set") [.ref l]) Q E s := by
  have hn : items.size = ns.length := by rw [← Array.length_toList]; exact IntsAre.length hi
  obtain ⟨_, _, mro⟩ := F.called_set.mro
  have m1 := F.called_set.made
  have m2 := F.called_set.sub
  have m3 := F.called_set.notType
  have m4 := F.called_set.canCreate
  have m5 := F.typeCall_set_1 (.ref l)
  refine wpAny_call (codeAny_of_tree (show wpAny _ _ (callAny (.type "set") _) _ _ _ from ?_))
  refine wpAny_pure ⟨Code.quiet_builtin _ (by decide +kernel), codeAny_builtin F.entry_type_call ?_⟩
  rw [Around.under_plain (weight_type_call_type "set" [.ref l] []) rfl]
  repeat (any_goals (first | assumption | wp_step))
  have made := code_set_led1 (P := P) (w := w) (A := A.in1) (s := s) (E := E) (.ref l) (Q₁ := fun o s1 => o = .ref s.heap.objs.size ∧ s1 = { s with heap := s.heap.push (newS w) }) ⟨rfl, rfl⟩
  refine codeAny_mono made fun r s1 hr => ?_
  match r, hr with
  | .error e, hr => exact hr
  | .ok (.ret o), hr =>
    obtain ⟨rfl, rfl⟩ := hr
    have g0 : (s.heap.push (newS w)).get? s.heap.objs.size = some (newS w) := Heap.get?_push_size _ rfl
    have ty : Shared.TypeIs { s with heap := s.heap.push (newS w) } (.ref s.heap.objs.size) "set" := ⟨_, g0, rfl⟩
    have n1 := F.called_set.init.lookup
    have n2 := F.called_set.init.bind (.ref s.heap.objs.size)
    repeat (any_goals (first | assumption | wp_step))
    refine codeAny_mono (codeAny_call_builtin (R := wants (fun o s2 => o = .none ∧ MadeS w ns s s2) E) F.called_set.init.plain F.entry_set_init (check_set_init_1 ty ?_)) fun o s2 h2 => ?_
    · obtain ⟨ob, hob, hc, nl, hd⟩ := hl
      obtain ⟨cl, dc, dt, sl⟩ := ob
      simp only at hc hd
      subst hc hd
      have g1 : (s.heap.push (newS w)).get? l = some { cls := .type "list", dict := dc, data := .seq items nl, slots := sl } := Heap.get?_push_of_some _ hob
      have b1 := F.sub_list_set
      have b2 := F.sub_list_frozenset
      have b3 : (Value.type "list" == Value.type "dict") = false := by decide
      have il : (s.heap.push (newS w)).IsList l items := ⟨_, g1, rfl, nl, rfl⟩
      unfold Builtin.«set.__init__» noKeywords Builtin.Frozenset.updateFrom
      generalize hit : pyIter = it
      wp_walk
      subst hit
      refine wpAny_pyIter_list il (wpAny_bind (wpAny_runValue ?_))
      have ll : l < s.heap.objs.size := Heap.lt_size hob
      have z1 : (s.heap.push (newS w)).objs.size = s.heap.objs.size + 1 := Heap.size_push ..
      have nl : l ≠ (s.heap.push (newS w)).objs.size := by
        rw [z1]
        exact Nat.ne_of_lt (Nat.lt_succ_of_lt ll)
      have wk := Walks.list (prog := P) (w := w) (A := A.in1.in1.in1) (by simp [hh]) (s.heap.push (newS w)).objs.size l nl items
      have at' : ∀ (i : Nat) (v : Value), items[i]? = some v → ∃ k t, ns[i]? = some k ∧ v = .int k t := fun i v hv => by
        have hlt : i < ns.length := by rw [← hn]; exact (Array.getElem?_eq_some_iff.mp hv).1
        obtain ⟨t, rfl⟩ := IntsAre.int_at hi i v (by rw [Array.getElem?_toList]; exact hv)
        exact ⟨ns[i], t, List.getElem?_eq_getElem hlt, by rw [List.getD_eq_getElem?_getD, List.getElem?_eq_getElem hlt]; rfl⟩
      refine set_update_ints wk.toS s.heap.objs.size (by
        rw [z1]
        intro hm
        rcases List.mem_cons.mp hm with e | hm
        · exact Nat.ne_of_lt (Nat.lt_succ_self _) e
        · exact Nat.ne_of_gt ll (List.mem_singleton.mp hm)) ns hn hb at' items.size 0 _ (Nat.sub_zero _) (Nat.zero_le _) ⟨⟨_, Heap.get?_push_size _ rfl, rfl, rfl⟩, il.push _⟩ ⟨0, Nat.le_refl 0, setR_new_at (Heap.get?_push_of_some _ g0)⟩ fun s3 c3 mv hc3 hS3 => ?_
      obtain ⟨h3, g3, d3, t3, o3⟩ := s3
      obtain rfl : g3 = s.gens := mv.gens
      obtain rfl : d3 = s.drawn := mv.drawn
      obtain rfl : o3 = s.os := mv.os
      refine wpAny_pure (wpAny_pure ⟨rfl, h3, t3, c3, rfl, hS3, by omega, fun b o e => ?_⟩)
      have hb0 : b < s.heap.objs.size := Heap.lt_size e
      refine mv.heap b o ?_ (Heap.get?_push_of_some _ (Heap.get?_push_of_some _ e))
      rw [z1]
      intro hm
      rcases List.mem_cons.mp hm with e | hm
      · exact Nat.ne_of_lt hb0 e
      · exact Nat.ne_of_lt (Nat.lt_succ_of_lt hb0) (List.mem_singleton.mp hm)
    · match o, h2 with
      | .error e, h2 => exact h2
      | .ok (.ret o), h2 =>
        obtain ⟨rfl, mk⟩ := h2
        repeat (any_goals (first | assumption | wp_step))
        exact q _ mk
end
end TS
set_option Elab.async false
set_option linter.all false
set_option maxRecDepth 100000
namespace TS
open PySem PySem.Spec PyProof.Rows L2
/-! ### sorted(set(xs)) of integers -/
def insI (x : Int) : List Int → List Int
  | [] => [x]
  | y :: r => if x < y then x :: y :: r else if x = y then y :: r else y :: insI x r
def sortI : List Int → List Int
  | [] => []
  | x :: r => insI x (sortI r)
theorem mem_insI {x k : Int} : ∀ {l : List Int}, k ∈ insI x l ↔ k = x ∨ k ∈ l
  | [] => by simp [insI]
  | y :: r => by
    unfold insI
    split
    · simp
    · split
      · rename_i e
        subst e
        simp
      · rw [List.mem_cons, mem_insI, List.mem_cons]
        constructor
        · rintro (h | h | h)
          · exact .inr (.inl h)
          · exact .inl h
          · exact .inr (.inr h)
        · rintro (h | h | h)
          · exact .inr (.inl h)
          · exact .inl h
          · exact .inr (.inr h)
theorem mem_sortI {k : Int} : ∀ {l : List Int}, k ∈ sortI l ↔ k ∈ l
  | [] => by simp [sortI]
  | x :: r => by
    unfold sortI
    rw [mem_insI, mem_sortI, List.mem_cons]
theorem rise_insI {x : Int} : ∀ {l : List Int}, l.Pairwise (· < ·) → (insI x l).Pairwise (· < ·)
  | [], _ => List.pairwise_singleton _ _
  | y :: r, h => by
    obtain ⟨h1, h2⟩ := List.pairwise_cons.mp h
    unfold insI
    split
    · refine List.pairwise_cons.mpr ⟨fun k hk => ?_, h⟩
      rcases List.mem_cons.mp hk with rfl | hk
      · assumption
      · have := h1 k hk
        omega
    · split
      · exact h
      · refine List.pairwise_cons.mpr ⟨fun k hk => ?_, rise_insI h2⟩
        rcases mem_insI.mp hk with rfl | hk
        · omega
        · exact h1 k hk
theorem rise_sortI : ∀ {l : List Int}, (sortI l).Pairwise (· < ·)
  | [] => List.Pairwise.nil
  | x :: r => rise_insI rise_sortI
theorem rise_eq : ∀ {l m : List Int}, l.Pairwise (· < ·) → m.Pairwise (· < ·) → (∀ k, k ∈ l ↔ k ∈ m) → l = m
  | [], [], _, _, _ => rfl
  | [], y :: _, _, _, h => absurd ((h y).mpr (List.mem_cons_self ..)) List.not_mem_nil
  | x :: _, [], _, _, h => absurd ((h x).mp (List.mem_cons_self ..)) List.not_mem_nil
  | x :: r, y :: t, hl, hm, h => by
    obtain ⟨l1, l2⟩ := List.pairwise_cons.mp hl
    obtain ⟨m1, m2⟩ := List.pairwise_cons.mp hm
    have e : x = y := by
      have a := (h x).mp (List.mem_cons_self ..)
      have b := (h y).mpr (List.mem_cons_self ..)
      rcases List.mem_cons.mp a with a | a
      · exact a
      · rcases List.mem_cons.mp b with b | b
        · exact b.symm
        · have := m1 x a
          have := l1 y b
          omega
    subst e
    rw [rise_eq l2 m2 fun k => ⟨fun hk => ?_, fun hk => ?_⟩]
    · rcases List.mem_cons.mp ((h k).mp (List.mem_cons_of_mem _ hk)) with rfl | q
      · exact absurd (l1 k hk) (Int.lt_irrefl _)
      · exact q
    · rcases List.mem_cons.mp ((h k).mpr (List.mem_cons_of_mem _ hk)) with rfl | q
      · exact absurd (m1 k hk) (Int.lt_irrefl _)
      · exact q
section
variable {X : Cx}
def rSetLI (X : Cx) : List V → Hp → VK → Prop := fun xs H Q => ∃ (p : Addr) (ns : List Int), xs = [.ref p] ∧ SqL X.K H p (ns.map V.int) ∧ ns.length ≤ 63 ∧ ∀ (a : Addr) (c : Nat), c ≤ ns.length → H a = none → Q (.ref a) (upd H a (SetO X.w a (fun j => decide (j ∈ ns)) c))
theorem cr_setLI (hc : X.calm = true) : CallR X (.type "set") (rSetLI X) := by
  intro pins s σ H xs us Q I r h
  obtain ⟨p, ns, rfl, hq, hl, q⟩ := h
  rw [Vals.ref1 r]
  obtain ⟨its, rv, pl, _⟩ := I.list hq
  refine set_of_list ns (I.ok.hd hc) pl.isList (by simpa using ints_of_vals rv) (by unfold scanBound; omega) fun s2 hs => ?_
  obtain ⟨h2, t2, c2, rfl, R, hcl, keep⟩ := hs
  exact ⟨.ref _, _, I.laid (t' := t2) keep (Nat.le_refl _) (setO_new R), rfl, q _ _ hcl (I.hok.fresh (Nat.le_refl _))⟩
def sortM (d : D) : M D := fun S => match d with
  | .ref i => match S[i]? with
    | some (.lst xs) => match intsOf xs with
      | some ns => if ns.length ≤ 63 then some (.ref S.length, S ++ [.lst ((sortI ns).map .int)]) else none
      | none => none
    | _ => none
  | _ => none
def eSortSet (f : SEnv → M D) : SEnv → M D := fun env => bnd (f env) sortM
variable {e : Expr} {te : TE} {f : SEnv → M D} {p1 p2 p3 pos : Pos}
theorem de_sortSet (hc : X.calm = true) (h1 : X.mg "sorted" = none) (h2 : X.mg "set" = none) (he : DE X e te f) (g1 : Gl X "sorted" := by rfl) (g2 : Gl X "set" := by rfl)
    (s1 : starEach [e] X.env = (false, eval e X.env) :: starEach [] X.env := by rfl)
    (s2 : starEach [Expr.Call (.Name "set" p2) [e] [] p3] X.env = (false, eval (Expr.Call (.Name "set" p2) [e] [] p3) X.env) :: starEach [] X.env := by rfl) :
    DE X (.Call (.Name "sorted" p1) [.Call (.Name "set" p2) [e] [] p3] [] pos) (tCB (rSortedSet X.w) (tCons (tCB (rSetLI X) (tCons te tNil)) tNil)) (eSortSet f) := by
  have q1 : PE X (.Call (.Name "set" p2) [e] [] p3) (tCB (rSetLI X) (tCons te tNil)) := pe_callTy (cr_setLI hc) g2 h2 (by decide +kernel) (pa_cons he.pe pa_nil s1) (by decide) (by decide) s1 rfl
  refine ⟨pe_callB (cr_sortedSet hc) g1 h1 (by decide +kernel) (pa_cons q1 pa_nil s2) (by decide) (by decide) s2 rfl, fun m S H env σ rl re d S' h Q q => ?_⟩
  obtain ⟨a, S1, k1, k2⟩ := bnd_some h
  refine he.se rl re a S1 k1 _ fun m1 H1 v rl1 e1 rv => ?_
  unfold sortM at k2
  split at k2
  · rename_i i
    split at k2
    · rename_i xs hx
      split at k2
      · rename_i ns hns
        split at k2
        · rename_i hl
          cases k2
          obtain ⟨p, vs, rfl, _, hq, hv⟩ := rl1.sqL hx rv
          have hvs := intsOf_rep hv hns
          subst hvs
          refine ⟨p, ns, rfl, .inl (.inl hq), hl, fun b c hcl hb => ?_⟩
          obtain ⟨rl2, x2⟩ := rl1.keep (keep_upd (o := SetO X.w b (fun j => decide (j ∈ ns)) c) hb)
          refine ⟨b, _, c, rfl, upd_same, by omega, fun ms p2 hr hmem _ hp2 => ?_⟩
          have hms : ms = sortI ns := rise_eq hr rise_sortI fun k => by rw [hmem k, mem_sortI, decide_eq_true_iff]
          subst hms
          have hr2 : Reps X.K m1 (upd H1 b (SetO X.w b (fun j => decide (j ∈ ns)) c)) ((sortI ns).map .int) ((sortI ns).map V.int) := by
            induction sortI ns with
            | nil => exact .nil
            | cons x r ih => exact .cons (.int x) ih
          obtain ⟨a1, a2, a3⟩ := rl2.new hp2 (.lst hr2)
          exact q _ _ _ a1 ((e1.trans x2).trans a2) a3
        · cases k2
      · cases k2
    · cases k2
  · cases k2
end
end TS
set_option Elab.async false
set_option linter.all false
set_option maxRecDepth 100000
namespace TS
open PySem PySem.Spec PyProof.Rows L2
section
variable {X : Cx} {K : PySem.W.Frag} {m : List Addr} {H : Hp}
theorem Reps.initL : ∀ {ds : List D} {vs : List V}, Reps K m H ds vs → Reps K m H ds.dropLast vs.dropLast
  | _, _, .nil => .nil
  | _, _, .cons h .nil => .nil
  | _, _, .cons h (.cons h2 h3) => .cons h (Reps.initL (.cons h2 h3))
/-- xs.pop() -/
def mPop (a : D) (as : List D) : M D := fun S => match a, as with
  | .ref i, [] => match S[i]? with
    | some (.lst xs) => match xs[xs.length - 1]? with
      | some d => some (d, S.set i (.lst xs.dropLast))
      | none => none
    | _ => none
  | _, _ => none
theorem m_pop : DM X "list" "list.pop" rPop mPop := ⟨mt_pop, fun m S H x a xs as rl ra ras d S' h Q q => by
  unfold mPop at h
  split at h
  · split at h
    · split at h
      · cases h
        rename_i i _ ys e d' hd
        cases ras
        obtain ⟨p, vs, rfl, hp, h2, h3⟩ := rl.sqL e ra
        obtain ⟨v, hv, rv⟩ := h3.get hd
        obtain ⟨a1, a2⟩ := rl.set hp (.lst h3.initL)
        refine ⟨p, vs, v, rfl, rfl, h2, by rw [← h3.length]; exact hv, q m _ _ a1 a2 (rv.mono rl a2)⟩
      · cases h
    · cases h
  · cases h⟩
/-- xs.extend(ys), ys another list -/
def mExtend (a : D) (as : List D) : M D := fun S => match a, as with
  | .ref i, [.ref j] => match S[i]?, S[j]? with
    | some (.lst xs), some (.lst ys) => if xs.length + ys.length ≤ sizeLine then some (.non, S.set i (.lst (xs ++ ys))) else none
    | _, _ => none
  | _, _ => none
theorem m_extend : DM X "list" "list.extend" rExtend mExtend := ⟨mt_extend, fun m S H x a xs as rl ra ras d S' h Q q => by
  unfold mExtend at h
  split at h
  · split at h
    · split at h
      · cases h
        rename_i i j _ _ ys zs e e2 c
        obtain ⟨v, rfl, rv⟩ := ras.one
        obtain ⟨p, vs, rfl, hp, h2, h3⟩ := rl.sqL e ra
        obtain ⟨p2, vs2, rfl, hp2, g2, g3⟩ := rl.sqL e2 rv
        obtain ⟨a1, a2⟩ := rl.set hp (.lst (h3.append g3))
        exact ⟨p, p2, vs, vs2, rfl, rfl, h2, g2, by rw [← h3.length, ← g3.length]; exact c, q m _ _ a1 a2 .non⟩
      · cases h
    · cases h
  · cases h⟩
/-- sep.join(xs) -/
def mJoin (a : D) (as : List D) : M D := fun S => match a, as with
  | .str z, [d] => match seqOf S d with
    | some xs => match strsOf xs with
      | some ys => if (ys.map (·.length)).sum + ys.length * z.length ≤ 16777216 then some (.str (Txt.join z ys), S) else none
      | none => none
    | none => none
  | _, _ => none
theorem m_join : DM X "str" "str.join" (fun x xs H Q => ∃ a p, ∃ ys : List Str, x = .str a ∧ xs = [.ref p] ∧ (SqL X.K H p (ys.map V.str) ∨ SqT X.K H p (ys.map V.str)) ∧
    (ys.map (·.length)).sum + ys.length * a.length ≤ 16777216 ∧ Q (.str (Txt.join a ys)) H) mJoin := ⟨mt_join, fun m S H x a xs as rl ra ras d S' h Q q => by
  unfold mJoin at h
  split at h
  · split at h
    · split at h
      · split at h
        · cases h
          rename_i z d' _ xs' e _ ys e2 c
          obtain ⟨v, rfl, rv⟩ := ras.one
          cases ra
          obtain ⟨p, vs, rfl, h1, h2⟩ := seqOf_rep rl rv e
          have := strsOf_rep h2 e2
          subst this
          exact ⟨_, p, ys, rfl, rfl, h1, c, q m H _ rl .refl (.str _)⟩
        · cases h
      · cases h
    · cases h
  · cases h⟩
end
end TS
set_option Elab.async false
set_option linter.all false
set_option maxRecDepth 100000
namespace TS
open PySem PySem.Spec PyProof.Rows L2 PySem.Calls PySem.Builtin
/-! ### enumerate(x): of a list, a tuple, a text -/
abbrev eObj (it : Addr) : Obj := { cls := .type "enumerate", data := .fields #[.none, .bool false, .ref it, rawInt 0, .none, .none] }
set_option maxHeartbeats 1000000 in
theorem enum_new {v : Value} {o : Obj} {G : Heap → Prop} (B : Begins v o G) : Meets (Builtin.«enumerate.__new__» ⟨[.type "enumerate", v], []⟩) (fun _ R s => G s.heap ∧
    R (.ok (.ret (.ref (s.heap.push o).objs.size))) { s with heap := (s.heap.push o).push (eObj s.heap.objs.size) }) := .of_wp fun prog w A R s h => by
  obtain ⟨hp, g, d, tk, os⟩ := s
  have sub := sub_enumerate
  have go : ∀ {A2 : Around} {E2 : Value → Shared → Prop} {Q2 : Value → Shared → Prop}, Q2 (.ref hp.objs.size) ⟨hp.push o, g, d, tk, os⟩ → wpAny (model prog w) A2 (pyIter v) Q2 E2 ⟨hp, g, d, tk, os⟩ := fun q => B.iter prog w _ _ ⟨hp, g, d, tk, os⟩ _ h.1 q
  wp_walk using go
  refine wpAny_stack_any fun fr => wpAny_pure ?_
  split
  · rename_i c _ _ _ _ _
    cases (c == Value.type "enumerate") <;> (wp_walk using go; exact ⟨_, rfl, h.2⟩)
  · wp_walk using go
    exact ⟨_, rfl, h.2⟩
section
variable {P : Program} {w : World} {A : Around} {E : Value → Shared → Prop} {s : Shared}
theorem enum_one {v : Value} {o : Obj} {G : Heap → Prop} {Q : Value → Shared → Prop} (B : Begins v o G) (g : G s.heap)
    (q : ∀ h2, IsEnum h2 (s.heap.objs.size + 1) s.heap.objs.size 0 .none → h2.get? s.heap.objs.size = some o → (∀ b u, s.heap.get? b = some u → h2.get? b = some u) → Q (.ref (s.heap.objs.size + 1)) { s with heap := h2 }) :
    wpAny (model P w) A (call (.type "enumerate") [v]) Q E s := by
  refine callType_new F.called_enumerate (by decide) (F.typeCall_enumerate_1 _) (F.newCall_enumerate_1 _) (fun x => F.args_object_init_2 x _) F.entry_enumerate_new (enum_new B) ⟨g, ?_⟩
  have z : (s.heap.push o).objs.size = s.heap.objs.size + 1 := Heap.size_push ..
  have e : ((s.heap.push o).push (eObj s.heap.objs.size)).get? (s.heap.objs.size + 1) = some (eObj s.heap.objs.size) := by
    rw [← z]
    exact Heap.get?_push_size _ rfl
  show _ ∧ _
  rw [z]
  exact ⟨⟨_, e, rfl⟩, q _ e (Heap.get?_push_of_some _ (Heap.get?_push_size _ B.free)) fun b u x => Heap.get?_push_of_some _ (Heap.get?_push_of_some _ x)⟩
end
def ItEn (K : PySem.W.Frag) (k : Kd) : It :=
  ⟨fun i H => ∃ vs : List V, k.its K H vs ∧ i < vs.length, fun i H v H' => ∃ T x, v = .ref T ∧ H T = none ∧ H' = upd H T (.tup [.int (i : Nat), x]) ∧ ∀ vs, k.its K H vs → vs[i]? = some x, fun i H => ∃ vs : List V, k.its K H vs ∧ i = vs.length⟩
theorem turn_enumG {P : Program} {w : World} {K : PySem.W.Frag} {elts : List Expr} {kk : Nat} {tpos : Pos} {e it : Addr} {k : Kd} (ne : e ≠ it) (oe : k.off e) (oi : k.off it) :
    Turn P w K (.Tuple elts kk tpos) (ItEn K k) [e, it] e (fun i h => (∃ old, IsEnum h e it ((i : Nat) : Int) old) ∧ k.at it i h) where
  mem := List.mem_cons_self ..
  obj := fun i h st b hb => by
    obtain ⟨⟨old, s1⟩, s2⟩ := st
    rcases List.mem_cons.mp hb with rfl | hb
    · exact ⟨_, s1, fun v q => nomatch q⟩
    · rw [List.mem_singleton.mp hb]
      exact Kd.live s2
  keep := fun i h h' st kp => by
    obtain ⟨⟨old, s1⟩, s2⟩ := st
    exact ⟨⟨old, kp e (by simp) _ s1⟩, Kd.keep s2 (kp it (by simp))⟩
  item := by
    intro X e1 e2 e3 hc i pins s σ H E I hf st hg
    subst e1 e2 e3
    obtain ⟨⟨old, s1⟩, s2⟩ := st
    obtain ⟨vs, hvs, hi⟩ := hg
    obtain ⟨P1, St1, D1, t1, r1, b1⟩ := Kd.draws I hc hvs oi s2
    have le : e < s.heap.objs.size := Heap.lt_size s1
    have li : it < s.heap.objs.size := let ⟨_, q, _⟩ := Kd.live s2; Heap.lt_size q
    refine wpAny_pyNext_enum_itemD D1 s1 t1 hi ne (Kd.not_fp ne.symm oe) fun u h1 tk pu c1 c2 c3 _ kp => ?_
    obtain ⟨x, hx, rx⟩ := r1 i u pu
    refine ⟨_, rfl, wpAny_letOwnedTupleGo_enum (s := { s with heap := h1, toks := tk + 1 }) c1 fun h2 c1' sb => ?_⟩
    have two : ∀ c o, c ∉ [e, it] → s.heap.get? c = some o → h2.get? c = some o := fun c o hn q => (sb.2 c fun w => hn (by simp [w])).trans (kp c o (fun w => hn (by simp [w])) (fun w => hn (by simp [w])) q)
    have hT : h2.get? s.heap.objs.size = some { cls := .type "tuple", data := .seq #[.int i tk, u] } := (sb.2 _ (Nat.ne_of_gt le)).trans c3
    have new : ObjOk X.prog X.w (upd H s.heap.objs.size (.tup [.int (i : Nat), x])) h2 s.heap.objs.size (.tup [.int (i : Nat), x]) := ⟨by show 2 ≤ sizeLine; decide, [.int i tk, u], .cons ⟨_, rfl⟩ (.cons rx .nil), _, hT, rfl, _, rfl⟩
    have I2 : Inv X pins σ (upd H s.heap.objs.size (.tup [.int (i : Nat), x])) { s with heap := h2, toks := tk + 1 } := I.turnedNew (ch := [e, it]) two hf (Nat.le_refl _) new
    refine ⟨.ref s.heap.objs.size, _, I2, rfl, ⟨_, x, rfl, I.hok.fresh (Nat.le_refl _), rfl, fun ws hw => by rw [Kd.its_inj I hw hvs]; exact hx⟩, ⟨⟨u, ?_⟩, ?_⟩, fun c hcm => ?_⟩
    · rw [show ((i + 1 : Nat) : Int) = (i : Int) + 1 by omega]
      exact c1'
    · exact Kd.keep (b1 _ _ c2) fun o q => (sb.2 _ ne.symm).trans q
    · have hlt : c < s.heap.objs.size := by
        rcases List.mem_cons.mp hcm with rfl | hcm
        · exact le
        · rw [List.mem_singleton.mp hcm]
          exact li
      rw [upd_ne (Nat.ne_of_lt hlt)]
      exact (hf c hcm).1
  done := by
    intro X e1 e2 e3 hc i pins s σ H E I hf st hg
    subst e1 e2 e3
    obtain ⟨⟨old, s1⟩, s2⟩ := st
    obtain ⟨vs, hvs, hi⟩ := hg
    obtain ⟨P1, St1, D1, t1, r1, b1⟩ := Kd.draws I hc hvs oi s2
    subst hi
    refine wpAny_pyNext_enum_endD D1 s1 t1 fun h1 kp => ⟨rfl, ?_⟩
    exact I.turnedL (ch := [e, it]) (fun c o hn q => kp c o (fun w => hn (by simp [w])) q) hf
  self := fun A' i s Q E st h => let ⟨⟨_, s1⟩, _⟩ := st; wpAny_pyIter_enum s1 h
def iEnG (K : PySem.W.Frag) (ta : TA) : TI := fun σ H R => ta σ H fun vs H1 => ∃ x, vs = [x] ∧ ∀ u, RelV x u → ∃ k ws, OfK x u k ∧ k.its K H1 ws ∧ R (ItEn K k) H1
theorem pi_enumG {X : Cx} {e : Expr} {ta : TA} {p pos tpos : Pos} {elts : List Expr} {kk : Nat} (hm : X.mg "enumerate" = none) (ha : PA X [e] ta) (hg : Gl X "enumerate" := by rfl)
    (hs : starEach [e] X.env = (false, eval e X.env) :: starEach [] X.env := by rfl) (hpl : (backTo pos (starEach [] X.env)).any (·.1) = false := by rfl) :
    PI X (.Tuple elts kk tpos) (.Call (.Name "enumerate" p) [e] [] pos) (iEnG X.K ta) := by
  refine ⟨fun pins s σ H R I h => Call_ (ld_blt I hg hm boot_enumerate (PyProof.Rows.callWith_type1 (thn (ha.run pos pins s σ H _ I h) fun us s1 ⟨vs, H1, I1, rv, q⟩ => ?_) hs hpl))⟩
  obtain ⟨x, rfl, q⟩ := q
  obtain ⟨u, rfl, rx⟩ := rv.one
  obtain ⟨k, ws, o1, i1, q⟩ := q u rx
  obtain ⟨G1, B1, g1, f1⟩ := Kd.begins I1 i1
  rw [o1.val]
  refine enum_one B1 g1 fun h2 z1 z2 kp => wpAny_pyIter_enum z1 ?_
  have I2 : Inv X pins σ H1 { s1 with heap := h2 } := I1.kept (t' := s1.toks) kp
  refine ⟨s1.heap.objs.size + 1, [s1.heap.objs.size + 1, s1.heap.objs.size], _, _, H1, rfl, I2, turn_enumG (Nat.succ_ne_self _) (f1 _ (Nat.le_add_right _ _)) (f1 _ (Nat.le_refl _)), ⟨⟨_, z1⟩, k.at0 z2⟩, fun c hc => ?_, q⟩
  have hle : s1.heap.objs.size ≤ c := by
    rcases List.mem_cons.mp hc with rfl | hc
    · exact Nat.le_add_right _ _
    · rw [List.mem_singleton.mp hc]
      exact Nat.le_refl _
  exact I1.fpOk hle (I1.hok.fresh hle)
section
variable {X : Cx} {K : PySem.W.Frag} {m : List Addr} {H : Hp}
def enD (xs : List D) : List D := xs.zipIdx.map fun p => .tup [.int (p.2 : Nat), p.1]
theorem enD_length (xs : List D) : (enD xs).length = xs.length := by unfold enD; rw [List.length_map, List.length_zipIdx]
theorem enD_get {xs : List D} {i : Nat} {y : D} : (enD xs)[i]? = some y ↔ ∃ x, xs[i]? = some x ∧ y = .tup [.int (i : Nat), x] := by
  unfold enD
  rw [List.getElem?_map, List.getElem?_zipIdx, Nat.zero_add]
  cases xs[i]? with
  | none => simp
  | some x => simp [eq_comm]
theorem walk_enG {k : Kd} {xs : List D} {g : Gd} (w : KW K m H k xs g) : WalkD K m H (ItEn K k) (enD xs) g := by
  refine ⟨fun i H2 hi ⟨m2, S2, rl2, x2, g2⟩ => ?_, fun H2 ⟨m2, S2, rl2, x2, g2⟩ => ?_, fun i H2 x H3 hi _ y m2 S2 rl2 x2 g2 => ?_⟩
  · obtain ⟨vs, a1, a2⟩ := w m2 S2 H2 rl2 x2 g2
    rw [enD_length] at hi
    exact ⟨vs, a1, by rw [← a2.length]; exact hi⟩
  · obtain ⟨vs, a1, a2⟩ := w m2 S2 H2 rl2 x2 g2
    exact ⟨vs, a1, by rw [enD_length, a2.length]⟩
  · obtain ⟨vs, a1, a2⟩ := w m2 S2 H2 rl2 x2 g2
    rw [enD_length] at hi
    obtain ⟨T, u, rfl, hT, rfl, c1⟩ := y
    obtain ⟨u', d1, d2⟩ := a2.get (List.getElem?_eq_getElem hi)
    rw [c1 vs a1] at d1
    cases d1
    obtain ⟨z1, z2, z3⟩ := rl2.tup hT (.cons (.int (i : Nat)) (.cons d2 .nil))
    exact ⟨_, enD_get.mpr ⟨_, List.getElem?_eq_getElem hi, rfl⟩, z1, z2, z3⟩
def iEnM (f : SEnv → M (List D)) : SEnv → M (List D × Gd) := fun env => bnd (f env) fun ds S => match ds with
  | [a] => match srcOf S a with
    | some (xs, g) => some ((enD xs, g), S)
    | none => none
  | _ => none
theorem dk_enum {e : Expr} {ta : TA} {f : SEnv → M (List D)} {p pos tpos : Pos} {elts : List Expr} {kk : Nat} (K : PySem.W.Frag) (hK : X.K = K) (hm : X.mg "enumerate" = none) (ha : DA X [e] ta f) (hg : Gl X "enumerate" := by rfl)
    (hs : starEach [e] X.env = (false, eval e X.env) :: starEach [] X.env := by rfl) (hpl : (backTo pos (starEach [] X.env)).any (·.1) = false := by rfl) :
    DI X (.Tuple elts kk tpos) (.Call (.Name "enumerate" p) [e] [] pos) (iEnG K ta) (iEnM f) := by
  subst hK
  refine ⟨pi_enumG hm ha.pa hg hs hpl, fun m S H env σ rl re xs g S' hh R q => ?_⟩
  obtain ⟨ds, S1, e1, h1⟩ := bnd_some hh
  refine ha.sa rl re ds S1 e1 _ fun m1 H1 vs rl1 x1 rv => ?_
  split at h1
  · rename_i a
    obtain ⟨v, rfl, r1⟩ := rv.one
    cases ea : srcOf S1 a with
    | none => rw [ea] at h1; cases h1
    | some pa =>
      obtain ⟨xs1, g1⟩ := pa
      rw [ea] at h1
      cases h1
      refine ⟨v, rfl, fun u hu => ?_⟩
      obtain ⟨gk, w⟩ := srcOf_rep rl1 r1 ea
      obtain ⟨k, o, w⟩ := w u hu
      obtain ⟨vs, iv, _⟩ := w m1 _ H1 rl1 .refl gk
      exact ⟨k, vs, o, iv, q m1 H1 _ rl1 x1 (walk_enG w)⟩
  · cases h1
end
end TS
set_option Elab.async false
set_option linter.all false
set_option maxRecDepth 100000
namespace TS
open PySem PySem.Spec PyProof.Rows L2
/-! ### d.get(k), d.get(k, x), d.setdefault(k, x), d.pop(k) -/
section
variable {X : Cx} {K : PySem.W.Frag} {m : List Addr} {S S' : Store} {H : Hp}
def isDM (a : D) : M Unit := fun S => if isDct S a = true then some ((), S) else none
theorem isDM_rep (rl : Rel K m S H) {a : D} {x : V} {u : Unit} (ra : Rep K m H a x) (h : isDM a S = some (u, S')) : S' = S ∧ ∃ p, x = .ref p ∧ IsD H p := by
  unfold isDM at h
  split at h
  · rename_i c
    cases h
    refine ⟨rfl, ?_⟩
    unfold isDct at c
    split at c
    · split at c
      · rename_i i _ kvs e
        obtain ⟨p, us, rfl, _, h3, _⟩ := rl.dict e ra
        exact ⟨p, rfl, .inl ⟨us, .inl h3⟩⟩
      · cases c
    · cases c
  · cases h
def dgetO (a b z : D) : M D := fun S => match a, keyOf b with
  | .ref i, some k => match S[i]? with
    | some (.dK kvs) => some ((lookD kvs k).getD z, S)
    | _ => none
  | _, _ => none
theorem dgetO_rep (rl : Rel K m S H) {a b z d : D} {x y w : V} (ra : Rep K m H a x) (rb : Rep K m H b y) (rz : Rep K m H z w) (h : dgetO a b z S = some (d, S')) : S' = S ∧ ∃ p o, x = .ref p ∧ DGet H p y o ∧ Rep K m H d (o.getD w) := by
  unfold dgetO at h
  split at h
  · split at h
    · cases h
      rename_i k hk _ kvs e
      obtain ⟨p, us, rfl, _, q3, q4⟩ := rl.dict e ra
      refine ⟨rfl, p, valV us k, rfl, ?_, ?_⟩
      · rw [keyOf_rep rb hk]
        exact DGet.k q3
      · rcases q4.look (k := k) with ⟨d1, v1, w1, w2, w3⟩ | ⟨w1, w2⟩
        · rw [w1, w2]
          exact w3
        · rw [w1, w2]
          exact rz
    · cases h
  · cases h
def eGet1 (fo fi : SEnv → M D) : SEnv → M D := fun env => bnd (fo env) fun a => bnd (isDM a) fun _ => bnd (fi env) fun b => dgetO a b .non
def eGet2 (fo fi fx : SEnv → M D) : SEnv → M D := fun env => bnd (fo env) fun a => bnd (isDM a) fun _ => bnd (fi env) fun b => bnd (fx env) fun z => dgetO a b z
variable {o e f : Expr} {apos cpos : Pos} {td ty tx : TE} {fo fi fx : SEnv → M D}
theorem de_get1 (hu : X.A.units + 1 < cLine) (ho : DE X o td fo) (he : DE X e ty fi) (mm : M1 X o "get" apos e cpos := by exact ⟨rfl, rfl, rfl, rfl⟩) : DE X (.Call (.Attribute o "get" apos) [e] [] cpos) (tDGet1 td ty) (eGet1 fo fi) := ⟨pe_dget1 hu ho.pe he.pe mm, fun m S H env σ rl re d S' h Q q => by
  obtain ⟨a, S1, e1, k1⟩ := bnd_some h
  obtain ⟨_, S2, e2, k2⟩ := bnd_some k1
  obtain ⟨b, S3, e3, k3⟩ := bnd_some k2
  refine ho.se rl re a S1 e1 _ fun m1 H1 x rl1 x1 ra => ?_
  obtain ⟨rfl, p, rfl, hp⟩ := isDM_rep rl1 ra e2
  refine ⟨p, rfl, hp, he.se rl1 (re.mono rl x1) b S3 e3 _ fun m2 H2 y rl2 x2 rb => ?_⟩
  obtain ⟨rfl, p', o', e4, g, rd⟩ := dgetO_rep rl2 (ra.mono rl1 x2) rb .non k3
  cases e4
  exact ⟨o', g, q m2 H2 _ rl2 (x1.trans x2) rd⟩⟩
theorem de_get2 (hu : X.A.units + 1 < cLine) (ho : DE X o td fo) (he : DE X e ty fi) (hf : DE X f tx fx) (mm : M2 X o "get" apos e f cpos := by exact ⟨rfl, rfl, rfl, rfl⟩) : DE X (.Call (.Attribute o "get" apos) [e, f] [] cpos) (tDGet2 td ty tx) (eGet2 fo fi fx) := ⟨pe_dget2 hu ho.pe he.pe hf.pe mm, fun m S H env σ rl re d S' h Q q => by
  obtain ⟨a, S1, e1, k1⟩ := bnd_some h
  obtain ⟨_, S2, e2, k2⟩ := bnd_some k1
  obtain ⟨b, S3, e3, k3⟩ := bnd_some k2
  obtain ⟨z, S4, e4, k4⟩ := bnd_some k3
  refine ho.se rl re a S1 e1 _ fun m1 H1 x rl1 x1 ra => ?_
  obtain ⟨rfl, p, rfl, hp⟩ := isDM_rep rl1 ra e2
  refine ⟨p, rfl, hp, he.se rl1 (re.mono rl x1) b S3 e3 _ fun m2 H2 y rl2 x2 rb => ?_⟩
  refine hf.se rl2 (re.mono rl (x1.trans x2)) z S4 e4 _ fun m3 H3 w rl3 x3 rz => ?_
  obtain ⟨rfl, p', o', e5, g, rd⟩ := dgetO_rep rl3 (ra.mono rl1 (x2.trans x3)) (rb.mono rl2 x3) rz k4
  cases e5
  exact ⟨o', g, q m3 H3 _ rl3 ((x1.trans x2).trans x3) rd⟩⟩
def setdO (a b z : D) : M D := fun S => match a, keyOf b with
  | .ref i, some k => match S[i]? with
    | some (.dK kvs) => if kvs.length < sizeLine then match lookD kvs k with
      | some d => some (d, S)
      | none => some (z, S.set i (.dK (putD kvs k z)))
      else none
    | _ => none
  | _, _ => none
def eSetd (fo fi fx : SEnv → M D) : SEnv → M D := fun env => bnd (fo env) fun a => bnd (isDM a) fun _ => bnd (fi env) fun b => bnd (fx env) fun z => setdO a b z
theorem de_setd (ho : DE X o td fo) (he : DE X e ty fi) (hf : DE X f tx fx) (mm : M2 X o "setdefault" apos e f cpos := by exact ⟨rfl, rfl, rfl, rfl⟩) : DE X (.Call (.Attribute o "setdefault" apos) [e, f] [] cpos) (tDSetd td ty tx) (eSetd fo fi fx) := ⟨pe_dsetd ho.pe he.pe hf.pe mm, fun m S H env σ rl re d S' h Q q => by
  obtain ⟨a, S1, e1, k1⟩ := bnd_some h
  obtain ⟨_, S2, e2, k2⟩ := bnd_some k1
  obtain ⟨b, S3, e3, k3⟩ := bnd_some k2
  obtain ⟨z, S4, e4, k4⟩ := bnd_some k3
  refine ho.se rl re a S1 e1 _ fun m1 H1 x rl1 x1 ra => ?_
  obtain ⟨rfl, p, rfl, hp⟩ := isDM_rep rl1 ra e2
  refine ⟨p, rfl, hp, he.se rl1 (re.mono rl x1) b S3 e3 _ fun m2 H2 y rl2 x2 rb => ?_⟩
  refine hf.se rl2 (re.mono rl (x1.trans x2)) z S4 e4 _ fun m3 H3 w rl3 x3 rz => ?_
  unfold setdO at k4
  split at k4
  · split at k4
    · split at k4
      · rename_i i k hk _ kvs ek c
        obtain ⟨p', us, e5, h2, q3, q4⟩ := rl3.dict ek (ra.mono rl1 (x2.trans x3))
        cases e5
        refine ⟨us, k, q3, keyOf_rep (rb.mono rl2 x3) hk, by rw [← q4.length]; exact c, fun v hv => ?_, fun hv => ?_⟩
        · rcases q4.look (k := k) with ⟨d1, v1, w1, w2, w3⟩ | ⟨w1, w2⟩
          · rw [w1] at k4
            cases k4
            rw [w2] at hv
            cases hv
            exact q m3 H3 _ rl3 ((x1.trans x2).trans x3) w3
          · rw [w2] at hv
            cases hv
        · rcases q4.look (k := k) with ⟨d1, v1, w1, w2, w3⟩ | ⟨w1, w2⟩
          · rw [w2] at hv
            cases hv
          · rw [w1] at k4
            cases k4
            obtain ⟨a1, a2⟩ := rl3.set h2 (q4.put (k := k) rz).o
            exact q m3 _ _ a1 (((x1.trans x2).trans x3).trans a2) (rz.mono rl3 a2)
      · cases k4
    · cases k4
  · cases k4⟩
end
end TS
set_option Elab.async false
set_option linter.all false
set_option maxRecDepth 100000
namespace TS
open PySem PySem.Spec PyProof.Rows L2
section
variable {X : Cx}
/-! ### a, b = x, y and a, b, c = x, y, z -/
def sPar2 (i j : Nat) (f : SEnv → M (List D)) : SEnv → M (Fl × SEnv) := fun env => bnd (f env) fun ds => match ds with
  | [a, b] => ret (.nx, (env.set i (some a)).set j (some b))
  | _ => fail
def sPar3 (i j l : Nat) (f : SEnv → M (List D)) : SEnv → M (Fl × SEnv) := fun env => bnd (f env) fun ds => match ds with
  | [a, b, c] => ret (.nx, ((env.set i (some a)).set j (some b)).set l (some c))
  | _ => fail
theorem Reps.three {K : PySem.W.Frag} {m : List Addr} {H : Hp} {a b c : D} {vs : List V} (h : Reps K m H [a, b, c] vs) : ∃ u v w, vs = [u, v, w] ∧ Rep K m H a u ∧ Rep K m H b v ∧ Rep K m H c w := by
  cases h with
  | cons h1 h =>
    obtain ⟨v, w, rfl, h2, h3⟩ := h.two
    exact ⟨_, v, w, rfl, h1, h2, h3⟩
theorem ds_par2 (i j : Nat) {x y : Str} {a b : Expr} {ta : TA} {f : SEnv → M (List D)} {px py pt pos : Pos} {kt k2 pt2} (hN : X.N.Nodup) (ha : DA X [a, b] ta f) (hi : X.N[i]? = some x := by rfl) (hj : X.N[j]? = some y := by rfl) (hij : i ≠ j := by decide)
    (hc : X.calm = true := by rfl) (hx : X.env.scope.names.lookup x = some .local := by rfl) (hy : X.env.scope.names.lookup y = some .local := by rfl)
    (hw : swappedStores [.Tuple [.Name x px, .Name y py] kt pt] (.Tuple [a, b] k2 pt2) X.env = pure (some [x, y]) := by rfl)
    (hs : swapsWithSole [.Tuple [.Name x px, .Name y py] kt pt] (.Tuple [a, b] k2 pt2) pos.line X.env = pure false := by rfl) :
    DS X (.Assign [.Tuple [.Name x px, .Name y py] kt pt] (.Tuple [a, b] k2 pt2) pos) (tPar i j ta) (sPar2 i j f) := ⟨ps_par hc hN hi hj hij hx hy ha.pa hw hs, fun m S H env σ rl re fl env' S' hh D q => by
  obtain ⟨ds, S1, e1, h1⟩ := bnd_some hh
  refine ha.sa rl re ds S1 e1 _ fun m1 H1 vs rl1 x1 rv => ?_
  split at h1
  · cases h1
    obtain ⟨v, w, rfl, r1, r2⟩ := rv.two
    exact ⟨v, w, rfl, q m1 H1 _ rl1 x1 (((re.mono rl x1).set r1).set r2)⟩
  · cases h1⟩
theorem ds_par3 (i j l : Nat) {x y z : Str} {a b c : Expr} {ta : TA} {f : SEnv → M (List D)} {px py pz pt pos : Pos} {kt k2 pt2} (hN : X.N.Nodup) (ha : DA X [a, b, c] ta f) (hi : X.N[i]? = some x := by rfl) (hj : X.N[j]? = some y := by rfl) (hl : X.N[l]? = some z := by rfl)
    (hij : i ≠ j := by decide) (hil : i ≠ l := by decide) (hjl : j ≠ l := by decide)
    (hc : X.calm = true := by rfl) (hx : X.env.scope.names.lookup x = some .local := by rfl) (hy : X.env.scope.names.lookup y = some .local := by rfl) (hz : X.env.scope.names.lookup z = some .local := by rfl)
    (hw : swappedStores [.Tuple [.Name x px, .Name y py, .Name z pz] kt pt] (.Tuple [a, b, c] k2 pt2) X.env = pure (some [x, y, z]) := by rfl)
    (hs : swapsWithSole [.Tuple [.Name x px, .Name y py, .Name z pz] kt pt] (.Tuple [a, b, c] k2 pt2) pos.line X.env = pure false := by rfl) :
    DS X (.Assign [.Tuple [.Name x px, .Name y py, .Name z pz] kt pt] (.Tuple [a, b, c] k2 pt2) pos) (tPar3 i j l ta) (sPar3 i j l f) := ⟨ps_par3 hc hN hi hj hl hij hil hjl hx hy hz ha.pa hw hs, fun m S H env σ rl re fl env' S' hh D q => by
  obtain ⟨ds, S1, e1, h1⟩ := bnd_some hh
  refine ha.sa rl re ds S1 e1 _ fun m1 H1 vs rl1 x1 rv => ?_
  split at h1
  · cases h1
    obtain ⟨u, v, w, rfl, r1, r2, r3⟩ := rv.three
    exact ⟨u, v, w, rfl, q m1 H1 _ rl1 x1 ((((re.mono rl x1).set r1).set r2).set r3)⟩
  · cases h1⟩
/-! ### xs.insert(i, y) -/
def mInsert (a : D) (as : List D) : M D := fun S => match a, as with
  | .ref r, [.int i, d] => match S[r]? with
    | some (.lst xs) => if xs.length < sizeLine ∧ 0 ≤ i ∧ i < 2 ^ 63 then some (.non, S.set r (.lst (xs.take i.toNat ++ [d] ++ xs.drop i.toNat))) else none
    | _ => none
  | _, _ => none
theorem m_insert : DM X "list" "list.insert" (fun x vs H Q => ∃ (l : Addr) (xs : List V) (i : Int) (y : V), x = .ref l ∧ vs = [.int i, y] ∧ H l = some (.lst xs) ∧ xs.length < sizeLine ∧ 0 ≤ i ∧ i < 2 ^ 63 ∧
    Q .non (upd H l (.lst (xs.take i.toNat ++ [y] ++ xs.drop i.toNat)))) mInsert := ⟨mt_insert, fun m S H x a xs as rl ra ras d S' h Q q => by
  unfold mInsert at h
  split at h
  · split at h
    · split at h
      · cases h
        rename_i r i d' _ ys e c
        obtain ⟨v, w, rfl, r1, r2⟩ := ras.two
        cases r1
        obtain ⟨p, vs, rfl, hp, h2, h3⟩ := rl.sqL e ra
        obtain ⟨a1, a2⟩ := rl.set hp (.lst (((h3.take i.toNat).snoc r2).append (h3.drop i.toNat)))
        exact ⟨p, vs, i, w, rfl, rfl, h2, by rw [← h3.length]; exact c.1, c.2.1, c.2.2, q m _ _ a1 a2 .non⟩
      · cases h
    · cases h
  · cases h⟩
end
end TS
set_option Elab.async false
set_option linter.all false
set_option maxRecDepth 100000
namespace TS
open PySem PySem.Spec PyProof.Rows L2
/-! ### x[::-1] of a text or a list -/
section
variable {X : Cx} {e : Expr} {te : TE} {f : SEnv → M D} {k : Nat} {p1 p2 p3 pos : Pos}
def tRevU (K : PySem.W.Frag) (te : TE) : TE := fun σ H Q => te σ H fun x H1 => (∃ z : Str, x = .str z ∧ z.length ≤ sizeLine ∧ Q (.str (turnS z)) H1) ∨ (∃ a xs, x = .ref a ∧ SqL K H1 a xs ∧ ∀ p, H1 p = none → Q (.ref p) (upd H1 p (.lst xs.reverse)))
theorem pe_revU (he : PE X e te) : PE X (.Subscript e (.Slice none none (some (.UnaryOp .USub (.Constant (.int 1) k p1) p2)) p3) pos) (tRevU X.K te) := by
  refine ⟨fun pins s σ H Q I h => ?_⟩
  refine Subscript_ (thn (he.run pins s σ H _ I h) fun v s1 ⟨x, H1, I1, r1, q1⟩ => ?_)
  have neg1 : PO X (some (.UnaryOp .USub (.Constant (.int 1) k p1) p2)) (tPart (tUn (rU fun i => .int (-i)) (tC (.int 1)))) := po_some (pe_un un_neg pe_int)
  have lo0 := fun (s2 : Shared) (G : Hp) (I2 : Inv X pins σ G s2) => (po_none (X := X)).run pins s2 σ G (fun o G2 => o = none ∧ G2 = G) I2 ⟨rfl, rfl⟩
  refine wpAny_Slice (thn (lo0 s1 H1 I1) fun v1 s2 ⟨o1, G1, J1, a1, b1, c1⟩ => ?_)
  subst b1 c1
  refine thn (lo0 s2 G1 J1) fun v2 s3 ⟨o2, G2, J2, a2, b2, c2⟩ => ?_
  subst b2 c2
  refine thn (neg1.run pins s3 σ G2 (fun o G => o = some (-1) ∧ G = G2) J2 ⟨1, rfl, -1, rfl, rfl, rfl⟩) fun v3 s4 ⟨o3, G3, J3, a3, b3, c3⟩ => ?_
  subst b3 c3
  rcases q1 with ⟨z, rfl, hz, q⟩ | ⟨a, xs, rfl, hx, q⟩
  · obtain ⟨t, rfl⟩ := r1
    cases a1
    cases a2
    cases a3
    rename_i tk _
    refine tail_any (ops := [.ref s4.heap.objs.size, .str z t]) (typeIs_str _ z t) PySem.F.slot_str_getitem.lookup (wpAny_getItem_str_slice (l := none) (u := none) (st := some (-1, tk)) ⟨_, Heap.get?_push_size _ rfl, rfl, rfl⟩ rfl ?_) (by with_unfolding_all rfl)
    have e : sliceMade z t none none (some (-1, tk)) = .str (turnS z) := by
      unfold sliceMade
      rw [if_neg (by simp)]
      unfold turnS slicePicked
      show Made.str ⟨((Builtin.Str.strSliceIndices none none (-1) z.length).filterMap (z.cps[·]?)).toArray⟩ = _
      have e2 : Builtin.Str.strSliceIndices none none (-1) z.length = (List.range z.length).reverse := by
        rw [← PySem.W.krv_range, ← PySem.W.krv_sliceRange]
        rfl
      rw [e2, List.filterMap_reverse, show z.length = z.cps.size from rfl, PySem.W.krv_all]
    rw [e]
    exact ⟨by unfold turnS; simpa [Str.length] using hz, .str (turnS z), G3, (J3.kept (t' := s4.toks) fun b ob q => Heap.get?_push_of_some _ q).tok _, ⟨_, rfl⟩, q⟩
  · cases r1
    have J4 : Inv X pins σ G3 { s4 with heap := s4.heap.push { cls := .type "slice", data := .fields #[v1, v2, v3] } } := J3.kept (t' := s4.toks) fun b ob q => Heap.get?_push_of_some _ q
    obtain ⟨us, rv, pl, hz⟩ := J4.list hx
    have hl := rv.length
    refine tail_any (ops := [.ref a, .ref s4.heap.objs.size]) pl.isList.typeIs PySem.slot_list_getitem.lookup (wpAny_getItem_list_slice pl.isList (Heap.IsSliceOf.new _ v1 v2 v3) a1 a2 a3 (by decide) ?_ (by rw [List.size_toArray]; omega)) (by with_unfolding_all rfl)
    rw [PySem.W.krv_pick]
    exact ⟨.ref _, _, J4.laid (t' := s4.toks) (o := .lst xs.reverse) (fun b ob q => Heap.get?_push_of_some _ q) (Nat.le_refl _) ⟨by rw [List.length_reverse]; exact hz, _, 0, rv.reverse, Heap.get?_push_size _ rfl⟩, rfl, q _ (J4.hok.fresh (Nat.le_refl _))⟩
theorem Reps.turn {K : PySem.W.Frag} {m : List Addr} {H : Hp} : ∀ {ds : List D} {vs : List V}, Reps K m H ds vs → Reps K m H ds.reverse vs.reverse
  | _, _, .nil => .nil
  | _, _, .cons h hs => by
    rw [List.reverse_cons, List.reverse_cons]
    exact (Reps.turn hs).snoc h
def revUM (d : D) : M D := fun S => match d with
  | .str z => if z.length ≤ sizeLine then some (.str (turnS z), S) else none
  | .ref i => match S[i]? with
    | some (.lst xs) => some (.ref S.length, S ++ [.lst xs.reverse])
    | _ => none
  | _ => none
def eRevU (f : SEnv → M D) : SEnv → M D := fun env => bnd (f env) revUM
theorem dk_rev (K : PySem.W.Frag) (hK : X.K = K) (he : DE X e te f) : DE X (.Subscript e (.Slice none none (some (.UnaryOp .USub (.Constant (.int 1) k p1) p2)) p3) pos) (tRevU K te) (eRevU f) := by
  subst hK
  refine ⟨pe_revU he.pe, fun m S H env σ rl re d S' h Q q => ?_⟩
  obtain ⟨a, S1, h1, h2⟩ := bnd_some h
  refine he.se rl re a S1 h1 _ fun m1 H1 v rl1 e1 rv => ?_
  unfold revUM at h2
  split at h2
  · split at h2
    · cases h2
      cases rv
      exact .inl ⟨_, rfl, by assumption, q m1 H1 _ rl1 e1 (.str _)⟩
    · cases h2
  · split at h2
    · cases h2
      rename_i i _ xs hx
      obtain ⟨p, vs, rfl, hp, h3, h4⟩ := rl1.sqL hx rv
      refine .inr ⟨p, vs, rfl, .inl (.inl h3), fun p2 hp2 => ?_⟩
      obtain ⟨a1, a2, a3⟩ := rl1.new hp2 (.lst h4.turn)
      exact q _ _ _ a1 (e1.trans a2) a3
    · cases h2
  · cases h2
end
end TS
set_option Elab.async false
set_option linter.all false
set_option maxRecDepth 100000
namespace TS
open PySem PySem.Spec PyProof.Rows L2
section
variable {X : Cx}
/-! ### abs, str of an integer, del d[k] -/
def nAbs : List D → M D
  | [.int i] => ret (.int (if i < 0 then -i else i))
  | _ => fail
theorem c_abs : DC X (.builtin "abs") (fun xs H Q => ∃ i, xs = [.int i] ∧ Q (.int (if i < 0 then -i else i)) H) nAbs := ⟨call_abs, fun m S H xs as rl ra d S' h Q q => by
  unfold nAbs at h
  split at h
  · cases h
    obtain ⟨v, rfl, rv⟩ := ra.one
    cases rv
    exact ⟨_, rfl, q m H _ rl .refl (.int _)⟩
  · cases h⟩
def nStr : List D → M D
  | [.int i] => fun S => if i.natAbs.log2 < 1920 then some (.str (toString i), S) else none
  | _ => fail
theorem c_str : DC X (.type "str") (fun xs H Q => ∃ i : Int, xs = [.int i] ∧ i.natAbs.log2 < 1920 ∧ Q (.str (toString i)) H) nStr := ⟨call_str_int, fun m S H xs as rl ra d S' h Q q => by
  unfold nStr at h
  split at h
  · split at h
    · cases h
      obtain ⟨v, rfl, rv⟩ := ra.one
      cases rv
      exact ⟨_, rfl, by assumption, q m H _ rl .refl (.str _)⟩
    · cases h
  · cases h⟩
def dropD (kvs : List (Key × D)) (k : Key) : List (Key × D) := kvs.filter fun kv => decide (kv.1 ≠ k)
theorem RepK.drop {K : PySem.W.Frag} {m : List Addr} {H : Hp} {k : Key} : ∀ {kvs : List (Key × D)} {us : List (Key × V)}, RepK K m H kvs us → RepK K m H (dropD kvs k) (dropK us k)
  | _, _, .nil => .nil
  | _, _, .cons (k := k') a b => by
    have ih := RepK.drop (k := k) b
    unfold dropD dropK at ih ⊢
    by_cases h : k' = k
    · rw [List.filter_cons, List.filter_cons, if_neg (by simpa using h), if_neg (by simpa using h)]
      exact ih
    · rw [List.filter_cons, List.filter_cons, if_pos (by simpa using h), if_pos (by simpa using h)]
      exact .cons a ih
def delM (a b : D) : M Unit := fun S => match a, keyOf b with
  | .ref i, some k => match S[i]? with
    | some (.dK kvs) => if hasD kvs k = true then some ((), S.set i (.dK (dropD kvs k))) else none
    | _ => none
  | _, _ => none
def sDel (fo fi : SEnv → M D) : SEnv → M (Fl × SEnv) := fun env => bnd (fo env) fun a => bnd (fi env) fun b => bnd (delM a b) fun _ => ret (.nx, env)
theorem ds_ddel {o i : Expr} {td ty : TE} {tpos pos : Pos} {fo fi : SEnv → M D} (ho : DE X o td fo) (hi : DE X i ty fi) : DS X (.Delete [.Subscript o i tpos] pos) (sDDel td ty) (sDel fo fi) := ⟨ps_ddel ho.pe hi.pe, fun m S H env σ rl re fl env' S' hh D q => by
  obtain ⟨a, S1, e1, h1⟩ := bnd_some hh
  obtain ⟨b, S2, e2, h2⟩ := bnd_some h1
  obtain ⟨_, S3, e3, h3⟩ := bnd_some h2
  cases h3
  refine ho.se rl re a S1 e1 _ fun m1 H1 x rl1 x1 ra => ?_
  refine hi.se rl1 (re.mono rl x1) b S2 e2 _ fun m2 H2 y rl2 x2 rb => ?_
  unfold delM at e3
  split at e3
  · split at e3
    · split at e3
      · cases e3
        rename_i i k hk _ kvs ek c
        obtain ⟨p, us, rfl, hp, q3, q4⟩ := rl2.dict ek (ra.mono rl1 x2)
        obtain ⟨a1, a2⟩ := rl2.set hp (q4.drop (k := k)).o
        refine ⟨p, us, k, rfl, q3, keyOf_rep rb hk, ?_, ?_⟩
        · unfold hasD at c
          rcases q4.look (k := k) with ⟨d1, v1, w1, w2, w3⟩ | ⟨w1, w2⟩
          · rw [w2]
            simp
          · rw [w1] at c
            cases c
        · exact q m2 _ σ a1 ((x1.trans x2).trans a2) (re.mono rl ((x1.trans x2).trans a2))
      · cases e3
    · cases e3
  · cases e3⟩
end
end TS
set_option Elab.async false
set_option linter.all false
set_option maxRecDepth 100000
namespace TS
open PySem PySem.Spec PyProof.Rows L2
/-! ### dict comprehensions -/
def putM (k : Nat) (a d : D) : M Unit := fun S => match keyOf a, S[k]? with
  | some kk, some (.dK kvs) => if kvs.length < sizeLine then some ((), S.set k (.dK (putD kvs kk d))) else none
  | _, _ => none
noncomputable def dcM (g : Gd) (k : Nat) (tgt : D → SEnv → M SEnv) (tt : SEnv → M Bool) (tk tv : SEnv → M D) (env : SEnv) : List D → M D
  | [] => gdM g (ret (.ref k))
  | x :: xs => gdM g (bnd (tgt x env) fun env1 => bnd (tt env1) fun b => if b then bnd (tk env1) fun a => bnd (tv env1) fun d => bnd (putM k a d) fun _ => dcM g k tgt tt tk tv env xs else dcM g k tgt tt tk tv env xs)
noncomputable def eDc (fi : SEnv → M (List D × Gd)) (tgt : D → SEnv → M SEnv) (tt : SEnv → M Bool) (tk tv : SEnv → M D) (vs : List Nat) : SEnv → M D := fun env => bnd (fi env) fun p => bnd newDct fun k => dcM p.2 k tgt tt tk tv (wipeE env vs) p.1
section
variable {J : It} {n : Nat} {G : Hp → Prop} {Y : Nat → Hp → V → Hp → Prop}
theorem dcomp_it (w : Walk J n G Y) {g : TG} {tt : TT} {tk tv : TE} {vs : List Nat} {σ : L2.St} {H1 : Hp} {Dd : Addr} {Qd : Hp → Prop} (Pv : Nat → Hp → Prop) (h0 : Pv 0 (upd H1 Dd (.dK []))) (hG : ∀ i H, i ≤ n → Pv i H → G H)
    (hs : ∀ i x H H', i < n → Pv i H → Y i H x H' → g x (L2.wipe σ vs) H' fun σ2 H2 => L2.wipe σ2 vs = L2.wipe σ vs ∧ tt σ2 H2 fun b H3 =>
      if b = true then tk σ2 H3 fun y H4 => tv σ2 H4 fun z H5 => ∃ kvs k, y = kV k ∧ H5 Dd = some (.dK kvs) ∧ kvs.length < sizeLine ∧ Pv (i + 1) (upd H5 Dd (.dK (putK kvs k z))) else Pv (i + 1) H3) (hd : ∀ H, Pv n H → Qd H) :
    ∃ W : Nat → Nat → Hp → Prop, (∃ m, W 0 m (upd H1 Dd (.dK []))) ∧ ∀ i m H, W i m H →
      (J.stop i H ∧ Qd H) ∨ (J.go i H ∧ ∃ Nx : Hp → Prop, (∀ H', Nx H' → ∃ m', m' < m ∧ W (i + 1) m' H') ∧ ∀ x H', J.yld i H x H' → g x (L2.wipe σ vs) H' fun σ2 H2 => L2.wipe σ2 vs = L2.wipe σ vs ∧ tt σ2 H2 fun b H3 =>
        if b = true then tk σ2 H3 fun y H4 => tv σ2 H4 fun z H5 => ∃ kvs k, y = kV k ∧ H5 Dd = some (.dK kvs) ∧ kvs.length < sizeLine ∧ Nx (upd H5 Dd (.dK (putK kvs k z))) else Nx H3) := by
  refine ⟨fun i left H => left = n - i ∧ i ≤ n ∧ Pv i H, ⟨n, (Nat.sub_zero n).symm, Nat.zero_le _, h0⟩, fun i left H hw => ?_⟩
  obtain ⟨e1, hi, p⟩ := hw
  subst e1
  have gh := hG i H hi p
  rcases Nat.lt_or_ge i n with c | c
  · exact .inr ⟨w.goes i H c gh, Pv (i + 1), fun H' p' => ⟨n - (i + 1), by omega, rfl, c, p'⟩, fun x H' y => hs i x H H' c p (w.yields i H x H' c gh y)⟩
  · obtain rfl : i = n := by omega
    exact .inl ⟨w.stops H gh, hd H p⟩
end
theorem se_dc {K : PySem.W.Frag} {wi : TI} {g : TG} {ws : List Nat} {tt : TT} {tk tv : TE} {fi : SEnv → M (List D × Gd)} {fg : D → SEnv → M SEnv} {ft : SEnv → M Bool} {fk fv : SEnv → M D}
    (hi : ∀ ⦃m : List Addr⦄ ⦃S : Store⦄ ⦃H : Hp⦄ ⦃env : SEnv⦄ ⦃σ : L2.St⦄, Rel K m S H → RelE K m H env σ → ∀ xs g S', fi env S = some ((xs, g), S') → ∀ R : It → Hp → Prop, (∀ m' H' J, Rel K m' S' H' → Ext m H m' H' → WalkD K m' H' J xs g → R J H') → wi σ H R)
    (hg : ∀ ⦃m : List Addr⦄ ⦃S : Store⦄ ⦃H : Hp⦄ ⦃env : SEnv⦄ ⦃σ : L2.St⦄ ⦃d : D⦄ ⦃v : V⦄, Rel K m S H → RelE K m H env σ → Rep K m H d v → ∀ env' S', fg d env S = some (env', S') →
      ∀ Q : L2.St → Hp → Prop, (∀ m' H' σ', Rel K m' S' H' → Ext m H m' H' → RelE K m' H' env' σ' → Off ws σ σ' → Q σ' H') → g v σ H Q)
    (ht : ST K tt ft) (hk : SE K tk fk) (hv : SE K tv fv) : SE K (tDc wi g tt tk tv ws) (eDc fi fg ft fk fv ws) := fun m S H env σ rl re d S' hh Q q => by
  obtain ⟨⟨xs, gd⟩, S1, e1, h1⟩ := bnd_some hh
  refine hi rl re xs gd S1 e1 _ fun m1 H1 J rl1 x1 w => ?_
  intro Dd hD
  have h1' : dcM gd S1.length fg ft fk fv (wipeE env ws) xs (S1 ++ [.dK []]) = some (d, S') := h1
  obtain ⟨rl1', x1', rD⟩ := rl1.new (o := .dK []) (u := .dK []) hD (RepK.nil).o
  have hk0 : (m1 ++ [Dd])[S1.length]? = some Dd := by
    rw [← rl1.len, List.getElem?_append_right (Nat.le_refl _), Nat.sub_self]
    rfl
  have hw1 := re.mono rl x1
  have gdS : ∀ {i : Nat} {S2 : Store}, dcM gd S1.length fg ft fk fv (wipeE env ws) (xs.drop i) S2 = some (d, S') → gdOk S2 gd := fun {i S2} h2 => by
    cases e : xs.drop i with
    | nil => rw [e] at h2; exact (gdM_some h2).1
    | cons y ys => rw [e] at h2; exact (gdM_some h2).1
  refine dcomp_it w (fun i H2 => ∃ m2 S2, Rel K m2 S2 H2 ∧ Ext (m1 ++ [Dd]) (upd H1 Dd (.dK [])) m2 H2 ∧ dcM gd S1.length fg ft fk fv (wipeE env ws) (xs.drop i) S2 = some (d, S')) ⟨_, _, rl1', .refl, h1'⟩ ?_ ?_ ?_
  · rintro i H2 hl ⟨m2, S2, rl2, x2, h2⟩
    exact ⟨m2, S2, rl2, x1'.trans x2, gdS h2⟩
  · rintro i x H2 H3 hl ⟨m2, S2, rl2, x2, h2⟩ hy
    obtain ⟨d1, hd, rl3, x3, rd⟩ := hy m2 S2 rl2 (x1'.trans x2) (gdS h2)
    rw [drop_at hd] at h2
    have h3 := (gdM_some h2).2
    obtain ⟨env3, S4, e4, h4⟩ := bnd_some h3
    obtain ⟨b, S5, e5, h5⟩ := bnd_some h4
    have rew : RelE K m2 H3 (wipeE env ws) (L2.wipe σ ws) := (hw1.mono rl1 (x1'.trans (x2.trans x3))).wipe ws
    refine hg rl3 rew rd env3 S4 e4 _ fun m4 H4 σ4 rl4 x4 re4 o4 => ⟨by rw [o4.wipe, wipe_wipe], ?_⟩
    refine ht rl4 re4 b S5 e5 _ fun m5 H5 rl5 x5 => ?_
    cases b with
    | true =>
      have h5' : bnd (fk env3) (fun a => bnd (fv env3) fun y => bnd (putM S1.length a y) fun _ => dcM gd S1.length fg ft fk fv (wipeE env ws) (xs.drop (i + 1))) S5 = some (d, S') := h5
      obtain ⟨a, S6, e6, h6⟩ := bnd_some h5'
      obtain ⟨y, S7, e7, h7⟩ := bnd_some h6
      obtain ⟨_, S8, e8, h8⟩ := bnd_some h7
      refine iteT (hk rl5 (re4.mono rl4 x5) a S6 e6 _ fun m6 H6 va rl6 x6 ra => ?_)
      refine hv rl6 (re4.mono rl4 (x5.trans x6)) y S7 e7 _ fun m7 H7 vy rl7 x7 ry => ?_
      have x27 : Ext (m1 ++ [Dd]) (upd H1 Dd (.dK [])) m7 H7 := x2.trans (x3.trans (x4.trans (x5.trans (x6.trans x7))))
      unfold putM at e8
      split at e8
      · rename_i kk kvs hkk ek
        split at e8
        · cases e8
          rename_i c
          have hk7 := x27.at hk0
          obtain ⟨p, us, q1, q2, q3, q4⟩ := rl7.dict ek (.ref hk7)
          cases q1
          obtain ⟨a1, a2⟩ := rl7.set hk7 (q4.put (k := kk) ry).o
          exact ⟨us, kk, keyOf_rep (ra.mono rl6 x7) hkk, q3, by rw [← q4.length]; exact c, m7, _, a1, x27.trans a2, h8⟩
        · cases e8
      · cases e8
    | false => exact iteF ⟨m5, S5, rl5, x2.trans (x3.trans (x4.trans x5)), h5⟩
  · rintro H2 ⟨m2, S2, rl2, x2, h2⟩
    rw [List.drop_length] at h2
    cases (gdM_some h2).2
    exact q m2 H2 _ rl2 (x1.trans (x1'.trans x2)) (.ref (x2.at hk0))
section
variable {X : Cx}
theorem de_dc {kx vx tg iter : Expr} {ifs : List Expr} {scope : Scope} {pos : Pos} (own : List (Str × Nat)) {wi : TI} {g : TG} {tt : TT} {tk tv : TE} {fi : SEnv → M (List D × Gd)} {fg : D → SEnv → M SEnv} {ft : SEnv → M Bool} {fk fv : SEnv → M D} (hc : X.calm = true) (hN : X.N.Nodup) (hi : DI X tg iter wi fi) (ok : BlkOk X.N X.env.scope scope own)
    (hg : ∀ (s : Shared) (H : Hp) (C : Addr) (cl : List (Str × Addr)) (fp : List Addr), DG (X.blk s H scope (compEnvC scope cl C X.env) fp) tg (own.map (·.2)) g fg) (ht : ∀ (s : Shared) (H : Hp) (C : Addr) (cl : List (Str × Addr)) (fp : List Addr), DTs (X.blk s H scope (compEnvC scope cl C X.env) fp) ifs tt ft)
    (hk : ∀ (s : Shared) (H : Hp) (C : Addr) (cl : List (Str × Addr)) (fp : List Addr), DE (X.blk s H scope (compEnvC scope cl C X.env) fp) kx tk fk) (hv : ∀ (s : Shared) (H : Hp) (C : Addr) (cl : List (Str × Addr)) (fp : List Addr), DE (X.blk s H scope (compEnvC scope cl C X.env) fp) vx tv fv) (hs : ∀ x, foldedSetIterable iter X.env x = pure x := by intro _; rfl) :
    DE X (.DictComp kx vx [⟨tg, iter, ifs, 0⟩] scope pos) (tDc wi g tt tk tv (own.map (·.2))) (eDc fi fg ft fk fv (own.map (·.2))) :=
  ⟨pe_dc hc hN hi.pi ok (fun s H C cl fp => (hg s H C cl fp).pg) (fun s H C cl fp => (ht s H C cl fp).pts) (fun s H C cl fp => (hk s H C cl fp).pe) (fun s H C cl fp => (hv s H C cl fp).pe) hs,
   se_dc hi.si (hg X.s_0 X.H_0 0 [] []).sg (ht X.s_0 X.H_0 0 [] []).st (hk X.s_0 X.H_0 0 [] []).se (hv X.s_0 X.H_0 0 [] []).se⟩
end
end TS
set_option Elab.async false
set_option linter.all false
set_option maxRecDepth 100000
namespace TS
open PySem PySem.Spec PyProof.Rows L2 RT
section
variable {X : Cx} {K : PySem.W.Frag} {m m' m2 m1 : List Addr} {S S' S2 : Store} {H H' H2 H1 : Hp} {env env' : SEnv} {σ : L2.St} {pos : Pos}
/-! ### a comprehension with two fors -/
noncomputable def lcInM (g : Gd) (k : Nat) (tgt : D → SEnv → M SEnv) (tt : SEnv → M Bool) (te : SEnv → M D) (env : SEnv) : List D → M Unit
  | [] => gdM g (ret ())
  | x :: xs => gdM g (bnd (tgt x env) fun env1 => bnd (tt env1) fun b => if b then bnd (te env1) fun d => bnd (pushM k d) fun _ => lcInM g k tgt tt te env xs else lcInM g k tgt tt te env xs)
noncomputable def lcOutM (g : Gd) (k : Nat) (tgt : D → SEnv → M SEnv) (tt : SEnv → M Bool) (fi1 : SEnv → M (List D × Gd)) (tgt1 : D → SEnv → M SEnv) (tt1 : SEnv → M Bool) (te : SEnv → M D) (us : List Nat) (env : SEnv) : List D → M D
  | [] => gdM g (ret (.ref k))
  | x :: xs => gdM g (bnd (tgt x env) fun env1 => bnd (tt env1) fun b => if b then bnd (fi1 env1) fun p => bnd (lcInM p.2 k tgt1 tt1 te (wipeE env1 us) p.1) fun _ => lcOutM g k tgt tt fi1 tgt1 tt1 te us env xs else lcOutM g k tgt tt fi1 tgt1 tt1 te us env xs)
noncomputable def eLc2 (fi : SEnv → M (List D × Gd)) (tgt : D → SEnv → M SEnv) (tt : SEnv → M Bool) (fi1 : SEnv → M (List D × Gd)) (tgt1 : D → SEnv → M SEnv) (tt1 : SEnv → M Bool) (te : SEnv → M D) (vs us : List Nat) : SEnv → M D := fun env => bnd (fi env) fun p => bnd newLst fun k => lcOutM p.2 k tgt tt fi1 tgt1 tt1 te us (wipeE env vs) p.1
theorem lcOut_ok {g : Gd} {k : Nat} {tgt tgt1 : D → SEnv → M SEnv} {tt tt1 : SEnv → M Bool} {fi1 : SEnv → M (List D × Gd)} {te : SEnv → M D} {us : List Nat} {env : SEnv} {xs : List D} {S : Store} {r : D × Store} (h : lcOutM g k tgt tt fi1 tgt1 tt1 te us env xs S = some r) : gdOk S g := by
  cases xs with
  | nil => exact (gdM_some h).1
  | cons y ys => exact (gdM_some h).1
theorem lcIn_ok {g : Gd} {k : Nat} {tgt : D → SEnv → M SEnv} {tt : SEnv → M Bool} {te : SEnv → M D} {env : SEnv} {xs : List D} {S : Store} {r : Unit × Store} (h : lcInM g k tgt tt te env xs S = some r) : gdOk S g := by
  cases xs with
  | nil => exact (gdM_some h).1
  | cons y ys => exact (gdM_some h).1
theorem se_lc2 {K : PySem.W.Frag} {wi wi1 : TI} {g g1 : TG} {ws us : List Nat} {tt tt1 : TT} {te : TE} {fi fi1 : SEnv → M (List D × Gd)} {fg fg1 : D → SEnv → M SEnv} {ft ft1 : SEnv → M Bool} {fe : SEnv → M D}
    (hi : ∀ ⦃m : List Addr⦄ ⦃S : Store⦄ ⦃H : Hp⦄ ⦃env : SEnv⦄ ⦃σ : L2.St⦄, Rel K m S H → RelE K m H env σ → ∀ xs g S', fi env S = some ((xs, g), S') → ∀ R : It → Hp → Prop, (∀ m' H' J, Rel K m' S' H' → Ext m H m' H' → WalkD K m' H' J xs g → R J H') → wi σ H R)
    (hg : ∀ ⦃m : List Addr⦄ ⦃S : Store⦄ ⦃H : Hp⦄ ⦃env : SEnv⦄ ⦃σ : L2.St⦄ ⦃d : D⦄ ⦃v : V⦄, Rel K m S H → RelE K m H env σ → Rep K m H d v → ∀ env' S', fg d env S = some (env', S') →
      ∀ Q : L2.St → Hp → Prop, (∀ m' H' σ', Rel K m' S' H' → Ext m H m' H' → RelE K m' H' env' σ' → Off ws σ σ' → Q σ' H') → g v σ H Q)
    (ht : ST K tt ft)
    (hi1 : ∀ ⦃m : List Addr⦄ ⦃S : Store⦄ ⦃H : Hp⦄ ⦃env : SEnv⦄ ⦃σ : L2.St⦄, Rel K m S H → RelE K m H env σ → ∀ xs g S', fi1 env S = some ((xs, g), S') → ∀ R : It → Hp → Prop, (∀ m' H' J, Rel K m' S' H' → Ext m H m' H' → WalkD K m' H' J xs g → R J H') → wi1 σ H R)
    (hg1 : ∀ ⦃m : List Addr⦄ ⦃S : Store⦄ ⦃H : Hp⦄ ⦃env : SEnv⦄ ⦃σ : L2.St⦄ ⦃d : D⦄ ⦃v : V⦄, Rel K m S H → RelE K m H env σ → Rep K m H d v → ∀ env' S', fg1 d env S = some (env', S') →
      ∀ Q : L2.St → Hp → Prop, (∀ m' H' σ', Rel K m' S' H' → Ext m H m' H' → RelE K m' H' env' σ' → Off us σ σ' → Q σ' H') → g1 v σ H Q)
    (ht1 : ST K tt1 ft1) (he : SE K te fe) : SE K (tLc2 wi g tt wi1 g1 tt1 te ws us) (eLc2 fi fg ft fi1 fg1 ft1 fe ws us) := fun m S H env σ rl re d S' hh Q q => by
  obtain ⟨⟨xs, gd⟩, S1, e1, h1⟩ := bnd_some hh
  refine hi rl re xs gd S1 e1 _ fun m1 H1 J rl1 x1 w => ?_
  intro D hD
  have h1' : lcOutM gd S1.length fg ft fi1 fg1 ft1 fe us (wipeE env ws) xs (S1 ++ [.lst []]) = some (d, S') := h1
  obtain ⟨rl1', x1', rD⟩ := rl1.new (o := .lst []) (u := .lst []) hD (.lst .nil)
  have hk0 : (m1 ++ [D])[S1.length]? = some D := by
    rw [← rl1.len, List.getElem?_append_right (Nat.le_refl _), Nat.sub_self]
    rfl
  have hw1 := re.mono rl x1
  let Pv : Nat → Hp → Prop := fun i H2 => ∃ m2 S2, Rel K m2 S2 H2 ∧ Ext (m1 ++ [D]) (upd H1 D (.lst [])) m2 H2 ∧ lcOutM gd S1.length fg ft fi1 fg1 ft1 fe us (wipeE env ws) (xs.drop i) S2 = some (d, S')
  refine ⟨fun i n H2 => n = xs.length - i ∧ i ≤ xs.length ∧ Pv i H2, ⟨xs.length, by simp, Nat.zero_le _, _, _, rl1', .refl, h1'⟩, ?_⟩
  rintro i n H2 ⟨rfl, hile, m2, S2, rl2, x2, h2⟩
  have hgd : gdOk S2 gd := lcOut_ok h2
  have GG : ∃ m2 S2, Rel K m2 S2 H2 ∧ Ext m1 H1 m2 H2 ∧ gdOk S2 gd := ⟨m2, S2, rl2, x1'.trans x2, hgd⟩
  by_cases hlt : i < xs.length
  · refine .inr ⟨w.goes i H2 hlt GG, Pv (i + 1), fun H' p' => ⟨xs.length - (i + 1), by omega, rfl, hlt, p'⟩, fun x H3 y => ?_⟩
    obtain ⟨d1, hd, rl3, x3, rd⟩ := w.yields i H2 x H3 hlt GG y m2 S2 rl2 (x1'.trans x2) hgd
    rw [drop_at hd] at h2
    have h3 := (gdM_some h2).2
    obtain ⟨env3, S4, e4, h4⟩ := bnd_some h3
    obtain ⟨b, S5, e5, h5⟩ := bnd_some h4
    have rew : RelE K m2 H3 (wipeE env ws) (L2.wipe σ ws) := (hw1.mono rl1 (x1'.trans (x2.trans x3))).wipe ws
    refine hg rl3 rew rd env3 S4 e4 _ fun m4 H4 σ4 rl4 x4 re4 o4 => ⟨by rw [o4.wipe, wipe_wipe], ?_⟩
    refine ht rl4 re4 b S5 e5 _ fun m5 H5 rl5 x5 => ?_
    cases b with
    | true =>
      have h5' : bnd (fi1 env3) (fun p => bnd (lcInM p.2 S1.length fg1 ft1 fe (wipeE env3 us) p.1) fun _ => lcOutM gd S1.length fg ft fi1 fg1 ft1 fe us (wipeE env ws) (xs.drop (i + 1))) S5 = some (d, S') := h5
      obtain ⟨⟨ys, gd1⟩, S6, e6, h6⟩ := bnd_some h5'
      obtain ⟨_, S7, e7, h7⟩ := bnd_some h6
      refine iteT (hi1 rl5 (re4.mono rl4 x5) ys gd1 S6 e6 _ fun m6 H6 J1 rl6 x6 w1 => ?_)
      have x26 : Ext (m1 ++ [D]) (upd H1 D (.lst [])) m6 H6 := x2.trans (x3.trans (x4.trans (x5.trans x6)))
      have hw4 := (re4.mono rl4 (x5.trans x6))
      let Pw : Nat → Hp → Prop := fun j H7 => ∃ m7 S8, Rel K m7 S8 H7 ∧ Ext m6 H6 m7 H7 ∧ lcInM gd1 S1.length fg1 ft1 fe (wipeE env3 us) (ys.drop j) S8 = some ((), S7)
      refine ⟨fun j n H7 => n = ys.length - j ∧ j ≤ ys.length ∧ Pw j H7, ⟨ys.length, by simp, Nat.zero_le _, m6, S6, rl6, .refl, e7⟩, ?_⟩
      rintro j n H7 ⟨rfl, hjle, m7, S8, rl7, x7, h8⟩
      have hgd1 : gdOk S8 gd1 := lcIn_ok h8
      have GG1 : ∃ m2 S2, Rel K m2 S2 H7 ∧ Ext m6 H6 m2 H7 ∧ gdOk S2 gd1 := ⟨m7, S8, rl7, x7, hgd1⟩
      by_cases hjl : j < ys.length
      · refine .inr ⟨w1.goes j H7 hjl GG1, Pw (j + 1), fun H' p' => ⟨ys.length - (j + 1), by omega, rfl, hjl, p'⟩, fun x' H8 y' => ?_⟩
        obtain ⟨d2, hd2, rl8, x8, rd2⟩ := w1.yields j H7 x' H8 hjl GG1 y' m7 S8 rl7 x7 hgd1
        rw [drop_at hd2] at h8
        have h9 := (gdM_some h8).2
        obtain ⟨env9, S9, e9, h10⟩ := bnd_some h9
        obtain ⟨b1, S10, e10, h11⟩ := bnd_some h10
        have rew1 : RelE K m7 H8 (wipeE env3 us) (L2.wipe σ4 us) := (hw4.mono rl6 (x7.trans x8)).wipe us
        refine hg1 rl8 rew1 rd2 env9 S9 e9 _ fun m9 H9 σ9 rl9 x9 re9 o9 => ⟨by rw [o9.wipe, wipe_wipe], ?_⟩
        refine ht1 rl9 re9 b1 S10 e10 _ fun m10 H10 rl10 x10 => ?_
        cases b1 with
        | true =>
          have h11' : bnd (fe env9) (fun d => bnd (pushM S1.length d) fun _ => lcInM gd1 S1.length fg1 ft1 fe (wipeE env3 us) (ys.drop (j + 1))) S10 = some ((), S7) := h11
          obtain ⟨yy, S11, e11, h12⟩ := bnd_some h11'
          obtain ⟨_, S12, e12, h13⟩ := bnd_some h12
          refine iteT (he rl10 (re9.mono rl9 x10) yy S11 e11 _ fun m11 H11 v rl11 x11 rv => ?_)
          have x611 : Ext m6 H6 m11 H11 := x7.trans (x8.trans (x9.trans (x10.trans x11)))
          unfold pushM at e12
          cases ek : S11[S1.length]? with
          | none => rw [ek] at e12; cases e12
          | some o =>
            rw [ek] at e12
            cases o with
            | lst acc =>
              simp only at e12
              split at e12
              · cases e12
                rename_i c
                have hk6 := (x26.trans x611).at hk0
                obtain ⟨p, u, q1, q2, q3⟩ := rl11.at ek
                rw [hk6] at q1
                cases q1
                cases q3 with
                | lst q3 =>
                  obtain ⟨a1, a2⟩ := rl11.set hk6 (.lst (q3.snoc rv))
                  exact ⟨_, q2, by rw [← q3.length]; exact c, m11, _, a1, x611.trans a2, h13⟩
              · cases e12
            | _ => cases e12
        | false => exact iteF ⟨m10, S10, rl10, x7.trans (x8.trans (x9.trans x10)), h11⟩
      · have e : j = ys.length := by omega
        subst e
        rw [List.drop_length] at h8
        cases (gdM_some h8).2
        exact .inl ⟨w1.stops H7 GG1, m7, _, rl7, x26.trans x7, h7⟩
    | false => exact iteF ⟨m5, S5, rl5, x2.trans (x3.trans (x4.trans x5)), h5⟩
  · have e : i = xs.length := by omega
    subst e
    rw [List.drop_length] at h2
    cases (gdM_some h2).2
    exact .inl ⟨w.stops H2 GG, q m2 H2 _ rl2 (x1.trans (x1'.trans x2)) (.ref (x2.at hk0))⟩
theorem de_lc2 {elt tg iter tg1 iter1 : Expr} {ifs ifs1 : List Expr} {scope : Scope} (own : List (Str × Nat)) (us : List Nat) {wi wi1 : TI} {g g1 : TG} {tt tt1 : TT} {te : TE} {fi fi1 : SEnv → M (List D × Gd)} {fg fg1 : D → SEnv → M SEnv} {ft ft1 : SEnv → M Bool} {fe : SEnv → M D} (hc : X.calm = true) (hN : X.N.Nodup) (hi : DI X tg iter wi fi) (ok : BlkOk X.N X.env.scope scope own)
    (hv : ∀ i ∈ us, i ∈ own.map (·.2)) {ws : List Nat} (hws : ∀ i ∈ ws, i ∈ own.map (·.2))
    (hg : ∀ (s : Shared) (H : Hp) (C : Addr) (cl : List (Str × Addr)) (fp : List Addr), DG (X.blk s H scope (compEnvC scope cl C X.env) fp) tg ws g fg) (ht : ∀ (s : Shared) (H : Hp) (C : Addr) (cl : List (Str × Addr)) (fp : List Addr), DTs (X.blk s H scope (compEnvC scope cl C X.env) fp) ifs tt ft)
    (hi1 : ∀ (s : Shared) (H : Hp) (C : Addr) (cl : List (Str × Addr)) (fp : List Addr), DI (X.blk s H scope (compEnvC scope cl C X.env) fp) tg1 iter1 wi1 fi1)
    (hg1 : ∀ (s : Shared) (H : Hp) (C : Addr) (cl : List (Str × Addr)) (fp : List Addr), DG (X.blk s H scope (compEnvC scope cl C X.env) fp) tg1 us g1 fg1) (ht1 : ∀ (s : Shared) (H : Hp) (C : Addr) (cl : List (Str × Addr)) (fp : List Addr), DTs (X.blk s H scope (compEnvC scope cl C X.env) fp) ifs1 tt1 ft1)
    (he : ∀ (s : Shared) (H : Hp) (C : Addr) (cl : List (Str × Addr)) (fp : List Addr), DE (X.blk s H scope (compEnvC scope cl C X.env) fp) elt te fe) (hs : ∀ x, foldedSetIterable iter X.env x = pure x := by intro _; rfl) (hs1 : ∀ env x, foldedSetIterable iter1 env x = pure x := by intro _ _; rfl) :
    DE X (.ListComp elt [⟨tg, iter, ifs, 0⟩, ⟨tg1, iter1, ifs1, 0⟩] scope pos) (tLc2 wi g tt wi1 g1 tt1 te (own.map (·.2)) us) (eLc2 fi fg ft fi1 fg1 ft1 fe (own.map (·.2)) us) :=
  ⟨pe_lc2 hc hN hi.pi ok hv (fun s H C cl fp => (hg s H C cl fp).pg) (fun s H C cl fp => (ht s H C cl fp).pts) (fun s H C cl fp => (hi1 s H C cl fp).pi) (fun s H C cl fp => (hg1 s H C cl fp).pg) (fun s H C cl fp => (ht1 s H C cl fp).pts) (fun s H C cl fp => (he s H C cl fp).pe) hs hs1,
   se_lc2 hi.si (fun m S H env σ d v rl re rd env' S' h Q q => (hg X.s_0 X.H_0 0 [] []).sg rl re rd env' S' h Q fun m' H' σ' r1 r2 r3 o => q m' H' σ' r1 r2 r3 ⟨o.1, fun i hi => o.2 i (fun z => hi (hws i z))⟩) (ht X.s_0 X.H_0 0 [] []).st (hi1 X.s_0 X.H_0 0 [] []).si (hg1 X.s_0 X.H_0 0 [] []).sg (ht1 X.s_0 X.H_0 0 [] []).st (he X.s_0 X.H_0 0 [] []).se⟩
theorem ds_setLc2 (i : Nat) {y : Str} {py spos : Pos} {elt tg iter tg1 iter1 : Expr} {ifs ifs1 : List Expr} {scope : Scope} (own : List (Str × Nat)) (us : List Nat) {wi wi1 : TI} {g g1 : TG} {tt tt1 : TT} {te : TE} {fi fi1 : SEnv → M (List D × Gd)} {fg fg1 : D → SEnv → M SEnv} {ft ft1 : SEnv → M Bool} {fe : SEnv → M D} (hc : X.calm = true) (hN : X.N.Nodup) (hi : DI X tg iter wi fi) (ok : BlkOk X.N X.env.scope scope own)
    (hv : ∀ i ∈ us, i ∈ own.map (·.2)) {ws : List Nat} (hws : ∀ i ∈ ws, i ∈ own.map (·.2))
    (hg : ∀ (s : Shared) (H : Hp) (C : Addr) (cl : List (Str × Addr)) (fp : List Addr), DG (X.blk s H scope (compEnvC scope cl C X.env) fp) tg ws g fg) (ht : ∀ (s : Shared) (H : Hp) (C : Addr) (cl : List (Str × Addr)) (fp : List Addr), DTs (X.blk s H scope (compEnvC scope cl C X.env) fp) ifs tt ft)
    (hi1 : ∀ (s : Shared) (H : Hp) (C : Addr) (cl : List (Str × Addr)) (fp : List Addr), DI (X.blk s H scope (compEnvC scope cl C X.env) fp) tg1 iter1 wi1 fi1)
    (hg1 : ∀ (s : Shared) (H : Hp) (C : Addr) (cl : List (Str × Addr)) (fp : List Addr), DG (X.blk s H scope (compEnvC scope cl C X.env) fp) tg1 us g1 fg1) (ht1 : ∀ (s : Shared) (H : Hp) (C : Addr) (cl : List (Str × Addr)) (fp : List Addr), DTs (X.blk s H scope (compEnvC scope cl C X.env) fp) ifs1 tt1 ft1)
    (he : ∀ (s : Shared) (H : Hp) (C : Addr) (cl : List (Str × Addr)) (fp : List Addr), DE (X.blk s H scope (compEnvC scope cl C X.env) fp) elt te fe) (hsw : swapsWith (.ListComp elt [⟨tg, iter, ifs, 0⟩, ⟨tg1, iter1, ifs1, 0⟩] scope pos) (some (.Name y py)) spos.line X.env = pure true)
    (hy : X.N[i]? = some y := by rfl) (hyl : X.env.scope.names.lookup y = some .local := by rfl) (hs : ∀ x, foldedSetIterable iter X.env x = pure x := by intro _; rfl) (hs1 : ∀ env x, foldedSetIterable iter1 env x = pure x := by intro _ _; rfl) :
    DS X (.Assign [.Name y py] (.ListComp elt [⟨tg, iter, ifs, 0⟩, ⟨tg1, iter1, ifs1, 0⟩] scope pos) spos) (tAsg (tLc2 wi g tt wi1 g1 tt1 te (own.map (·.2)) us) (gName i)) (sAsg (eLc2 fi fg ft fi1 fg1 ft1 fe (own.map (·.2)) us) (gN i)) :=
  ⟨ps_setLc2 hc hN hy hyl hsw hi.pi ok hv (fun s H C cl fp => (hg s H C cl fp).pg) (fun s H C cl fp => (ht s H C cl fp).pts) (fun s H C cl fp => (hi1 s H C cl fp).pi) (fun s H C cl fp => (hg1 s H C cl fp).pg) (fun s H C cl fp => (ht1 s H C cl fp).pts) (fun s H C cl fp => (he s H C cl fp).pe) hs hs1,
   ss_asg (se_lc2 hi.si (fun m S H env σ d v rl re rd env' S' h Q q => (hg X.s_0 X.H_0 0 [] []).sg rl re rd env' S' h Q fun m' H' σ' r1 r2 r3 o => q m' H' σ' r1 r2 r3 ⟨o.1, fun i hi => o.2 i (fun z => hi (hws i z))⟩) (ht X.s_0 X.H_0 0 [] []).st (hi1 X.s_0 X.H_0 0 [] []).si (hg1 X.s_0 X.H_0 0 [] []).sg (ht1 X.s_0 X.H_0 0 [] []).st (he X.s_0 X.H_0 0 [] []).se) (dg_name (pos := py) i hN hy (.inl hyl) (.inr hyl))⟩
/-! ### reversed -/
def iRevM (f : SEnv → M D) : SEnv → M (List D × Gd) := fun env => bnd (f env) fun d S => match d with
  | .ref r => match S[r]? with
    | some (.lst xs) => some ((xs.reverse, [(r, xs)]), S)
    | _ => none
  | .tup xs => some ((xs.reverse, []), S)
  | _ => none
theorem rev_at {α : Type} {xs : List α} {i : Nat} (h : i < xs.length) : xs.reverse[i]? = xs[xs.length - 1 - i]? := by
  rw [List.getElem?_reverse h]
theorem walk_revR {r : Nat} {a : Addr} {xs : List D} (ha : m[r]? = some a) : WalkD K m H (Itv K a xs.length) xs.reverse [(r, xs)] := by
  have key : ∀ {m2 : List Addr} {S2 : Store} {H2 : Hp}, Rel K m2 S2 H2 → Ext m H m2 H2 → gdOk S2 [(r, xs)] → ∃ vs, SqL K H2 a vs ∧ Reps K m2 H2 xs vs := fun rl2 x2 g => by
    have e := g (r, xs) (List.mem_singleton.mpr rfl)
    obtain ⟨p, u, q1, q2, q3⟩ := rl2.at e
    rw [x2.at ha] at q1
    cases q1
    cases q3 with
    | lst q3 => exact ⟨_, .inl (.inl q2), q3⟩
  refine ⟨fun i H2 hi ⟨m2, S2, rl2, x2, g⟩ => ?_, fun H2 ⟨m2, S2, rl2, x2, g⟩ => ?_, fun i H2 x H3 hi _ y m2 S2 rl2 x2 g => ?_⟩
  · obtain ⟨vs, hs, h2⟩ := key rl2 x2 g
    rw [List.length_reverse] at hi
    have hv : xs.length - 1 - i < vs.length := by rw [← h2.length]; omega
    exact ⟨hi, vs, vs[xs.length - 1 - i], hs, by rw [List.getElem?_eq_getElem hv]⟩
  · show xs.length ≤ xs.reverse.length
    rw [List.length_reverse]
    exact Nat.le_refl _
  · obtain ⟨vs, hs, h2⟩ := key rl2 x2 g
    rw [List.length_reverse] at hi
    obtain ⟨rfl, e⟩ := y
    have e2 := e vs hs
    have hx : xs.length - 1 - i < xs.length := by omega
    obtain ⟨v, h3, h4⟩ := h2.get (List.getElem?_eq_getElem hx)
    rw [e2] at h3
    cases h3
    exact ⟨_, (rev_at hi).trans (List.getElem?_eq_getElem hx), rl2, .refl, h4⟩
theorem walk_revT {a : Addr} {vs : List V} {xs : List D} (rl : Rel K m S H) (h1 : SqT K H a vs) (h2 : Reps K m H xs vs) : WalkD K m H (ItvT K a vs.length) xs.reverse [] := by
  have hl := h2.length
  refine ⟨fun i H2 hi ⟨m2, S2, rl2, x2, _⟩ => ?_, fun H2 ⟨m2, S2, rl2, x2, _⟩ => ?_, fun i H2 x H3 hi _ y m2 S2 rl2 x2 _ => ?_⟩
  · have hs := rl.sqT x2 h1
    rw [List.length_reverse] at hi
    have hv : vs.length - 1 - i < vs.length := by omega
    exact ⟨by omega, vs, vs[vs.length - 1 - i], hs, by rw [List.getElem?_eq_getElem hv]⟩
  · show vs.length ≤ xs.reverse.length
    rw [List.length_reverse, hl]
    exact Nat.le_refl _
  · have hs := rl.sqT x2 h1
    rw [List.length_reverse] at hi
    obtain ⟨rfl, e⟩ := y
    have e2 := e vs hs
    have hx : xs.length - 1 - i < xs.length := by omega
    obtain ⟨v, h3, h4⟩ := h2.get (List.getElem?_eq_getElem hx)
    rw [hl, e2] at h3
    cases h3
    exact ⟨_, (rev_at hi).trans (List.getElem?_eq_getElem hx), rl2, .refl, h4.mono rl x2⟩
theorem di_rev {tg e : Expr} {te : TE} {f : SEnv → M D} {p : Pos} (hm : X.mg "reversed" = none) (h : DE X e te f) (hg : Gl X "reversed" := by rfl) (hs : starEach [e] X.env = (false, eval e X.env) :: starEach [] X.env := by rfl) : DI X tg (.Call (.Name "reversed" p) [e] [] pos) (iRevA X.K te) (iRevM f) := ⟨pi_revA hg hm h.pe hs, fun m S H env σ rl re xs g S' hh R q => by
  obtain ⟨d, S1, e1, h1⟩ := bnd_some hh
  refine h.se rl re d S1 e1 _ fun m1 H1 v rl1 x1 rv => ?_
  cases rv with
  | tup h2 h3 =>
    cases h1
    exact ⟨_, _, rfl, .inr ⟨h2, q m1 H1 _ rl1 x1 (walk_revT rl1 h2 h3)⟩⟩
  | @ref r a ha =>
    simp only at h1
    cases e : S1[r]? with
    | none => rw [e] at h1; cases h1
    | some o =>
      rw [e] at h1
      cases o with
      | lst ys =>
        cases h1
        obtain ⟨p, vs, q1, q2, q3, q4⟩ := rl1.sqL e (.ref ha)
        cases q1
        refine ⟨_, vs, rfl, .inl ⟨.inl (.inl q3), q m1 H1 _ rl1 x1 ?_⟩⟩
        rw [← q4.length]
        exact walk_revR ha
      | _ => cases h1
  | _ => cases h1⟩
theorem dk_rever (K : PySem.W.Frag) (hK : X.K = K) {tg e : Expr} {te : TE} {f : SEnv → M D} {p : Pos} (hm : X.mg "reversed" = none) (h : DE X e te f) (hg : Gl X "reversed" := by rfl) (hs : starEach [e] X.env = (false, eval e X.env) :: starEach [] X.env := by rfl) : DI X tg (.Call (.Name "reversed" p) [e] [] pos) (iRevA K te) (iRevM f) := by subst hK; exact di_rev hm h hg hs
/-! ### x in a tuple of integers, whatever x is -/
def rInT (K : PySem.W.Frag) : R2 := fun x y H Q => ∃ d ds, Dp K H x d ∧ Dp K H y (.tuple ds) ∧ d.canLay0 = true ∧ PyData.canLayAll0 ds = true ∧ PyData.depthAll ds = 0 ∧ Q (.bl (ds.any fun z => PyData.eqv z d)) H
theorem op_inT (hu : X.A.units + 1 < cLine) : OpR X (compareOp .In) (rInT X.K) := by
  intro pins s σ H x y v u Q I rx ry h
  obtain ⟨d, ds, hd, he, sd, se, s0, q⟩ := h
  obtain ⟨as, r1⟩ := Dp.reads I d x v hd rx
  obtain ⟨bs, r2⟩ := Dp.reads I (.tuple ds) y u he ry
  exact SeqAt.in_tuple_reads r2 r1 se sd (by rw [s0, Nat.zero_min]; omega) ⟨.bl _, H, I, rfl, q⟩
def inWB (a b : D) : M Bool := fun S => match a, b with
  | .tup xs, .tup ys => match py (.tup xs), pys ys with
    | some p, some qs => if p.canLay0 = true ∧ PyData.canLayAll0 qs = true ∧ PyData.depthAll qs = 0 then some (qs.any fun z => PyData.eqv z p, S) else none
    | _, _ => none
  | a, b => inUB a b S
def inW (a b : D) : M D := bnd (inWB a b) fun k => ret (.bl k)
theorem o_inW (hu : X.A.units + 1 < cLine) : DO2 X (compareOp .In) (fun x y H Q => rInT X.K x y H Q ∨ rInU X.K x y H Q) inW := ⟨(op_inT hu).or (o_inU hu).op, fun m S H x y a b rl ra rb d S' h Q q => by
  obtain ⟨k, S1, h1, h2⟩ := bnd_some h
  cases h2
  unfold inWB at h1
  split at h1
  · split at h1
    · rename_i p qs e1 e2
      split at h1
      · rename_i c
        cases h1
        have e3 : py (.tup ‹_›) = some (.tuple qs) := by
          show (pys _).map PyData.tuple = _
          rw [e2]
          rfl
        exact .inl ⟨p, qs, ra.py e1, rb.py e3, c.1, c.2.1, c.2.2, q m H _ rl .refl (.bl _)⟩
      · cases h1
    · cases h1
  · exact .inr ((o_inU hu).sr rl ra rb _ _ (bnd_eq h1) Q q)⟩
theorem k_inW (K : PySem.W.Frag) (hK : X.K = K) (hu : X.A.units + 1 < cLine) : DO2 X (compareOp .In) (fun x y H Q => rInT K x y H Q ∨ rInU K x y H Q) inW := by subst hK; exact o_inW hu
end
end TS
set_option Elab.async false
set_option linter.all false
set_option maxRecDepth 100000
namespace TS
open PySem PySem.Spec PyProof.Rows L2
theorem w_eqS {S : Store} {Q : D → Store → Prop} {x y : Str} (hx : PyData.strOk x = true) (hy : PyData.strOk y = true) : wp (eqD (.str x) (.str y)) S Q ↔ Q (.bl (x == y)) S :=
  w_eqB (p := .str x) (q := .str y) rfl rfl (by show (PyData.strOk x && true) = true; rw [hx]; rfl) (by show (PyData.strOk y && true) = true; rw [hy]; rfl)
theorem w_neS {S : Store} {Q : D → Store → Prop} {x y : Str} (hx : PyData.strOk x = true) (hy : PyData.strOk y = true) : wp (neD (.str x) (.str y)) S Q ↔ Q (.bl (!(x == y))) S :=
  w_neB (p := .str x) (q := .str y) rfl rfl (by show (PyData.strOk x && true) = true; rw [hx]; rfl) (by show (PyData.strOk y && true) = true; rw [hy]; rfl)
/-- a text of plain signs -/
def Plain (x : Str) : Prop := ∀ c ∈ x.cps.toList, c < 128
theorem Plain.ok {x : Str} (h : Plain x) : PyData.strOk x = true := by
  unfold PyData.strOk
  rw [Array.all_eq_true]
  intro i hi
  have := h x.cps[i] (by simp)
  simp
  omega
theorem Plain.app {x y : Str} (h : Plain x) (g : Plain y) : Plain (x ++ y) := fun c hc => by
  rw [show (x ++ y).cps = x.cps ++ y.cps from rfl, Array.toList_append] at hc
  exact (List.mem_append.mp hc).elim (h c) (g c)
theorem plain1 {c : Nat} (h : c < 128) : Plain ⟨#[c]⟩ := fun d hd => by
  rw [List.mem_singleton.mp hd]
  exact h
theorem len_toList (x : Str) : x.cps.toList.length = x.length := by simp [Str.length]
theorem sz_lt {n : Nat} (h : n < 100000) : n < sizeLine := Nat.lt_of_lt_of_le h (by decide)
theorem menu_at {S : Store} {xs : List D} {n : Int} {Q : D → Store → Prop} {r : Nat} (hr : S[r]? = some (.lst xs)) (h0 : 0 ≤ n) (h1 : n < xs.length) (h : ∀ d ∈ xs, Q d S) : wp (ixU (.ref r) (.int n)) S Q := by
  rw [w_ixL hr]
  have hl : n.toNat < xs.length := by omega
  refine ⟨xs[n.toNat], ?_, h _ (List.getElem_mem hl)⟩
  have e := atI_nat (List.getElem?_eq_getElem hl)
  rw [show ((n.toNat : Nat) : Int) = n by omega] at e
  exact e
theorem w_yes {env : SEnv} {S : Store} {Q : Bool → Store → Prop} : wp (bYes env) S Q ↔ Q true S := wp_ret
/-! ### things: data without what may change -/
def FlatT (N : Nat) : D → Prop
  | .non => True
  | .bl _ => True
  | .int _ => True
  | .str z => Plain z ∧ z.length ≤ N
  | _ => False
def Th (N : Nat) : Nat → D → Prop
  | 0, d => FlatT N d
  | e + 1, d => match d with
    | .tup xs => xs.length ≤ N ∧ ∀ x ∈ xs, Th N e x
    | d => FlatT N d
def tupQ : D → Bool
  | .tup _ => true
  | _ => false
def strQ : D → Bool
  | .str _ => true
  | _ => false
def blQ : D → Bool
  | .bl _ => true
  | _ => false
def intQ : D → Bool
  | .int _ => true
  | .bl _ => true
  | _ => false
theorem Th.cases {N e : Nat} {d : D} (h : Th N e d) : (∃ e' xs, e = e' + 1 ∧ d = .tup xs ∧ xs.length ≤ N ∧ ∀ x ∈ xs, Th N e' x) ∨ d = .non ∨ (∃ b, d = .bl b) ∨ (∃ i, d = .int i) ∨ (∃ z, d = .str z ∧ Plain z ∧ z.length ≤ N) := by
  have flat : FlatT N d → d = .non ∨ (∃ b, d = .bl b) ∨ (∃ i, d = .int i) ∨ (∃ z, d = .str z ∧ Plain z ∧ z.length ≤ N) := fun h => by
    cases d with
    | non => exact .inl rfl
    | bl b => exact .inr (.inl ⟨b, rfl⟩)
    | int i => exact .inr (.inr (.inl ⟨i, rfl⟩))
    | str z => exact .inr (.inr (.inr ⟨z, rfl, h.1, h.2⟩))
    | _ => exact h.elim
  cases e with
  | zero => exact .inr (flat h)
  | succ e =>
    cases d with
    | tup xs => exact .inl ⟨e, xs, rfl, rfl, h.1, h.2⟩
    | _ => exact .inr (flat h)
theorem FlatT.th {N e : Nat} {d : D} (h : FlatT N d) : Th N e d := by
  cases e with
  | zero => exact h
  | succ e =>
    cases d with
    | tup xs => exact h.elim
    | _ => exact h
theorem Th.mono : ∀ {e e' N N' : Nat} {d : D}, Th N e d → e ≤ e' → N ≤ N' → Th N' e' d := by
  intro e
  induction e with
  | zero =>
    intro e' N N' d h _ hN
    refine FlatT.th ?_
    cases d with
    | str z => exact ⟨h.1, Nat.le_trans h.2 hN⟩
    | _ => exact h
  | succ e ih =>
    intro e' N N' d h he hN
    cases d with
    | tup xs =>
      obtain ⟨e2, rfl⟩ : ∃ e2, e' = e2 + 1 := ⟨e' - 1, by omega⟩
      exact ⟨Nat.le_trans h.1 hN, fun x hx => ih (h.2 x hx) (by omega) hN⟩
    | str z => exact FlatT.th (show FlatT N' (.str z) from ⟨h.1, Nat.le_trans h.2 hN⟩)
    | _ => exact FlatT.th (show FlatT N' _ from h)
/-- a thing as it is compared -/
theorem Th.py : ∀ {e N : Nat} {d : D}, Th N e d → ∃ p, py d = some p ∧ PyData.canLay0 p = true ∧ p.depth ≤ e := by
  intro e
  induction e with
  | zero =>
    intro N d h
    rcases Th.cases h with ⟨_, _, h, _⟩ | rfl | ⟨b, rfl⟩ | ⟨i, rfl⟩ | ⟨z, rfl, hz, _⟩
    · cases h
    · exact ⟨_, rfl, rfl, Nat.le_refl _⟩
    · exact ⟨_, rfl, rfl, Nat.le_refl _⟩
    · exact ⟨_, rfl, rfl, Nat.le_refl _⟩
    · exact ⟨_, rfl, hz.ok, Nat.le_refl _⟩
  | succ e ih =>
    intro N d h
    rcases Th.cases h with ⟨e', xs, he, rfl, _, hx⟩ | rfl | ⟨b, rfl⟩ | ⟨i, rfl⟩ | ⟨z, rfl, hz, _⟩
    · cases he
      have key : ∀ l : List D, (∀ x ∈ l, Th N e x) → ∃ ps, pys l = some ps ∧ PyData.canLayAll0 ps = true ∧ PyData.depthAll ps ≤ e := by
        intro l
        induction l with
        | nil => exact fun _ => ⟨[], rfl, rfl, Nat.zero_le _⟩
        | cons x r ih2 =>
          intro hl
          obtain ⟨p, h1, h2, h3⟩ := ih (hl x (List.mem_cons_self ..))
          obtain ⟨ps, g1, g2, g3⟩ := ih2 fun y hy => hl y (List.mem_cons_of_mem _ hy)
          refine ⟨p :: ps, by show (match TS.py x, pys r with | some p, some ps => some (p :: ps) | _, _ => none) = _; rw [h1, g1], ?_, Nat.max_le.mpr ⟨h3, g3⟩⟩
          show (PyData.canLay0 p && PyData.canLayAll0 ps) = true
          rw [h2, g2]
          rfl
      obtain ⟨ps, h1, h2, h3⟩ := key xs hx
      refine ⟨.tuple ps, by show (pys xs).map _ = _; rw [h1]; rfl, h2, ?_⟩
      show PyData.depthAll ps + 1 ≤ e + 1
      omega
    · exact ⟨_, rfl, rfl, Nat.zero_le _⟩
    · exact ⟨_, rfl, rfl, Nat.zero_le _⟩
    · exact ⟨_, rfl, rfl, Nat.zero_le _⟩
    · exact ⟨_, rfl, hz.ok, Nat.zero_le _⟩
theorem Th.pyS {e N : Nat} {d : D} (h : Th N e d) (he : e ≤ 60) (S : Store) : ∃ p, pyS S d = some p ∧ SeqAt.shaped p = true ∧ TS.py d = some p := by
  obtain ⟨p, h1, h2, h3⟩ := h.py
  refine ⟨p, ?_, ?_, h1⟩
  · cases d with
    | ref i => cases h1
    | _ => exact h1
  · unfold SeqAt.shaped
    rw [h2, decide_eq_true (by omega)]
    rfl
section
variable {S : Store} {Q : D → Store → Prop}
theorem w_isiT {N e : Nat} {d : D} (h : Th N e d) : wp (nIsi [d, .ty "tuple"]) S Q ↔ Q (.bl (tupQ d)) S := by
  rcases h.cases with ⟨e', xs, rfl, rfl, _, hx⟩ | rfl | ⟨b, rfl⟩ | ⟨i, rfl⟩ | ⟨z, rfl, hz, _⟩ <;> exact wp_some rfl
theorem w_isiS {N e : Nat} {d : D} (h : Th N e d) : wp (nIsi [d, .ty "str"]) S Q ↔ Q (.bl (strQ d)) S := by
  rcases h.cases with ⟨e', xs, rfl, rfl, _, hx⟩ | rfl | ⟨b, rfl⟩ | ⟨i, rfl⟩ | ⟨z, rfl, hz, _⟩ <;> exact wp_some rfl
theorem w_isiB {N e : Nat} {d : D} (h : Th N e d) : wp (nIsi [d, .ty "bool"]) S Q ↔ Q (.bl (blQ d)) S := by
  rcases h.cases with ⟨e', xs, rfl, rfl, _, hx⟩ | rfl | ⟨b, rfl⟩ | ⟨i, rfl⟩ | ⟨z, rfl, hz, _⟩ <;> exact wp_some rfl
theorem w_isiI {N e : Nat} {d : D} (h : Th N e d) : wp (nIsi [d, .ty "int"]) S Q ↔ Q (.bl (intQ d)) S := by
  rcases h.cases with ⟨e', xs, rfl, rfl, _, hx⟩ | rfl | ⟨b, rfl⟩ | ⟨i, rfl⟩ | ⟨z, rfl, hz, _⟩ <;> exact wp_some rfl
end
/-- grown by new objects alone -/
def Grow (S S' : Store) : Prop := ∃ l, S' = S ++ l
theorem Grow.refl {S : Store} : Grow S S := ⟨[], (List.append_nil S).symm⟩
theorem Grow.app {S S' l : Store} (h : Grow S S') : Grow S (S' ++ l) := by
  obtain ⟨l', rfl⟩ := h
  exact ⟨l' ++ l, List.append_assoc _ _ _⟩
theorem Grow.trans {S S1 S2 : Store} (h : Grow S S1) (g : Grow S1 S2) : Grow S S2 := by
  obtain ⟨l, rfl⟩ := g
  exact h.app
theorem Grow.kp {r : Nat} {S S' : Store} (h : Grow S S') : Kp r S S' := by
  obtain ⟨l, rfl⟩ := h
  exact .app
theorem Grow.dr {r q : Nat} {S S' : Store} (h : Grow S S') (d : Dr r q S) : Dr r q S' := by
  obtain ⟨l, rfl⟩ := h
  exact d.app
theorem pys_ints : ∀ l : List Int, pys (l.map .int) = some (l.map .int)
  | [] => rfl
  | x :: r => by
    show (match py (.int x), pys (r.map .int) with | some p, some ps => some (p :: ps) | _, _ => none) = _
    rw [pys_ints r]
    rfl
theorem pyS_list {S : Store} {r : Nat} {xs : List D} {ps : List PyData} (h : S[r]? = some (.lst xs)) (g : pys xs = some ps) : pyS S (.ref r) = some (.list ps) := by
  unfold pyS
  simp only [h, g, Option.map_some]
theorem shaped_list : ∀ {l : List PyData}, (∀ p ∈ l, PyData.canLay0 p = true ∧ p.depth ≤ 10) → PyData.canLayAll0 l = true ∧ PyData.depthAll l ≤ 10
  | [], _ => ⟨rfl, Nat.zero_le _⟩
  | x :: r, h => by
    obtain ⟨h1, h2⟩ := h x (List.mem_cons_self ..)
    obtain ⟨h3, h4⟩ := shaped_list fun p hp => h p (List.mem_cons_of_mem _ hp)
    exact ⟨by show (PyData.canLay0 x && PyData.canLayAll0 r) = true; rw [h1, h3]; rfl, Nat.max_le.mpr ⟨h2, h4⟩⟩
theorem shaped_l {l : List PyData} (h : ∀ p ∈ l, PyData.canLay0 p = true ∧ p.depth ≤ 10) : SeqAt.shaped (.list l) = true := by
  obtain ⟨h1, h2⟩ := shaped_list h
  unfold SeqAt.shaped
  rw [Bool.and_eq_true]
  refine ⟨h1, decide_eq_true ?_⟩
  show PyData.depthAll l + 1 ≤ 64
  omega
theorem shaped_ints (l : List Int) : SeqAt.shaped (.list (l.map PyData.int)) = true := shaped_l fun p hp => by
  obtain ⟨i, _, rfl⟩ := List.mem_map.mp hp
  exact ⟨rfl, Nat.zero_le _⟩
theorem lt_of_get {S : Store} {i : Nat} {o : MO} (h : S[i]? = some o) : i < S.length := (List.getElem?_eq_some_iff.mp h).1
theorem get_new {S : Store} {o : MO} : (S ++ [o])[S.length]? = some o := by rw [List.getElem?_append_right (Nat.le_refl _), Nat.sub_self]; rfl
theorem Grow.le {S S' : Store} (h : Grow S S') : S.length ≤ S'.length := by
  obtain ⟨l, rfl⟩ := h
  rw [List.length_append]
  omega
theorem Grow.get {S S' : Store} {i : Nat} {o : MO} (h : Grow S S') (e : S[i]? = some o) : S'[i]? = some o := by
  obtain ⟨l, rfl⟩ := h
  rw [List.getElem?_append_left (lt_of_get e)]
  exact e
theorem Grow.set {S S' : Store} {i : Nat} {o : MO} (h : Grow S S') (hi : S.length ≤ i) : Grow S (S'.set i o) := by
  obtain ⟨l, rfl⟩ := h
  exact ⟨l.set (i - S.length) o, by rw [List.set_append_right _ _ hi]⟩
/-- a comprehension without a test, whose values are told by f -/
theorem w_lcG {fi : SEnv → M (List D × Gd)} {tgt : D → SEnv → M SEnv} {te : SEnv → M D} {vs : List Nat} {env : SEnv} {S : Store} {Q : D → Store → Prop} {xs : List D} {g : Gd} (f : D → D)
    (h0 : fi env S = some ((xs, g), S)) (hg : ∀ S1, Grow S S1 → gdOk S1 g) (hz : xs.length < sizeLine)
    (step : ∀ (i : Nat) (x : D) (S1 : Store), xs[i]? = some x → Grow S S1 → wp (tgt x (wipeE env vs)) S1 fun env1 S2 => wp (te env1) S2 fun d S3 => d = f x ∧ Grow S1 S3)
    (q : ∀ S', Grow S S' → S'[S.length]? = some (.lst (xs.map f)) → Q (.ref S.length) S') : wp (eLc fi tgt bYes te vs env) S Q := by
  refine wp_lc (xs := xs) (g := g) (S1 := S) h0 (fun j acc S3 => acc = (xs.take j).map f ∧ S3[S.length]? = some (.lst acc) ∧ Grow S S3) ⟨rfl, get_new, Grow.refl.app⟩ (fun _ _ _ ⟨_, e, _⟩ => e) (fun _ _ _ ⟨_, _, e⟩ => hg _ e)
    (fun j acc S3 ⟨e, _⟩ => by rw [e, List.length_map]; exact List.length_take_le _ _) hz ?_ ?_
  · rintro i x acc S3 hx ⟨rfl, hk, hG⟩
    refine (step i x S3 hx hG).mono fun env1 S4 h => ?_
    rw [w_yes, if_pos rfl]
    refine h.mono fun d S5 ⟨hd, hG5⟩ => ?_
    subst hd
    have e5 := hG5.get hk
    refine ⟨e5, ?_, ?_, (hG.trans hG5).set (Nat.le_refl _)⟩
    · rw [List.take_add_one, hx, List.map_append]
      rfl
    · rw [List.getElem?_set_self (lt_of_get e5)]
  · rintro acc S3 ⟨rfl, hk, hG⟩
    rw [List.take_length] at hk
    exact q S3 hG hk
theorem w_allL {S : Store} {Q : D → Store → Prop} {r : Nat} {bs : List Bool} (h : S[r]? = some (.lst (bs.map .bl))) : wp (nAll [.ref r]) S Q ↔ Q (.bl (bs.all id)) S := by
  have e : ∀ l : List Bool, blsOf (l.map .bl) = some l := fun l => by
    induction l with
    | nil => rfl
    | cons x r ih => show (blsOf (r.map .bl)).map (x :: ·) = _; rw [ih]; rfl
  exact wp_some (by unfold nAll lstOf; simp only [h, e])
def tupN (n : Nat) : D → Bool
  | .tup xs => decide (xs.length = n)
  | _ => false
def idxQ (n : Nat) : D → Bool
  | .int i => decide (0 ≤ i) && decide (i < n)
  | _ => false
def idxQ' (n : Nat) (d : D) : D := .bl (idxQ n d)
def stepsQ (m n : Nat) : D → Bool
  | .tup xs => decide (xs.length = m) && xs.all (idxQ n)
  | _ => false
theorem one_lt (a b : Nat) : decide ([a] < [b]) = decide (a < b) := by
  rw [decide_eq_decide]
  simp [List.cons_lt_cons_iff]
theorem w_ltS1 {S : Store} {Q : D → Store → Prop} {a b : Nat} : wp (ltD (.str ⟨#[a]⟩) (.str ⟨#[b]⟩)) S Q ↔ Q (.bl (decide (a < b))) S := by
  rw [← one_lt a b]
  exact wp_some rfl
theorem w_leS1 {S : Store} {Q : D → Store → Prop} {a b : Nat} : wp (leD (.str ⟨#[a]⟩) (.str ⟨#[b]⟩)) S Q ↔ Q (.bl (decide (a ≤ b))) S := by
  have e : decide (a ≤ b) = !decide ([b] < [a]) := by
    rw [one_lt, Bool.eq_iff_iff]
    simp
  rw [e]
  exact wp_some rfl
def smallQ (c : Nat) : Bool := decide (97 ≤ c) && decide (c ≤ 122)
def riseQ (l : List Nat) : Bool := (l.zip l.tail).all fun p => decide (p.1 < p.2)
def letQ : D → Bool
  | .str z => (decide (1 ≤ z.length) && decide (z.length ≤ 6)) && (riseQ z.cps.toList && z.cps.toList.all smallQ)
  | _ => false
theorem riseQ_iff : ∀ l : List Nat, riseQ l = true ↔ l.Pairwise (· < ·)
  | [] => by simp [riseQ]
  | [a] => by simp [riseQ]
  | a :: b :: r => by
    have e : riseQ (a :: b :: r) = (decide (a < b) && riseQ (b :: r)) := rfl
    rw [e, Bool.and_eq_true, decide_eq_true_iff, riseQ_iff (b :: r), List.pairwise_cons (a := a)]
    constructor
    · rintro ⟨h1, h2⟩
      refine ⟨fun x hx => ?_, h2⟩
      rcases List.mem_cons.mp hx with rfl | hx
      · exact h1
      · exact Nat.lt_trans h1 ((List.pairwise_cons.mp h2).1 x hx)
    · rintro ⟨h1, h2⟩
      exact ⟨h1 b (List.mem_cons_self ..), h2⟩
def placeI (c : Nat) : Int := (c : Int) - 97
theorem sort_rise (l : List Nat) : decide (l.map placeI = sortI (l.map placeI)) = riseQ l := by
  rw [Bool.eq_iff_iff, decide_eq_true_iff, riseQ_iff]
  have e : (l.map placeI).Pairwise (· < ·) ↔ l.Pairwise (· < ·) := by
    rw [List.pairwise_map]
    constructor
    · exact fun h => h.imp fun h => by unfold placeI at h; omega
    · exact fun h => h.imp fun h => by unfold placeI; omega
  rw [← e]
  constructor
  · intro h
    rw [h]
    exact rise_sortI
  · exact fun h => rise_eq h rise_sortI fun k => mem_sortI.symm
theorem eqv_ints : ∀ a b : List Int, PyData.eqvAll (a.map .int) (b.map .int) = decide (a = b)
  | [], [] => by simp [PyData.eqvAll]
  | [], _ :: _ => by simp [PyData.eqvAll]
  | _ :: _, [] => by simp [PyData.eqvAll]
  | x :: a, y :: b => by
    rw [List.map_cons, List.map_cons]
    show (PyData.eqv (.int x) (.int y) && PyData.eqvAll (a.map .int) (b.map .int)) = _
    rw [eqv_ints a b, show PyData.eqv (.int x) (.int y) = decide (x = y) from rfl]
    by_cases c : x = y <;> by_cases d : a = b <;> simp [c, d]
def alphaS : Str := "abcdefghijklmnopqrstuvwxyz"
theorem alpha_list : alphaS.cps.toList = List.range' 97 26 := by decide +kernel
theorem alpha_mem (c : Nat) : decide (c ∈ alphaS.cps.toList) = smallQ c := by
  rw [alpha_list, Bool.eq_iff_iff]
  unfold smallQ
  simp [List.mem_range']
  constructor
  · rintro ⟨i, h1, rfl⟩
    omega
  · exact fun h => ⟨c - 97, by omega, by omega⟩
theorem place_lt {c : Nat} {l : List Nat} {i : Nat} (h : place c l = some i) : i < l.length := (List.getElem?_eq_some_iff.mp (place_some h).1).1
theorem alpha_place {c : Nat} (h : smallQ c = true) : place c alphaS.cps.toList = some (c - 97) := by
  have hm : c ∈ alphaS.cps.toList := by
    have := alpha_mem c
    rw [h] at this
    exact of_decide_eq_true this
  cases e : place c alphaS.cps.toList with
  | none => exact absurd hm (place_none.mp e)
  | some j =>
    have h1 := (place_some e).1
    have h2 := place_lt e
    rw [alpha_list] at h1 h2
    rw [List.length_range'] at h2
    rw [List.getElem?_range' h2] at h1
    have := Option.some.inj h1
    congr 1
    omega
theorem cut_tail (z : Str) : (cutS z (some 1) none).cps.toList = z.cps.toList.tail := by
  unfold cutS
  simp only [HT.sIx]
  rw [if_neg (by decide), ← len_toList, show (1 : Int).toNat = 1 from rfl]
  cases h : z.cps.toList with
  | nil => rfl
  | cons a r =>
    have e : min 1 (a :: r).length = 1 := by simp
    rw [e, List.drop_one, List.tail_cons]
    exact List.take_of_length_le (by simp)
theorem w_zip {f : SEnv → M (List D)} {env : SEnv} {S : Store} {QI : List D × Gd → Store → Prop} : wp (iZipM f env) S QI ↔ wp (f env) S fun ds S1 => ∃ a b p q, ds = [a, b] ∧ srcOf S1 a = some p ∧ srcOf S1 b = some q ∧ QI (zipD p.1 q.1, p.2 ++ q.2) S1 := by
  unfold iZipM
  rw [wp_bnd]
  constructor
  · exact fun h => h.mono fun ds S1 ⟨r, S2, e, q⟩ => by
      split at e
      · rename_i _ a b h0
        dsimp only at e
        split at e
        · rename_i e1 e2
          cases e
          exact ⟨_, _, _, _, rfl, e1, e2, q⟩
        · cases e
      · cases e
  · exact fun h => h.mono fun ds S1 ⟨a, b, p, q, e, e1, e2, h⟩ => by
      subst e
      exact ⟨_, S1, by show (match srcOf S1 a, srcOf S1 b with | some (xs, g1), some (ys, g2) => some ((zipD xs ys, g1 ++ g2), S1) | _, _ => none) = _; rw [e1, e2], h⟩
theorem zipD_get {xs ys : List D} {i : Nat} {y : D} (h : (zipD xs ys)[i]? = some y) : ∃ a b, xs[i]? = some a ∧ ys[i]? = some b ∧ y = .tup [a, b] := by
  unfold zipD at h
  rw [List.getElem?_map] at h
  obtain ⟨p, hp, rfl⟩ := Option.map_eq_some_iff.mp h
  obtain ⟨h1, h2⟩ := List.getElem?_zip_eq_some.mp hp
  exact ⟨_, _, h1, h2, rfl⟩
def lessP : D → D
  | .tup [.str a, .str b] => .bl (decide (a.cps.toList < b.cps.toList))
  | d => d
def smallD : D → D
  | .str x => .bl (match x.cps.toList with | [c] => smallQ c | _ => false)
  | d => d
theorem zip_signs (a b : List Nat) : zipD (a.map fun c => D.str ⟨#[c]⟩) (b.map fun c => D.str ⟨#[c]⟩) = (a.zip b).map fun p => D.tup [.str ⟨#[p.1]⟩, .str ⟨#[p.2]⟩] := by
  unfold zipD
  rw [List.zip_map, List.map_map]
  rfl
theorem w_ninS {S : Store} {c : Nat} {z : Str} {Q : D → Store → Prop} : wp (ninU (.str ⟨#[c]⟩) (.str z)) S Q ↔ Q (.bl (!decide (c ∈ z.cps.toList))) S := wp_some rfl
theorem w_indexS {S : Store} {c i : Nat} {z : Str} {Q : D → Store → Prop} (h : place c z.cps.toList = some i) : wp (mIndexS (.str z) [.str ⟨#[c]⟩]) S Q ↔ Q (.int (i : Nat)) S := wp_some (by unfold mIndexS; simp only [occ_sign, h])
theorem w_sortSet {f : SEnv → M D} {env : SEnv} {S : Store} {Q : D → Store → Prop} : wp (eSortSet f env) S Q ↔ wp (f env) S fun d S1 => wp (sortM d) S1 Q := wp_bnd
theorem intsOf_map : ∀ l : List Int, intsOf (l.map .int) = some l
  | [] => rfl
  | x :: r => by show (intsOf (r.map .int)).map (x :: ·) = _; rw [intsOf_map r]; rfl
theorem w_sortM {S : Store} {Q : D → Store → Prop} {r : Nat} {l : List Int} (h : S[r]? = some (.lst (l.map .int))) (hl : l.length ≤ 63) : wp (sortM (.ref r)) S Q ↔ Q (.ref S.length) (S ++ [.lst ((sortI l).map .int)]) :=
  wp_some (by unfold sortM; simp only [h, intsOf_map, hl, if_true])
theorem w_inFB {S : Store} {Q : D → Store → Prop} {r : Nat} {bs : List Bool} (h : S[r]? = some (.lst (bs.map .bl))) : wp (inU (.bl false) (.ref r)) S Q ↔ Q (.bl (!bs.all id)) S := by
  have e1 : inF (.bl false) (bs.map .bl) = !bs.all id := by
    clear h
    induction bs with
    | nil => rfl
    | cons b r ih =>
      show (b == false || inF (.bl false) (r.map .bl)) = !(b && r.all id)
      rw [ih]
      cases b <;> rfl
  have e2 : (bs.map D.bl).all flatD = true := by
    rw [List.all_map, List.all_eq_true]
    exact fun _ _ => rfl
  refine wp_some ((bnd_eq (show inUB (.bl false) (.ref r) S = some (!bs.all id, S) from ?_)).trans rfl)
  unfold inUB isDct inB seqOf
  simp only [h, Bool.false_eq_true, if_false]
  rw [if_pos ⟨rfl, e2⟩, e1]
def blD (d : D) : D := .bl (blQ d)
def stepsD (m n : Nat) (d : D) : D := .bl (stepsQ m n d)
theorem w_neg {S : Store} {Q : D → Store → Prop} {i : Int} : wp (negD (.int i)) S Q ↔ Q (.int (-i)) S := wp_some rfl
theorem cut_take {xs : List D} {n : Int} (h0 : 0 ≤ n) (h1 : n ≤ xs.length) : cutD xs none (some n) = xs.take n.toNat := by
  unfold cutD
  simp only [HT.sIx]
  rw [if_neg (by omega), List.drop_zero, Nat.sub_zero, Nat.min_eq_left (by omega)]
theorem cut_drop {xs : List D} {n : Int} (h0 : 0 ≤ n) (h1 : n ≤ xs.length) : cutD xs (some n) none = xs.drop n.toNat := by
  unfold cutD
  simp only [HT.sIx]
  rw [if_neg (by omega), Nat.min_eq_left (by omega)]
  exact List.take_of_length_le (by rw [List.length_drop]; exact Nat.le_refl _)
theorem plain_lit (s : Str) (h : s.cps.toList.all (fun c => decide (c < 128)) = true) : Plain s := fun c hc => of_decide_eq_true (List.all_eq_true.mp h c hc)

section
variable {S : Store} {env : SEnv}
def rgOf2 : List D → Option (Int × Int)
  | [.int i, .int j] => some (i, j)
  | _ => none
theorem rgOf2_2 {i j : Int} : rgOf2 [.int i, .int j] = some (i, j) := rfl
theorem w_rg2 {f : SEnv → M (List D)} {QI : List D × Gd → Store → Prop} : wp (iRg2M f env) S QI ↔ wp (f env) S fun ds S1 => ∃ p : Int × Int, rgOf2 ds = some p ∧ (-(2 ^ 62) ≤ p.1 ∧ p.1 < 2 ^ 62 ∧ -(2 ^ 62) ≤ p.2 ∧ p.2 < 2 ^ 62) ∧ QI (rng p.1 (p.2 - p.1).toNat, []) S1 := by
  unfold iRg2M
  rw [wp_bnd]
  constructor
  · exact fun h => h.mono fun ds S1 h => by
      split at h
      · split at h
        · exact ⟨(_, _), rfl, by assumption, wp_ret.mp h⟩
        · exact (w_fail.mp h).elim
      · exact (w_fail.mp h).elim
  · exact fun h => h.mono fun ds S1 ⟨p, e, c, q⟩ => by
      unfold rgOf2 at e
      split at e
      · cases e
        simp only at c
        show wp (if _ then _ else _) S1 QI
        rw [if_pos c]
        exact wp_ret.mpr q
      · cases e
theorem w_rev {f : SEnv → M D} {QI : List D × Gd → Store → Prop} : wp (iRevM f env) S QI ↔ wp (f env) S fun d S1 => ∃ p, (match d with
    | .ref r => match S1[r]? with
      | some (.lst xs) => some (xs.reverse, [(r, xs)])
      | _ => none
    | .tup xs => some (xs.reverse, [])
    | _ => (none : Option (List D × Gd))) = some p ∧ QI p S1 := by
  unfold iRevM
  rw [wp_bnd]
  constructor
  · exact fun h => h.mono fun d S1 ⟨a, S2, e, q⟩ => by
      dsimp only at e
      split at e
      · split at e
        · rename_i _ _ r _ xs e0
          cases e
          exact ⟨_, by simp only [e0], q⟩
        · cases e
      · cases e
        exact ⟨_, rfl, q⟩
      · cases e
  · exact fun h => h.mono fun d S1 ⟨p, e, q⟩ => by
      split at e
      · split at e
        · rename_i _ r _ xs e0
          cases e
          exact ⟨_, S1, by simp only [e0], q⟩
        · cases e
      · cases e
        exact ⟨_, S1, rfl, q⟩
      · cases e
/-! is None -/
def nonQ : D → Bool
  | .non => true
  | _ => false
theorem w_isNh {N e : Nat} {d : D} {Q : D → Store → Prop} (h : Th N e d) : wp (isD d .non) S Q ↔ Q (.bl (nonQ d)) S := by
  rcases h.cases with ⟨e', xs, rfl, rfl, hl, hx⟩ | rfl | ⟨b, rfl⟩ | ⟨i, rfl⟩ | ⟨z, rfl, hz, hl⟩ <;> exact wp_some rfl
theorem w_notNh {N e : Nat} {d : D} {Q : D → Store → Prop} (h : Th N e d) : wp (notD d .non) S Q ↔ Q (.bl (!nonQ d)) S := by
  rcases h.cases with ⟨e', xs, rfl, rfl, hl, hx⟩ | rfl | ⟨b, rfl⟩ | ⟨i, rfl⟩ | ⟨z, rfl, hz, hl⟩ <;> exact wp_some rfl
theorem w_isN {Q : D → Store → Prop} : wp (isD .non .non) S Q ↔ Q (.bl true) S := wp_some rfl
theorem w_notN {Q : D → Store → Prop} : wp (notD .non .non) S Q ↔ Q (.bl false) S := wp_some rfl
/-- a for that ends at the first thing that is not as p says -/
theorem wp_all {g : Gd} {tgt : D → SEnv → M SEnv} {body : SEnv → M (Fl × SEnv)} {Q : Fl × SEnv → Store → Prop} {xs : List D} (p : D → Bool) (J : SEnv → Prop)
    (hg : ∀ S1, Grow S S1 → gdOk S1 g)
    (step : ∀ (i : Nat) (x : D) (env1 : SEnv) (S1 : Store), xs[i]? = some x → J env1 → Grow S S1 → wp (tgt x env1) S1 fun env2 S2 => wp (body env2) S2 fun r S3 => Grow S1 S3 ∧ ((r.1 = .nx ∧ p x = true ∧ J r.2) ∨ (r.1 = .rt (.bl false) ∧ p x = false)))
    (h0 : J env)
    (yes : xs.all p = true → ∀ env' S', J env' → Grow S S' → Q (.nx, env') S')
    (no : xs.all p = false → ∀ env' S', Grow S S' → Q (.rt (.bl false), env') S') : wp (loopM g tgt body xs env) S Q := by
  refine wp_loop (fun i env1 S1 => J env1 ∧ Grow S S1 ∧ (xs.take i).all p = true) (fun i env1 S1 h => hg S1 h.2.1) ?_ ?_ ⟨h0, .refl, rfl⟩
  · rintro i x env1 S1 hx ⟨hJ, hG, hall⟩
    refine (step i x env1 S1 hx hJ hG).mono fun env2 S2 h => h.mono fun r S3 ⟨hG3, h⟩ => ?_
    obtain ⟨fl, env3⟩ := r
    rcases h with ⟨h1, h2, h3⟩ | ⟨h1, h2⟩
    · dsimp only at h1 h3
      subst h1
      refine ⟨h3, hG.trans hG3, ?_⟩
      rw [List.take_add_one, hx, List.all_append, hall]
      simp [h2]
    · dsimp only at h1
      subst h1
      refine no ?_ _ _ (hG.trans hG3)
      rw [Bool.eq_false_iff]
      intro hc
      have := List.all_eq_true.mp hc x (List.mem_of_getElem? hx)
      rw [h2] at this
      cases this
  · rintro env1 S1 ⟨hJ, hG, hall⟩
    rw [List.take_length] at hall
    exact yes hall env1 S1 hJ hG
/-- two fors in a comprehension, told by src, p and f -/
theorem w_lc2G {fi fi1 : SEnv → M (List D × Gd)} {tgt tgt1 : D → SEnv → M SEnv} {tt1 : SEnv → M Bool} {te : SEnv → M D} {vs us : List Nat} {Q : D → Store → Prop} {xs : List D} {g : Gd} (src : D → List D) (p : D → Bool) (f : D → D)
    (h0 : fi env S = some ((xs, g), S)) (hg : ∀ S1, Grow S S1 → gdOk S1 g) (hz : (xs.flatMap fun x => (src x).filter p).length < sizeLine)
    (step : ∀ (i : Nat) (x : D) (S1 : Store), xs[i]? = some x → Grow S S1 → wp (tgt x (wipeE env vs)) S1 fun env1 S2 => wp (fi1 env1) S2 fun pp S4 => pp = (src x, []) ∧ Grow S1 S4 ∧ ∀ (y : D) (S5 : Store), y ∈ src x → Grow S S5 →
      wp (tgt1 y (wipeE env1 us)) S5 fun env2 S6 => wp (tt1 env2) S6 fun b1 S7 => b1 = p y ∧ Grow S5 S7 ∧ (b1 = true → wp (te env2) S7 fun d S8 => d = f y ∧ Grow S7 S8))
    (q : ∀ S', Grow S S' → S'[S.length]? = some (.lst ((xs.flatMap fun x => (src x).filter p).map f)) → Q (.ref S.length) S') : wp (eLc2 fi tgt bYes fi1 tgt1 tt1 te vs us env) S Q := by
  unfold eLc2
  rw [wp_bnd, wp_some h0, wp_bnd, wp_some (show newLst S = some (S.length, S ++ [.lst []]) from rfl)]
  have inn : ∀ (ys : List D) (env1 : SEnv), (∀ (y : D) (S5 : Store), y ∈ ys → Grow S S5 →
      wp (tgt1 y (wipeE env1 us)) S5 fun env2 S6 => wp (tt1 env2) S6 fun b1 S7 => b1 = p y ∧ Grow S5 S7 ∧ (b1 = true → wp (te env2) S7 fun d S8 => d = f y ∧ Grow S7 S8)) →
      ∀ (acc : List D) (S5 : Store) (R : Unit → Store → Prop), Grow S S5 → S5[S.length]? = some (.lst (acc.map f)) → acc.length + (ys.filter p).length < sizeLine →
      (∀ S6, Grow S S6 → S6[S.length]? = some (.lst ((acc ++ ys.filter p).map f)) → R () S6) → wp (lcInM [] S.length tgt1 tt1 te (wipeE env1 us) ys) S5 R := by
    intro ys env1
    induction ys with
    | nil =>
      intro _ acc S5 R hG hk _ r
      show wp (gdM [] (ret ())) S5 R
      rw [wp_gd (gdOk_nil _), wp_ret]
      exact r S5 hG (by rw [List.filter_nil, List.append_nil]; exact hk)
    | cons y ys ih =>
      intro hst acc S5 R hG hk hl r
      show wp (gdM [] (bnd (tgt1 y (wipeE env1 us)) fun env1' => bnd (tt1 env1') fun b => if b then bnd (te env1') fun d => bnd (pushM S.length d) fun _ => lcInM [] S.length tgt1 tt1 te (wipeE env1 us) ys else lcInM [] S.length tgt1 tt1 te (wipeE env1 us) ys)) S5 R
      rw [wp_gd (gdOk_nil _), wp_bnd]
      refine (hst y S5 (List.mem_cons_self ..) hG).mono fun env2 S6 h => ?_
      rw [wp_bnd]
      refine h.mono fun b1 S7 ⟨hb, hG7, h⟩ => ?_
      have hst' : ∀ (y : D) (S5 : Store), y ∈ ys → Grow S S5 →
        wp (tgt1 y (wipeE env1 us)) S5 fun env2 S6 => wp (tt1 env2) S6 fun b1 S7 => b1 = p y ∧ Grow S5 S7 ∧ (b1 = true → wp (te env2) S7 fun d S8 => d = f y ∧ Grow S7 S8) := fun z S z1 z2 => hst z S (List.mem_cons_of_mem _ z1) z2
      cases b1 with
      | true =>
        rw [if_pos rfl, wp_bnd]
        refine (h rfl).mono fun d S8 ⟨hd, hG8⟩ => ?_
        subst hd
        rw [List.filter_cons, ← hb, if_pos rfl, List.length_cons] at hl
        have e8 := hG8.get (hG7.get hk)
        have ep : pushM S.length (f y) S8 = some ((), S8.set S.length (.lst (acc.map f ++ [f y]))) := by
          unfold pushM
          rw [e8]
          exact if_pos (by rw [List.length_map]; omega)
        rw [wp_bnd, wp_some ep]
        have hG' : Grow S (S8.set S.length (.lst (acc.map f ++ [f y]))) := ((hG.trans hG7).trans hG8).set (Nat.le_refl _)
        refine ih hst' (acc ++ [y]) _ R hG' ?_ (by rw [List.length_append]; simp only [List.length_singleton]; omega) fun S9 g1 g2 => r S9 g1 ?_
        · rw [List.getElem?_set_self (lt_of_get e8), List.map_append]
          rfl
        · rw [List.filter_cons, ← hb, if_pos rfl]
          rw [List.append_assoc] at g2
          exact g2
      | false =>
        rw [if_neg Bool.false_ne_true]
        rw [List.filter_cons, ← hb, if_neg Bool.false_ne_true] at hl
        refine ih hst' acc S7 R (hG.trans hG7) (hG7.get hk) hl fun S9 g1 g2 => r S9 g1 ?_
        rw [List.filter_cons, ← hb, if_neg Bool.false_ne_true]
        exact g2
  have out : ∀ (ys zs : List D) (S5 : Store), xs = zs ++ ys → Grow S S5 → S5[S.length]? = some (.lst ((zs.flatMap fun x => (src x).filter p).map f)) → wp (lcOutM g S.length tgt bYes fi1 tgt1 tt1 te us (wipeE env vs) ys) S5 Q := by
    intro ys
    induction ys with
    | nil =>
      intro zs S5 hxs hG hk
      show wp (gdM g (ret (.ref S.length))) S5 Q
      rw [wp_gd (hg _ hG), wp_ret]
      rw [List.append_nil] at hxs
      subst hxs
      exact q S5 hG hk
    | cons x ys ih =>
      intro zs S5 hxs hG hk
      show wp (gdM g (bnd (tgt x (wipeE env vs)) fun env1 => bnd (bYes env1) fun b => if b then bnd (fi1 env1) fun p => bnd (lcInM p.2 S.length tgt1 tt1 te (wipeE env1 us) p.1) fun _ => lcOutM g S.length tgt bYes fi1 tgt1 tt1 te us (wipeE env vs) ys else lcOutM g S.length tgt bYes fi1 tgt1 tt1 te us (wipeE env vs) ys)) S5 Q
      rw [wp_gd (hg _ hG), wp_bnd]
      have hx : xs[zs.length]? = some x := by rw [hxs, List.getElem?_append_right (Nat.le_refl _), Nat.sub_self]; rfl
      refine (step zs.length x S5 hx hG).mono fun env1 S6 h => ?_
      rw [wp_bnd, w_yes, if_pos rfl, wp_bnd]
      refine h.mono fun pp S7 ⟨hp, hG7, h⟩ => ?_
      subst hp
      rw [wp_bnd]
      have hl : ((zs.flatMap fun x => (src x).filter p)).length + ((src x).filter p).length < sizeLine := by
        rw [hxs, List.flatMap_append, List.flatMap_cons, List.length_append, List.length_append] at hz
        omega
      refine inn (src x) env1 h (zs.flatMap fun x => (src x).filter p) S7 _ (hG.trans hG7) (hG7.get hk) hl fun S9 g1 g2 => ?_
      refine ih (zs ++ [x]) S9 (by rw [hxs, List.append_assoc]; rfl) g1 ?_
      rw [List.flatMap_append, List.flatMap_cons, List.flatMap_nil, List.append_nil]
      exact g2
  exact out xs [] _ rfl Grow.refl.app get_new
end
end TS
set_option Elab.async false
set_option linter.all false
set_option maxRecDepth 100000
namespace TS
open PySem PySem.Spec PyProof.Rows L2
/-- a comprehension that draws; what is made at each place is told by P -/
theorem w_lcD {fi : SEnv → M (List D × Gd)} {tgt : D → SEnv → M SEnv} {te : SEnv → M D} {vs : List Nat} {env : SEnv} {S : Store} {Q : D → Store → Prop} {xs : List D} {r q : Nat} (P : Nat → D → Prop)
    (h0 : fi env S = some ((xs, []), S)) (hD : Dr r q S) (hz : xs.length < sizeLine)
    (step : ∀ (i : Nat) (x : D) (S1 : Store), xs[i]? = some x → Dr r q S1 → Kp r S S1 → wp (tgt x (wipeE env vs)) S1 fun env1 S2 => wp (te env1) S2 fun d S3 => P i d ∧ Dr r q S3 ∧ Kp r S1 S3)
    (k : ∀ (ds : List D) S', ds.length = xs.length → (∀ i d, ds[i]? = some d → P i d) → Dr r q S' → Kp r S S' → S'[S.length]? = some (.lst ds) → Q (.ref S.length) S') : wp (eLc fi tgt bYes te vs env) S Q := by
  have hr : S.length ≠ r := Nat.ne_of_gt hD.lt.1
  have hq : S.length ≠ q := Nat.ne_of_gt hD.lt.2
  refine wp_lc (xs := xs) (g := []) (S1 := S) h0 (fun j acc S3 => acc.length = j ∧ (∀ i d, acc[i]? = some d → P i d) ∧ S3[S.length]? = some (.lst acc) ∧ Dr r q S3 ∧ Kp r S S3)
    ⟨rfl, (fun i d h => by simp at h), get_new, hD.app, Kp.app⟩ (fun _ _ _ ⟨_, _, e, _⟩ => e) (fun _ _ _ _ => gdOk_nil _) (fun j acc S3 ⟨e, _⟩ => by rw [e]; exact Nat.le_refl _) hz ?_ ?_
  · rintro i x acc S3 hx ⟨rfl, hp, hk, hD3, hK3⟩
    refine (step acc.length x S3 hx hD3 hK3).mono fun env1 S4 h => ?_
    rw [w_yes, if_pos rfl]
    refine h.mono fun d S5 ⟨hd, hD5, hK5⟩ => ?_
    have e5 : S5[S.length]? = some (.lst acc) := by rw [hK5.get _ (lt_of_get hk) hr]; exact hk
    refine ⟨e5, by rw [List.length_append]; rfl, fun i d' h' => ?_, by rw [List.getElem?_set_self (lt_of_get e5)], hD5.set hr hq, (hK3.trans hK5).set (Nat.le_refl _)⟩
    by_cases c : i < acc.length
    · rw [List.getElem?_append_left c] at h'
      exact hp i d' h'
    · have hl := (List.getElem?_eq_some_iff.mp h').1
      rw [List.length_append, List.length_singleton] at hl
      have : i = acc.length := by omega
      subst this
      rw [List.getElem?_append_right (Nat.le_refl _), Nat.sub_self] at h'
      cases h'
      exact hd
  · rintro acc S3 ⟨e, hp, hk, hD3, hK3⟩
    exact k acc S3 e hp hD3 hK3 hk
/-- a for that draws and appends one thing in each turn -/
theorem wp_appD {tgt : D → SEnv → M SEnv} {body : SEnv → M (Fl × SEnv)} {env : SEnv} {S S0 : Store} {Q : Fl × SEnv → Store → Prop} {xs : List D} {r q L : Nat} (P : Nat → D → Prop) (J : SEnv → Prop) (h0 : J env) (hk0 : Kp r S0 S) (hD0 : Dr r q S) (hL0 : S[L]? = some (.lst []))
    (step : ∀ (i : Nat) (x : D) (env1 : SEnv) (S1 : Store) (ds : List D), xs[i]? = some x → J env1 → Kp r S0 S1 → Dr r q S1 → S1[L]? = some (.lst ds) → ds.length = i → wp (tgt x env1) S1 fun env2 S2 => wp (body env2) S2 fun rr S3 => rr.1 = .nx ∧ J rr.2 ∧ Kp r S0 S3 ∧ Dr r q S3 ∧ ∃ d, P i d ∧ S3[L]? = some (.lst (ds ++ [d])))
    (fin : ∀ (env' : SEnv) (S' : Store) (ds : List D), J env' → Kp r S0 S' → Dr r q S' → ds.length = xs.length → (∀ i d, ds[i]? = some d → P i d) → S'[L]? = some (.lst ds) → Q (.nx, env') S') : wp (loopM [] tgt body xs env) S Q := by
  refine wp_loop (fun i env1 S1 => ∃ ds : List D, J env1 ∧ Kp r S0 S1 ∧ Dr r q S1 ∧ S1[L]? = some (.lst ds) ∧ ds.length = i ∧ (∀ i d, ds[i]? = some d → P i d)) (fun _ _ _ _ => gdOk_nil _) ?_ ?_ ⟨[], h0, hk0, hD0, hL0, rfl, fun i d h => by simp at h⟩
  · rintro i x env1 S1 hx ⟨ds, hJ, hK, hD, hL, hl, hp⟩
    refine (step i x env1 S1 ds hx hJ hK hD hL hl).mono fun env2 S2 h => h.mono fun rr S3 ⟨hf, hJ3, hK3, hD3, d, hd, hL3⟩ => ?_
    obtain ⟨fl, env3⟩ := rr
    dsimp only at hf hJ3
    subst hf
    refine ⟨ds ++ [d], hJ3, hK3, hD3, hL3, by rw [List.length_append, hl]; rfl, fun i2 d' h' => ?_⟩
    by_cases c : i2 < ds.length
    · rw [List.getElem?_append_left c] at h'
      exact hp i2 d' h'
    · have hl2 := (List.getElem?_eq_some_iff.mp h').1
      rw [List.length_append, List.length_singleton] at hl2
      have : i2 = ds.length := by omega
      subst this
      rw [List.getElem?_append_right (Nat.le_refl _), Nat.sub_self] at h'
      cases h'
      rw [hl]
      exact hd
  · rintro env1 S1 ⟨ds, hJ, hK, hD, hL, hl, hp⟩
    exact fin env1 S1 ds hJ hK hD hl hp hL
theorem app_step {L r q : Nat} {S0 S2 : Store} {ds : List D} {d : D} (hL : S0.length ≤ L) (hD : Dr r q S2) (hr : L ≠ r) (hq : L ≠ q) (h : S2[L]? = some (.lst ds)) (hk : Kp r S0 S2) : Kp r S0 (S2.set L (.lst (ds ++ [d]))) ∧ Dr r q (S2.set L (.lst (ds ++ [d]))) ∧ (S2.set L (.lst (ds ++ [d])))[L]? = some (.lst (ds ++ [d])) :=
  ⟨hk.set hL, hD.set hr hq, by rw [List.getElem?_set_self (lt_of_get h)]⟩
theorem all_idx {p : D → Bool} {ds : List D} (h : ∀ (i : Nat) (d : D), ds[i]? = some d → p d = true) : ds.all p = true := List.all_eq_true.mpr fun x hx => by
  obtain ⟨i, hi⟩ := List.getElem?_of_mem hx
  exact h i x hi
theorem mem_idx {P : D → Prop} {ds : List D} (h : ∀ (i : Nat) (d : D), ds[i]? = some d → P d) : ∀ x ∈ ds, P x := fun x hx => by
  obtain ⟨i, hi⟩ := List.getElem?_of_mem hx
  exact h i x hi
theorem rg1_eq {i : Nat} {env : SEnv} {S : Store} {n : Nat} (h : env[i]? = some (some (.int (n : Nat)))) (hn : n ≤ 100000) : iRg1M (aCons (eVar i) aNil) env S = some ((rng 0 n, []), S) := by
  refine (bnd_eq (show aCons (eVar i) aNil env S = some ([.int (n : Nat)], S) from ?_)).trans ?_
  · refine (bnd_eq (show eVar i env S = some (.int (n : Nat), S) by unfold eVar; rw [h])).trans rfl
  · show (if -(2 ^ 62) ≤ (n : Int) ∧ (n : Int) < 2 ^ 62 then ret (rng 0 (n : Int).toNat, []) else fail) S = _
    rw [if_pos ⟨by omega, by omega⟩]
    rfl
theorem int_nat {i : Int} (h : 0 ≤ i) : ∃ n : Nat, i = (n : Int) := ⟨i.toNat, by omega⟩
end TS
namespace TS
open PySem PySem.Spec PyProof.Rows L2
/-- an if without an else, whose ways come together -/
theorem w_join {c : SEnv → M Bool} {f R : SEnv → M (Fl × SEnv)} {env : SEnv} {S : Store} {QF : Fl × SEnv → Store → Prop} (I : SEnv → Store → Prop)
    (h1 : wp (c env) S fun b S1 => if b = true then wp (f env) S1 (fun r S2 => r.1 = .nx ∧ I r.2 S2) else I env S1) (h2 : ∀ env' S', I env' S' → wp (R env') S' QF) : wp (sSeq (sIf c f sNx) R env) S QF := by
  rw [w_seq, w_sIf]
  refine h1.mono fun b S1 h => ?_
  cases b with
  | true =>
    rw [if_pos rfl] at h ⊢
    refine h.mono fun r S2 ⟨e, hI⟩ => ?_
    obtain ⟨fl, env2⟩ := r
    dsimp only at e hI
    subst e
    exact h2 env2 S2 hI
  | false =>
    rw [if_neg Bool.false_ne_true] at h ⊢
    rw [w_nx]
    exact h2 env S1 h
theorem w_seqA {f R : SEnv → M (Fl × SEnv)} {env : SEnv} {S : Store} {QF : Fl × SEnv → Store → Prop} (h : wp (f env) S fun r S1 => r.1 = .nx ∧ wp (R r.2) S1 QF) : wp (sSeq f R env) S QF := by
  rw [w_seq]
  refine h.mono fun r S1 ⟨e, h⟩ => ?_
  obtain ⟨fl, env2⟩ := r
  dsimp only at e h
  subst e
  exact h
end TS
set_option Elab.async false
set_option linter.all false
set_option maxRecDepth 100000
namespace TS
open PySem PySem.Spec PyProof.Rows L2
def flatB (N : Nat) : D → Bool
  | .non => true
  | .bl _ => true
  | .int _ => true
  | .str z => z.cps.toList.all (fun c => decide (c < 128)) && decide (z.length ≤ N)
  | _ => false
def thB (N : Nat) : Nat → D → Bool
  | 0, d => flatB N d
  | e + 1, d => match d with
    | .tup xs => decide (xs.length ≤ N) && xs.all (thB N e)
    | d => flatB N d
theorem flatB_ok {N : Nat} {d : D} (h : flatB N d = true) : FlatT N d := by
  cases d with
  | non => trivial
  | bl b => trivial
  | int i => trivial
  | str z =>
    have h' := (Bool.and_eq_true _ _).mp h
    exact ⟨plain_lit z h'.1, of_decide_eq_true h'.2⟩
  | _ => cases h
theorem thB_ok {N : Nat} : ∀ {e : Nat} {d : D}, thB N e d = true → Th N e d
  | 0, d, h => flatB_ok h
  | e + 1, d, h => by
    cases d with
    | tup xs =>
      have h' := (Bool.and_eq_true _ _).mp h
      exact ⟨of_decide_eq_true h'.1, fun x hx => thB_ok (List.all_eq_true.mp h'.2 x hx)⟩
    | _ => exact FlatT.th (flatB_ok (show flatB N _ = true from h))
theorem thBs_ok {N e : Nat} {xs : List D} (h : xs.all (thB N e) = true) : ∀ x ∈ xs, Th N e x := fun x hx => thB_ok (List.all_eq_true.mp h x hx)
section
variable {S : Store} {env : SEnv}
theorem w_addL {i j : Nat} {xs ys : List D} {Q : D → Store → Prop} (h1 : S[i]? = some (.lst xs)) (h2 : S[j]? = some (.lst ys)) (hz : xs.length + ys.length ≤ sizeLine) : wp (addD (.ref i) (.ref j)) S Q ↔ Q (.ref S.length) (S ++ [.lst (xs ++ ys)]) :=
  wp_some (by unfold addD; simp only [h1, h2, hz, if_true])
theorem w_par2 {i j : Nat} {f : SEnv → M (List D)} {QF : Fl × SEnv → Store → Prop} : wp (sPar2 i j f env) S QF ↔ wp (f env) S fun ds S1 => ∃ a b, ds = [a, b] ∧ QF (.nx, (env.set i (some a)).set j (some b)) S1 := by
  unfold sPar2
  rw [wp_bnd]
  constructor
  · exact fun h => h.mono fun ds S1 h => by
      split at h
      · exact ⟨_, _, rfl, wp_ret.mp h⟩
      · exact (w_fail.mp h).elim
  · exact fun h => h.mono fun ds S1 ⟨a, b, e, h⟩ => by
      subst e
      exact wp_ret.mpr h
/-- a comprehension without a test that only adds to the store; what is made is told by P -/
theorem w_lcP {fi : SEnv → M (List D × Gd)} {tgt : D → SEnv → M SEnv} {te : SEnv → M D} {vs : List Nat} {S0 : Store} {Q : D → Store → Prop} {xs : List D} {g : Gd} (P : D → Prop)
    (h0 : fi env S0 = some ((xs, g), S)) (hg : ∀ S', Grow S S' → gdOk S' g) (hz : xs.length < sizeLine)
    (step : ∀ (i : Nat) (x : D) (S1 : Store), xs[i]? = some x → Grow S S1 → wp (tgt x (wipeE env vs)) S1 fun env1 S2 => wp (te env1) S2 fun d S3 => P d ∧ Grow S1 S3)
    (q : ∀ (ds : List D) S', ds.length = xs.length → (∀ d ∈ ds, P d) → Grow S S' → S'[S.length]? = some (.lst ds) → Q (.ref S.length) S') : wp (eLc fi tgt bYes te vs env) S0 Q := by
  refine wp_lc (xs := xs) (g := g) (S1 := S) h0 (fun j acc S3 => acc.length = j ∧ (∀ d ∈ acc, P d) ∧ S3[S.length]? = some (.lst acc) ∧ Grow S S3) ⟨rfl, (fun _ h => nomatch h), get_new, Grow.refl.app⟩ (fun _ _ _ ⟨_, _, e, _⟩ => e) (fun _ _ _ ⟨_, _, _, e⟩ => hg _ e)
    (fun j acc S3 ⟨e, _⟩ => by rw [e]; exact Nat.le_refl _) hz ?_ ?_
  · rintro i x acc S3 hx ⟨rfl, hp, hk, hG⟩
    refine (step acc.length x S3 hx hG).mono fun env1 S4 h => ?_
    rw [w_yes, if_pos rfl]
    refine h.mono fun d S5 ⟨hd, hG5⟩ => ?_
    have e5 := hG5.get hk
    refine ⟨e5, by rw [List.length_append]; rfl, fun y hy => ?_, by rw [List.getElem?_set_self (lt_of_get e5)], (hG.trans hG5).set (Nat.le_refl _)⟩
    rcases List.mem_append.mp hy with hy | hy
    · exact hp y hy
    · rw [List.mem_singleton.mp hy]
      exact hd
  · rintro acc S3 ⟨e, hp, hk, hG⟩
    exact q acc S3 e hp hG hk
theorem Kp.dr {T r q : Nat} {S S' : Store} (h : Kp T S S') (d : Dr r q S) (h1 : T ≠ r) (h2 : T ≠ q) : Dr r q S' := by
  obtain ⟨row, a, seed, e1, e2, h3⟩ := d.ex
  exact ⟨d.ne, row, a, seed, by rw [h.get _ d.lt.1 (Ne.symm h1)]; exact e1, by rw [h.get _ d.lt.2 (Ne.symm h2)]; exact e2, h3⟩
theorem Kp.gd {T i : Nat} {xs : List D} {S S' : Store} (h : Kp T S S') (e : S[i]? = some (.lst xs)) (hne : i ≠ T) : gdOk S' [(i, xs)] := fun p hp => by
  rw [List.mem_singleton.mp hp]
  show S'[i]? = _
  rw [h.get _ (lt_of_get e) hne]
  exact e
/-- things that are put into the list T -/
structure Put (N e T n : Nat) (S : Store) : Prop where
  ex : ∃ ds : List D, S[T]? = some (.lst ds) ∧ (∀ d ∈ ds, Th N e d) ∧ ds.length ≤ n
theorem Put.mono {N e T n n' : Nat} (h : Put N e T n S) (hn : n ≤ n') : Put N e T n' S := by
  obtain ⟨ds, h1, h2, h3⟩ := h.ex
  exact ⟨ds, h1, h2, by omega⟩
theorem Put.grow {N e T n : Nat} {S' : Store} (h : Put N e T n S) (g : Grow S S') : Put N e T n S' := by
  obtain ⟨ds, h1, h2, h3⟩ := h.ex
  exact ⟨ds, g.get h1, h2, h3⟩
theorem Put.kp {N e T n r : Nat} {S' : Store} (h : Put N e T n S) (g : Kp r S S') (hne : T ≠ r) : Put N e T n S' := by
  obtain ⟨ds, h1, h2, h3⟩ := h.ex
  exact ⟨ds, by rw [g.get _ (lt_of_get h1) hne]; exact h1, h2, h3⟩
theorem Put.lt {N e T n : Nat} (h : Put N e T n S) : T < S.length := by
  obtain ⟨ds, h1, _⟩ := h.ex
  exact lt_of_get h1
/-- one thing is put -/
theorem w_put {N e T n : Nat} {d : D} {Q : D → Store → Prop} (h : Put N e T n S) (hn : n ≤ 50000) (hd : Th N e d) (k : ∀ S', Put N e T (n + 1) S' → Kp T S S' → Q .non S') : wp (mAppend (.ref T) [d]) S Q := by
  obtain ⟨ds, h1, h2, h3⟩ := h.ex
  rw [w_app h1 (sz_lt (by omega))]
  refine k _ ⟨ds ++ [d], by rw [List.getElem?_set_self (lt_of_get h1)], fun x hx => ?_, by rw [List.length_append]; simp only [List.length_singleton]; omega⟩ ⟨by rw [List.length_set]; exact Nat.le_refl _, fun i _ hr => List.getElem?_set_ne (Ne.symm hr)⟩
  rcases List.mem_append.mp hx with hx | hx
  · exact h2 x hx
  · rw [List.mem_singleton.mp hx]
    exact hd
theorem w_tyPut {N e T n : Nat} {QU : Unit → Store → Prop} (h : Put N e T n S) : wp (tyM "list" (.ref T)) S QU ↔ QU () S := by
  obtain ⟨ds, h1, _⟩ := h.ex
  exact w_tyL h1
/-- a for whose turns put c things each -/
theorem wp_puts {tgt : D → SEnv → M SEnv} {body : SEnv → M (Fl × SEnv)} {Q : Fl × SEnv → Store → Prop} {xs : List D} {g : Gd} {N e T n c : Nat} (J : SEnv → Prop) (hJ : J env) (hg : ∀ S', Kp T S S' → gdOk S' g) (hT : Put N e T n S)
    (step : ∀ (i : Nat) (x : D) (env1 : SEnv) (S1 : Store), xs[i]? = some x → J env1 → Kp T S S1 → Put N e T (n + c * i) S1 → wp (tgt x env1) S1 fun env2 S2 => wp (body env2) S2 fun rr S3 => rr.1 = .nx ∧ J rr.2 ∧ Kp T S S3 ∧ Put N e T (n + c * i + c) S3)
    (fin : ∀ (env' : SEnv) (S' : Store), J env' → Kp T S S' → Put N e T (n + c * xs.length) S' → Q (.nx, env') S') : wp (loopM g tgt body xs env) S Q := by
  refine wp_loop (fun i env1 S1 => J env1 ∧ Kp T S S1 ∧ Put N e T (n + c * i) S1) (fun i env1 S1 h => hg S1 h.2.1) ?_ ?_ ⟨hJ, .refl, hT⟩
  · rintro i x env1 S1 hx ⟨h1, h2, h3⟩
    refine (step i x env1 S1 hx h1 h2 h3).mono fun env2 S2 h => h.mono fun rr S3 ⟨hf, a1, a2, a3⟩ => ?_
    obtain ⟨fl, env3⟩ := rr
    dsimp only at hf a1
    subst hf
    exact ⟨a1, a2, a3.mono (by rw [Nat.mul_add, Nat.mul_one, Nat.add_assoc]; exact Nat.le_refl _)⟩
  · rintro env1 S1 ⟨h1, h2, h3⟩
    exact fin env1 S1 h1 h2 h3
end
end TS
set_option Elab.async false
set_option linter.all false
set_option maxRecDepth 100000
namespace TS
open PySem PySem.Spec PyProof.Rows L2
/-! ### len(set(xs)) of integers -/
theorem nodup_len : ∀ {l m : List Int}, l.Nodup → m.Nodup → (∀ k, k ∈ l ↔ k ∈ m) → l.length = m.length := fun hl hm h => ((List.perm_ext_iff_of_nodup hl hm).mpr h).length_eq
theorem sortI_nodup {l : List Int} : (sortI l).Nodup := (rise_sortI (l := l)).imp fun h => by omega
theorem sortI_of_nodup {l : List Int} (h : l.Nodup) : (sortI l).length = l.length := nodup_len sortI_nodup h fun k => mem_sortI
theorem insI_len {x : Int} : ∀ {l : List Int}, (insI x l).length ≤ l.length + 1
  | [] => Nat.le_refl _
  | y :: r => by
    unfold insI
    split
    · exact Nat.le_refl _
    · split
      · exact Nat.le_succ _
      · rw [List.length_cons, List.length_cons]
        have := @insI_len x r
        omega
theorem insI_mem {x : Int} : ∀ {l : List Int}, l.Pairwise (· < ·) → x ∈ l → (insI x l).length = l.length
  | [], _, h => absurd h List.not_mem_nil
  | y :: r, hp, h => by
    obtain ⟨h1, h2⟩ := List.pairwise_cons.mp hp
    unfold insI
    rcases List.mem_cons.mp h with rfl | h
    · rw [if_neg (Int.lt_irrefl _), if_pos rfl]
    · have := h1 x h
      rw [if_neg (by omega), if_neg (by omega), List.length_cons, List.length_cons, insI_mem h2 h]
theorem sortI_len_le : ∀ {l : List Int}, (sortI l).length ≤ l.length
  | [] => Nat.le_refl _
  | x :: r => by
    unfold sortI
    have := @insI_len x (sortI r)
    have := @sortI_len_le r
    rw [List.length_cons]
    omega
theorem sortI_nodup_iff : ∀ {l : List Int}, (sortI l).length = l.length ↔ l.Nodup
  | [] => by simp [sortI]
  | x :: r => by
    constructor
    · intro h
      unfold sortI at h
      have h1 := @sortI_len_le r
      have h2 := @insI_len x (sortI r)
      rw [List.length_cons] at h
      by_cases c : x ∈ r
      · rw [insI_mem rise_sortI (mem_sortI.mpr c)] at h
        omega
      · exact List.nodup_cons.mpr ⟨c, sortI_nodup_iff.mp (by omega)⟩
    · exact sortI_of_nodup
section
variable {X : Cx}
theorem setR_count {w : World} {h : Heap} {a : Addr} {ns : List Int} {c : Nat} (R : SetR w h a (fun j => decide (j ∈ ns)) c) : c = (sortI ns).length := by
  obtain ⟨o, es, ep, t, ho, hx, hd, g, nd, hm, hb, hf, hn, _⟩ := R
  have e : es.size = (es.toList.map L2.keyOf).length := by rw [List.length_map, Array.length_toList]
  rw [← hn, e]
  exact nodup_len nd sortI_nodup fun k => by rw [← hm k, decide_eq_true_iff, mem_sortI]
def rLenSetO (X : Cx) : List V → Hp → VK → Prop := fun xs H Q => ∃ (p : Addr) (ns : List Int) (c : Nat), xs = [.ref p] ∧ H p = some (SetO X.w p (fun j => decide (j ∈ ns)) c) ∧ ns.length ≤ 4000 ∧ Q (.int ((sortI ns).length : Nat)) H
theorem cr_lenSetO : CallR X (.builtin "len") (rLenSetO X) := by
  intro pins s σ H xs us Q I r h
  obtain ⟨p, ns, c, rfl, hp, hl, q⟩ := h
  rw [Vals.ref1 r]
  have R := setO_get I hp
  have hc := setR_count R
  obtain ⟨o, es, ep, t, ho, hex, hd, _, _, _, _, hf, hn, _⟩ := R
  have hs := @sortI_len_le ns
  refine call_len_set ho hex hd hf (by rw [hn, hc]; omega) ⟨.int ((sortI ns).length : Nat), H, I.tok _, ⟨_, by rw [hn, hc]⟩, q⟩
def rSetLJ (X : Cx) : List V → Hp → VK → Prop := fun xs H Q => ∃ (p : Addr) (ns : List Int), xs = [.ref p] ∧ SqL X.K H p (ns.map V.int) ∧ ns.length ≤ 4000 ∧ ∀ (a : Addr) (c : Nat), H a = none → Q (.ref a) (upd H a (SetO X.w a (fun j => decide (j ∈ ns)) c))
theorem cr_setLJ (hc : X.calm = true) : CallR X (.type "set") (rSetLJ X) := by
  intro pins s σ H xs us Q I r h
  obtain ⟨p, ns, rfl, hq, hl, q⟩ := h
  rw [Vals.ref1 r]
  obtain ⟨its, rv, pl, _⟩ := I.list hq
  refine set_of_list ns (I.ok.hd hc) pl.isList (by simpa using ints_of_vals rv) (by unfold scanBound; omega) fun s2 hs => ?_
  obtain ⟨h2, t2, c2, rfl, R, hcl, keep⟩ := hs
  exact ⟨.ref _, _, I.laid (t' := t2) keep (Nat.le_refl _) (setO_new R), rfl, q _ _ (I.hok.fresh (Nat.le_refl _))⟩
def lenSetM (d : D) : M D := fun S => match d with
  | .ref i => match S[i]? with
    | some (.lst xs) => match intsOf xs with
      | some ns => if ns.length ≤ 4000 then some (.int ((sortI ns).length : Nat), S) else none
      | none => none
    | _ => none
  | _ => none
def eLenSet (f : SEnv → M D) : SEnv → M D := fun env => bnd (f env) lenSetM
variable {e : Expr} {te : TE} {f : SEnv → M D} {p1 p2 p3 pos : Pos}
theorem de_lenSet (hc : X.calm = true) (h1 : X.mg "len" = none) (h2 : X.mg "set" = none) (he : DE X e te f) (g1 : Gl X "len" := by rfl) (g2 : Gl X "set" := by rfl)
    (s1 : starEach [e] X.env = (false, eval e X.env) :: starEach [] X.env := by rfl)
    (s2 : starEach [Expr.Call (.Name "set" p2) [e] [] p3] X.env = (false, eval (Expr.Call (.Name "set" p2) [e] [] p3) X.env) :: starEach [] X.env := by rfl) :
    DE X (.Call (.Name "len" p1) [.Call (.Name "set" p2) [e] [] p3] [] pos) (tCB (rLenSetO X) (tCons (tCB (rSetLJ X) (tCons te tNil)) tNil)) (eLenSet f) := by
  have q1 : PE X (.Call (.Name "set" p2) [e] [] p3) (tCB (rSetLJ X) (tCons te tNil)) := pe_callTy (cr_setLJ hc) g2 h2 (by decide +kernel) (pa_cons he.pe pa_nil s1) (by decide) (by decide) s1 rfl
  refine ⟨pe_callB cr_lenSetO g1 h1 (by decide +kernel) (pa_cons q1 pa_nil s2) (by decide) (by decide) s2 rfl, fun m S H env σ rl re d S' h Q q => ?_⟩
  obtain ⟨a, S1, k1, k2⟩ := bnd_some h
  refine he.se rl re a S1 k1 _ fun m1 H1 v rl1 e1 rv => ?_
  unfold lenSetM at k2
  split at k2
  · rename_i i
    split at k2
    · rename_i xs hx
      split at k2
      · rename_i ns hns
        split at k2
        · rename_i hl
          cases k2
          obtain ⟨p, vs, rfl, _, hq, hv⟩ := rl1.sqL hx rv
          have hvs := intsOf_rep hv hns
          subst hvs
          refine ⟨p, ns, rfl, .inl (.inl hq), hl, fun b c hb => ?_⟩
          obtain ⟨rl2, x2⟩ := rl1.keep (keep_upd (o := SetO X.w b (fun j => decide (j ∈ ns)) c) hb)
          exact ⟨b, ns, c, rfl, upd_same, hl, q _ _ _ rl2 (e1.trans x2) (.int _)⟩
        · cases k2
      · cases k2
    · cases k2
  · cases k2
end
end TS
set_option Elab.async false
set_option linter.all false
set_option maxRecDepth 100000
namespace TS
open PySem PySem.Spec PyProof.Rows L2
section
variable {S : Store} {env : SEnv} {Q : D → Store → Prop}
theorem w_eLenSet {f : SEnv → M D} : wp (eLenSet f env) S Q ↔ wp (f env) S fun d S1 => wp (lenSetM d) S1 Q := wp_bnd
theorem w_lenSet {r : Nat} {ns : List Int} (h : S[r]? = some (.lst (ns.map .int))) (hl : ns.length ≤ 4000) : wp (lenSetM (.ref r)) S Q ↔ Q (.int ((sortI ns).length : Nat)) S :=
  wp_some (by unfold lenSetM; simp only [h, intsOf_map, hl, if_true])
theorem w_intB {b : Bool} : wp (nInt [.bl b]) S Q ↔ Q (.int (if b then 1 else 0)) S := by cases b <;> exact wp_some rfl
end
end TS
set_option Elab.async false
set_option linter.all false
set_option maxRecDepth 100000
set_option maxHeartbeats 2000000
namespace TS
open PySem PySem.Spec PyProof.Rows L2
/-! ### a tuple no times -/
theorem tuple_zero (l : Addr) (items : Array Value) (n : Nat) (dd : Option Addr) (sl : Array (Option Value)) (u : Tok) (hne : items.isEmpty = false) :
    Meets (Builtin.«tuple.__mul__» ⟨[.ref l, .int 0 u], []⟩) (fun _ R s => s.heap.get? l = some { cls := .type "tuple", dict := dd, data := .seq items n, slots := sl } ∧
      R (.ok (.ret (Value.ref s.heap.objs.size))) { s with heap := s.heap.push { cls := .type "tuple", data := .seq #[] }, toks := s.toks }) :=
  .of_wp fun prog w A R s h => by
    obtain ⟨hp, g, d, tk, os⟩ := s
    obtain ⟨hl, h⟩ := h
    have ix := AutoSeq1.idx_int
    have big : (decide ((0 : Int) < -(2 ^ 63)) || decide ((0 : Int) ≥ 2 ^ 63)) = false := by decide
    have one : (items.isEmpty || (0 : Int) == 1) = false := by rw [hne]; decide
    have two : (decide ((0 : Int) ≤ 0) || items.isEmpty) = true := by simp
    wp_walk using wpAny_loadPart' hl
    repeat (first
      | (refine wpAny_ite_false (decide_eq_false (by rw [big]; exact Bool.false_ne_true)) ?_; wp_walk using wpAny_loadPart' hl)
      | (refine wpAny_ite_false (decide_eq_false (by rw [one]; exact Bool.false_ne_true)) ?_; wp_walk using wpAny_loadPart' hl)
      | (refine wpAny_ite_true (decide_eq_true two) ?_; wp_walk using wpAny_loadPart' hl))
    exact ⟨_, rfl, h⟩
section
variable {X : Cx} {K : PySem.W.Frag}
def rZero (K : PySem.W.Frag) : R2 := fun x y H Q => ∃ l xs, x = .ref l ∧ y = .int 0 ∧ SqT K H l xs ∧ xs ≠ [] ∧ ∀ p, H p = none → Q (.ref p) (upd H p (.tup []))
theorem op_zero : OpR X (binaryOp .Mult) (rZero X.K) := by
  intro pins s σ H x y v u Q I rx ry h
  obtain ⟨l, xs, rfl, rfl, ht, hne, q⟩ := h
  cases rx
  obtain ⟨tk, rfl⟩ := ry
  obtain ⟨us, rv, ⟨⟨c, dd, dt, sl⟩, ho, hc, n, hd⟩, hs⟩ := I.tuple ht
  simp only at hc hd
  subst hc hd
  have hi : us.toArray.isEmpty = false := by
    cases us with
    | nil =>
      have := rv.length
      exact absurd (List.eq_nil_of_length_eq_zero this) hne
    | cons a b => rfl
  exact wpAny_binaryOp_repeat_ref (T := "tuple") (U := "int") (by decide) ⟨_, ho, rfl⟩ (fun s' => typeIs_int s' 0 tk) noFill_tuple_mul F.fills_int_mul F.slot_int_rmul repeat_tuple F.slot_int_index.lookup
    (call_meets F.slot_int_rmul (typeIs_int s 0 tk) F.entry_int_rmul (F.args_int_rmul_2 _ _) (int_rmul_tuple 0 tk l us.toArray n dd sl)
      ⟨ho, rfl, ⟨_, ho, rfl⟩, call_meets F.slot_tuple_mul ⟨_, ho, rfl⟩ F.entry_tuple_mul (F.args_tuple_mul_2 _ _) (tuple_zero l us.toArray n dd sl tk hi) ⟨ho, .ref s.heap.objs.size, _, I.laid (t' := s.toks) (o := .tup []) (fun b ob q => Heap.get?_push_of_some _ q) (Nat.le_refl _) ⟨Nat.zero_le _, _, .nil, IsTup.new _ _⟩, rfl, q _ (I.hok.fresh (Nat.le_refl _))⟩⟩)
def mulZ (a b : D) : M D := fun S => match a, b with
  | .tup (x :: xs), .int 0 => some (.tup [], S)
  | a, b => mulU a b S
theorem o_mulZ : DO2 X (binaryOp .Mult) (fun x y H Q => rZero X.K x y H Q ∨ rMulU X.K x y H Q) mulZ := ⟨op_zero.or (o_mulU (X := X)).op, fun m S H x y a b rl ra rb d S' h Q q => by
  unfold mulZ at h
  split at h
  · cases h
    cases rb
    cases ra with
    | tup h1 h2 =>
      refine .inl ⟨_, _, rfl, rfl, h1, fun e => ?_, fun p hp => ?_⟩
      · have := h2.length
        rw [e] at this
        cases this
      · obtain ⟨r1, x1, y1⟩ := rl.tup (ds := []) (vs := []) hp .nil
        exact q _ _ _ r1 x1 y1
  · exact .inr ((o_mulU (X := X)).sr rl ra rb d S' h Q q)⟩
theorem k_mulZ (K : PySem.W.Frag) (hK : X.K = K) : DO2 X (binaryOp .Mult) (fun x y H Q => rZero K x y H Q ∨ rMulU K x y H Q) mulZ := by subst hK; exact o_mulZ
end
end TS
set_option Elab.async false
set_option linter.all false
set_option maxRecDepth 100000
namespace TS
open PySem PySem.Spec PyProof.Rows L2
theorem mulZ_tup (xs : List D) (x : D) (n : Nat) (S : Store) (Q : D → Store → Prop) (hn : n ≤ 1000) (hx : xs.length ≤ 900) (k : Q (.tup (List.replicate n (x :: xs)).flatten) S) : wp (mulZ (.tup (x :: xs)) (.int (n : Nat))) S Q := by
  match n, hn, k with
  | 0, _, k => exact (wp_some (a := .tup []) (S' := S) rfl).mpr k
  | 1, _, k => exact (wp_some (a := .tup (x :: xs)) (S' := S) rfl).mpr (by
      rw [List.replicate_one, List.flatten_cons, List.flatten_nil, List.append_nil] at k
      exact k)
  | n + 2, hn, k =>
    refine (wp_some (a := .tup (List.replicate (n + 2) (x :: xs)).flatten) (S' := S) ?_).mpr k
    have e1 : mulZ (.tup (x :: xs)) (.int ((n + 2 : Nat) : Int)) S = mulU (.tup (x :: xs)) (.int ((n + 2 : Nat) : Int)) S := by
      unfold mulZ
      split
      · rename_i h
        have := D.int.inj h
        omega
      · rfl
    have e2 : mulU (.tup (x :: xs)) (.int ((n + 2 : Nat) : Int)) S = mulD (.tup (x :: xs)) (.int ((n + 2 : Nat) : Int)) S := by
      unfold mulU
      split
      · rename_i h
        have := D.int.inj h
        omega
      · rfl
    rw [e1, e2]
    unfold mulD
    simp only
    rw [if_pos ⟨List.cons_ne_nil _ _, by omega, by omega, by rw [List.length_cons]; omega⟩]
    rfl
end TS
set_option Elab.async false
set_option linter.all false
set_option maxRecDepth 100000
set_option maxHeartbeats 2000000
namespace TS
open PySem PySem.Spec PyProof.Rows L2
/-! ### a def whose last parameter has an integer as default -/
structure CalleeD (P : Program) (w : World) (K : PySem.W.Frag) (mg : Str → Option Value) (base : Heap) (x : Str) (lv n : Nat) (ps : List Str) (i : Int) (F : List D → M D) : Prop where
  ex : ∃ (f : Addr) (fd : FuncData) (dds : List Value), FnOk P w K mg base CX0 lv f fd ps (spOf K (n + 1) F) ∧ mg x = some (.ref f) ∧ PySem.W.keepIn K (.ref f) = true ∧ Vals [V.int i] dds ∧ Binds K fd ps dds
def dfl (F : List D → M D) (i : Int) : List D → M D := fun ds => F (ds ++ [.int i])
theorem se_callD {K : PySem.W.Frag} {n : Nat} {i : Int} {F : List D → M D} {ta : TA} {f : SEnv → M (List D)} (hn : ∀ env S ds S', f env S = some (ds, S') → ds.length = n) (ha : SA K ta f) : SE K (tCall (spOf K (n + 1) F) [.int i] E0 ta) (eCall (dfl F i) f) := fun m S H env σ rl re d S' h Q q => by
  obtain ⟨ds, S1, e1, h1⟩ := bnd_some h
  have h1 : F (ds ++ [.int i]) S1 = some (d, S') := h1
  refine ha rl re ds S1 e1 _ fun m1 H1 vs rl1 x1 rvs => ?_
  exact ⟨m1, S1, ds ++ [.int i], d, S', rl1, rvs.snoc (.int i), by rw [List.length_append, hn env S ds S1 e1]; rfl, h1, fun m2 H2 v rl2 x2 rv => q m2 H2 v rl2 (x1.trans x2) rv⟩
section
variable {X : Cx} {x : Str} {lv n : Nat} {i : Int} {ps : List Str} {F : List D → M D} {p pos : Pos} {e : Expr} {es : List Expr} {ta : TA} {fa : SEnv → M (List D)}
theorem dk_fnD (K : PySem.W.Frag) (hK : X.K = K) (C : CalleeD X.prog X.w X.K X.mg X.base x lv n ps i F) (hr : Room lv X.A) (ha : DA X (e :: es) ta fa)
    (hn : ∀ env S ds S', fa env S = some (ds, S') → ds.length = n := by first | exact aCons_len aNil_len | exact aCons_len (aCons_len aNil_len) | exact aCons_len (aCons_len (aCons_len aNil_len)) | exact aCons_len (aCons_len (aCons_len (aCons_len aNil_len))) | exact aCons_len (aCons_len (aCons_len (aCons_len (aCons_len aNil_len)))))
    (hg : Gl X x := by rfl) (hdb : (x == ("__debug__" : Str)) = false := by decide) (he : starEach (e :: es) X.env = (false, eval e X.env) :: starEach es X.env := by rfl) (hpl : (backTo pos (starEach es X.env)).any (·.1) = false := by rfl) :
    DE X (.Call (.Name x p) (e :: es) [] pos) (tCall (spOf K (n + 1) F) [.int i] E0 ta) (eCall (dfl F i) fa) := by
  subst hK
  obtain ⟨f, fd, dds, a, b, c, d, g⟩ := C.ex
  exact ⟨pe_call a hr hg b c g d pass0 ha.pa hdb he hpl, se_callD hn ha.sa⟩
end
theorem fnD_ok {P : Program} {w : World} {K : PySem.W.Frag} {mg : Str → Option Value} {base : Heap} {x qual : Str} {st : Stmt} {f : Addr} {fd : FuncData} {N ps : List Str} {k : Nat} {fb : SEnv → M (Fl × SEnv)} {dvs : List V} {kws : List (Str × V)} (F : FunD K x qual (defArgs st) (defBody st) (defScope st) dvs kws f fd) (S : FnScope N ps (defScope st))
    (hbody : ∀ (cdv : Value) (A : Around) (outer : List PySem.Env) (s : Shared) (H : Hp) (E : XK), Room k (A.deeper (envOfC qual (defScope st) s.heap.objs.size f cdv)) → ∃ t, DSs (cxOf CX0 P w K mg base N qual (defScope st) f cdv A outer s H E).nox (defBody st) t fb) : FnOk P w K mg base CX0 (k + 1) f fd ps (spOf K ps.length (bodyM N.length fb)) := by
  refine F.ok S (fun vs H Q E h => ?_) (fun cdv A outer s H vs Q E hr h => ?_)
  · obtain ⟨m, S, ds, d, S', rl, rvs, hn, _⟩ := h
    rw [← rvs.length]
    exact hn
  · obtain ⟨m, S0, ds, d, S', rl, rvs, hn, hF, q⟩ := h
    obtain ⟨t, hb⟩ := hbody cdv A outer s H E hr
    obtain ⟨⟨fl, env'⟩, S1, e1, h1⟩ := bnd_some hF
    refine ⟨t, hb.ps.nox, hb.ss rl (rel0 rvs) fl env' S1 e1 _ ?_⟩
    cases fl with
    | nx =>
      cases h1
      exact fun m' H' σ' rl' x' _ => q m' H' _ rl' x' .non
    | rt d' =>
      cases h1
      exact fun m' H' v rl' x' rv => q m' H' v rl' x' rv
    | bk => cases h1
    | ct => cases h1
theorem funD_mk {K : PySem.W.Frag} {x qual : Str} {st : Stmt} {f T : Addr} {oc ocT : Value} {od an odT : Option Addr} {osl slT : Array (Option Value)} {kV doc pm cdv ct : Value} {i : Int} {tk : Tok} {nT : Nat} (l : K.lookup f = some ⟨oc, od, .func (PySem.W.fnOf x qual (defArgs st) (defBody st) (defScope st) (.ref T) kV doc pm an cdv ct), osl⟩)
    (lT : K.lookup T = some ⟨ocT, odT, .seq #[.int i tk] nT, slT⟩) (c : PySem.W.codeIn K cdv qual = true) (k : PySem.W.keepIn K (.ref f) = true) : FunD K x qual (defArgs st) (defBody st) (defScope st) [.int i] [] f (PySem.W.fnOf x qual (defArgs st) (defBody st) (defScope st) (.ref T) kV doc pm an cdv ct) :=
  ⟨⟨oc, od, .ref T, kV, doc, pm, an, cdv, ct, osl, rfl, l, c, .inr ⟨by simp, T, _, [.int i tk], nT, rfl, lT, rfl, .cons ⟨tk, rfl⟩ .nil⟩, .inl rfl⟩, k⟩
/-! ### a list so many times -/
section
variable {X : Cx}
def mulL (a b : D) : M D := fun S => match a, b with
  | .ref i, .int k => match S[i]? with
    | some (.lst xs) => if 0 ≤ k ∧ k ≤ 1000 ∧ xs.length ≤ 1000 then some (.ref S.length, S ++ [.lst (List.replicate k.toNat xs).flatten]) else none
    | _ => none
  | a, b => mulU a b S
theorem Reps.times {K : PySem.W.Frag} {m : List Addr} {H : Hp} {ds : List D} {vs : List V} (h : Reps K m H ds vs) : ∀ n : Nat, Reps K m H (List.replicate n ds).flatten (List.replicate n vs).flatten := Reps.rep h
theorem o_mulL : DO2 X (binaryOp .Mult) (fun x y H Q => rRep x y H Q ∨ rMulU X.K x y H Q) mulL := ⟨op_rep.or (o_mulU (X := X)).op, fun m S H x y a b rl ra rb d S' h Q q => by
  unfold mulL at h
  split at h
  · split at h
    · split at h
      · rename_i i k _ xs hx c
        cases h
        cases rb
        obtain ⟨p, vs, rfl, hp, h3, h4⟩ := rl.sqL hx ra
        have hl := h4.length
        refine .inl ⟨p, k, vs, rfl, rfl, h3, by omega, by omega, ?_, fun p2 hp2 => ?_⟩
        · rw [← hl]
          have hk : k.toNat ≤ 1000 := by omega
          exact Nat.le_trans (Nat.mul_le_mul c.2.2 hk) (by decide)
        · obtain ⟨a1, a2, a3⟩ := rl.new hp2 (.lst (h4.times k.toNat))
          exact q _ _ _ a1 a2 a3
      · cases h
    · cases h
  · exact .inr ((o_mulU (X := X)).sr rl ra rb d S' h Q q)⟩
theorem k_mulL (K : PySem.W.Frag) (hK : X.K = K) : DO2 X (binaryOp .Mult) (fun x y H Q => rRep x y H Q ∨ rMulU K x y H Q) mulL := by subst hK; exact o_mulL
end
end TS
set_option Elab.async false
set_option linter.all false
set_option maxRecDepth 100000
namespace TS
open PySem PySem.Spec PyProof.Rows L2
section
variable {F : List D → M D} {i : Int} {ds : List D} {S : Store} {Q : D → Store → Prop}
theorem w_dfl : wp (dfl F i ds) S Q ↔ wp (F (ds ++ [.int i])) S Q := Iff.rfl
theorem w_mulL {r : Nat} {xs : List D} {k : Int} (h : S[r]? = some (.lst xs)) (h0 : 0 ≤ k ∧ k ≤ 1000 ∧ xs.length ≤ 1000) : wp (mulL (.ref r) (.int k)) S Q ↔ Q (.ref S.length) (S ++ [.lst (List.replicate k.toNat xs).flatten]) :=
  wp_some (by unfold mulL; simp only [h]; rw [if_pos h0])
end
end TS
set_option Elab.async false
set_option linter.all false
set_option maxRecDepth 100000
set_option maxHeartbeats 2000000
namespace TS
open PySem PySem.Spec PyProof.Rows L2
/-! ### dicts whose keys are displays of tuples -/
section
variable {X : Cx} {K : PySem.W.Frag} {m : List Addr} {S : Store} {H : Hp} {pos : Pos}
def keysOf : List D → Option (List Key)
  | [] => some []
  | d :: r => match keyOf d, keysOf r with
    | some k, some ks => some (k :: ks)
    | _, _ => none
theorem keysOf_rep : ∀ {ds : List D} {vs : List V} {ks : List Key}, Reps K m H ds vs → keysOf ds = some ks → vs = ks.map kV
  | [], _, _, .nil, e => by cases e; rfl
  | d :: r, _, _, .cons h hs, e => by
    unfold keysOf at e
    split at e
    · rename_i k ks e1 e2
      cases e
      rw [List.map_cons, keyOf_rep h e1, keysOf_rep hs e2]
    · cases e
theorem Rel.dTm (r : Rel K m S H) {i : Nat} {kvs : List (List Key × D)} {v : V} (h : S[i]? = some (.dT kvs)) (q : Rep K m H (.ref i) v) : ∃ a us, v = .ref a ∧ m[i]? = some a ∧ H a = some (.dT us) ∧ us.map (·.1) = kvs.map (·.1) ∧ Reps K m H (kvs.map (·.2)) (us.map (·.2)) := by
  obtain ⟨a, u, h1, h2, h3⟩ := r.at h
  cases q with
  | ref h4 =>
    rw [h1] at h4
    cases h4
    cases h3 with
    | dT h5 h6 => exact ⟨a, _, rfl, h1, h2, h5, h6⟩
def hasT (kvs : List (List Key × D)) (ks : List Key) : Bool := (kvs.map (·.1)).any fun k => decide (k = ks)
theorem hasT_val {kvs : List (List Key × D)} {us : List (List Key × V)} (h : us.map (·.1) = kvs.map (·.1)) (ks : List Key) : (valV us ks).isSome = hasT kvs ks := by
  unfold hasT
  rw [← h, List.any_map, ← valV_any]
  rfl
def inT (ds : List D) (b : D) : M D := fun S => if ds.length ≤ 1000 then match keysOf ds, b with
  | some ks, .ref i => match S[i]? with
    | some (.dT kvs) => some (.bl (hasT kvs ks), S)
    | _ => none
  | _, _ => none
  else none
def eInT (f : SEnv → M (List D)) (fb : SEnv → M D) : SEnv → M D := fun env => bnd (f env) fun ds => bnd (fb env) fun b => inT ds b
theorem se_inT {t : TA} {tb : TE} {f : SEnv → M (List D)} {fb : SEnv → M D} (ha : SA K t f) (hb : SE K tb fb) : SE K (tOp (rInU K) (tTup t) tb) (eInT f fb) := fun m S H env σ rl re d S' h Q q => by
  obtain ⟨ds, S1, e1, h⟩ := bnd_some h
  obtain ⟨b, S2, e2, h⟩ := bnd_some h
  unfold inT at h
  split at h
  · rename_i hl
    split at h
    · rename_i ks i hks
      split at h
      · rename_i kvs e
        cases h
        refine ha rl re ds S1 e1 _ fun m1 H1 vs rl1 x1 rvs => ⟨by rw [← rvs.length]; exact Nat.le_trans hl (by decide), fun p hp => ?_⟩
        obtain ⟨a1, a2, a3⟩ := rl1.tup hp rvs
        refine hb a1 (re.mono rl (x1.trans a2)) _ _ e2 _ fun m2 H2 y rl2 x2 rb => ?_
        have hpk : H2 p = some (.tup vs) := x2.keep _ _ upd_same (a1.not_tup upd_same)
        obtain ⟨pa, us, rfl, hm, hd, hk, hv⟩ := rl2.dTm e rb
        refine .inl ⟨pa, valV us ks, rfl, ?_, ?_⟩
        · rw [keysOf_rep rvs hks] at hpk
          exact DGet.t hd hpk
        · rw [hasT_val hk]
          exact q m2 H2 _ rl2 ((x1.trans a2).trans x2) (.bl _)
      · cases h
    · cases h
  · cases h
theorem dt_inT {es : List Expr} {x1 : _} {b : Expr} {p2 : Pos} {t : TA} {tb : TE} {f : SEnv → M (List D)} {fb : SEnv → M D} (K : PySem.W.Frag) (hK : X.K = K) (hu : X.A.units + 1 < cLine) (ha : DA X es t f) (hb : DE X b tb fb) (hm : behindInMarks .In b = false := by first | exact nobehind _ (by decide) (by decide) | rfl) :
    DT X (.Compare (.Tuple es x1 p2) [.In] [b] pos) (tTest (tOp (rInU K) (tTup t) tb)) (asB (eInT f fb)) := by
  subst hK
  obtain ⟨h1, _⟩ := o_inU (X := X) hu
  exact ⟨pt_cmpR h1 (pe_tup ha.pa) hb.pe hm, st_B (se_inT ha.sa hb.se)⟩
def eDictT : SEnv → M D := fun _ S => some (.ref S.length, S ++ [.dT []])
theorem de_dictT : DE X (.Dict [] [] pos) tDNewT eDictT := ⟨pe_dnewT, fun m S H env σ rl re d S' hh Q q => by
  cases hh
  intro p hp
  obtain ⟨rl1, x1, rp⟩ := rl.new (o := .dT []) (u := .dT []) hp (.dT rfl .nil)
  exact q _ _ _ rl1 x1 rp⟩
/-- a new key -/
def setT (b : D) (ds : List D) (d : D) : M Unit := fun S => if ds.length ≤ 1000 then match keysOf ds, b with
  | some ks, .ref i => match S[i]? with
    | some (.dT kvs) => if hasT kvs ks = false ∧ kvs.length < sizeLine then some ((), S.set i (.dT (kvs ++ [(ks, d)]))) else none
    | _ => none
  | _, _ => none
  else none
def gSubT (fo : SEnv → M D) (f : SEnv → M (List D)) : D → SEnv → M SEnv := fun d env => bnd (fo env) fun o => bnd (f env) fun ds => bnd (setT o ds d) fun _ => ret env
theorem dg_subT {o : Expr} {es : List Expr} {x1 : _} {p2 : Pos} {to : TE} {t : TA} {fo : SEnv → M D} {f : SEnv → M (List D)} (hu : X.A.units + 1 < cLine) (ho : DE X o to fo) (hi : DA X es t f)
    (ha : ∀ v, assign (.Subscript o (.Tuple es x1 p2) pos) X.env v = (do
      let ov ← holding [v] (eval o X.env)
      let iv ← holding [v, ov] (eval (.Tuple es x1 p2) X.env)
      standAt pos
      holding [v, ov, iv] (setItem ov iv v)
      release [v, ov, iv] []) := by intro _; rfl) : DG X (.Subscript o (.Tuple es x1 p2) pos) [] (gSub to (tTup t) rSetD) (gSubT fo f) := ⟨pg_sub ho.pe (pe_tup hi.pa) (set_dict hu) ha, fun m S H env σ d v rl re rv env' S' h Q q => by
  obtain ⟨b, S1, e1, h1⟩ := bnd_some h
  obtain ⟨ds, S2, e2, h2⟩ := bnd_some h1
  obtain ⟨_, S3, e3, h3⟩ := bnd_some h2
  cases h3
  unfold setT at e3
  split at e3
  · rename_i hl
    split at e3
    · rename_i ks i hks
      split at e3
      · split at e3
        · rename_i kvs e c
          cases e3
          refine ho.se rl re _ S1 e1 _ fun m1 H1 x rl1 x1 ra => ?_
          refine hi.sa rl1 (re.mono rl x1) ds S2 e2 _ fun m2 H2 vs rl2 x2 rvs => ⟨by rw [← rvs.length]; exact Nat.le_trans hl (by decide), fun p hp => ?_⟩
          obtain ⟨a1, a2, a3⟩ := rl2.tup hp rvs
          have xx := (x1.trans x2).trans a2
          have ra2 := ra.mono rl1 (x2.trans a2)
          obtain ⟨pa, us, rfl, hm, hd, hk, hv⟩ := a1.dTm e ra2
          have hpk : upd H2 p (.tup vs) p = some (.tup (ks.map kV)) := by rw [← keysOf_rep rvs hks]; exact upd_same
          have hlen : us.length = kvs.length := by rw [← List.length_map (f := (·.1)), hk, List.length_map]
          have hput : putK us ks v = us ++ [(ks, v)] := by
            unfold putK
            rw [valV_any, hasT_val hk, c.1]
            rfl
          have rv3 := rv.mono rl xx
          have ho2 : RepO X.K m2 (upd H2 p (.tup vs)) (.dT (kvs ++ [(ks, d)])) (.dT (us ++ [(ks, v)])) := .dT (by rw [List.map_append, List.map_append, hk]; rfl) (by rw [List.map_append, List.map_append]; exact hv.snoc rv3)
          obtain ⟨b1, b2⟩ := a1.set hm ho2
          refine ⟨pa, _, rfl, DPut.t hd hpk (by rw [hlen]; exact c.2), ?_⟩
          rw [hput]
          exact q m2 _ σ b1 (xx.trans b2) (re.mono rl (xx.trans b2)) .refl
        · cases e3
      · cases e3
    · cases e3
  · cases e3⟩
end
end TS
set_option Elab.async false
set_option linter.all false
set_option maxRecDepth 100000
namespace TS
open PySem PySem.Spec PyProof.Rows L2
section
variable {env : SEnv} {S : Store} {Q : D → Store → Prop}
theorem w_eInT {f : SEnv → M (List D)} {fb : SEnv → M D} : wp (eInT f fb env) S Q ↔ wp (f env) S fun ds S1 => wp (fb env) S1 fun b S2 => wp (inT ds b) S2 Q := by
  unfold eInT
  rw [wp_bnd]
  constructor
  · exact fun h => h.mono fun ds S1 h => wp_bnd.mp h
  · exact fun h => h.mono fun ds S1 h => wp_bnd.mpr h
theorem w_eDictT : wp (eDictT env) S Q ↔ Q (.ref S.length) (S ++ [.dT []]) := wp_some rfl
theorem w_inT {ds : List D} {ks : List Key} {i : Nat} {kvs : List (List Key × D)} (hl : ds.length ≤ 1000) (hk : keysOf ds = some ks) (h : S[i]? = some (.dT kvs)) : wp (inT ds (.ref i)) S Q ↔ Q (.bl (hasT kvs ks)) S :=
  wp_some (by unfold inT; rw [if_pos hl, hk]; simp only [h])
theorem w_gSubT {d : D} {fo : SEnv → M D} {f : SEnv → M (List D)} {QE : SEnv → Store → Prop} : wp (gSubT fo f d env) S QE ↔ wp (fo env) S fun o S1 => wp (f env) S1 fun ds S2 => wp (setT o ds d) S2 fun _ S3 => QE env S3 := by
  unfold gSubT
  rw [wp_bnd]
  constructor
  · exact fun h => h.mono fun o S1 h => (wp_bnd.mp h).mono fun ds S2 h => (wp_bnd.mp h).mono fun _ S3 h => wp_ret.mp h
  · exact fun h => h.mono fun o S1 h => wp_bnd.mpr (h.mono fun ds S2 h => wp_bnd.mpr (h.mono fun _ S3 h => wp_ret.mpr h))
theorem w_setT {ds : List D} {ks : List Key} {i : Nat} {d : D} {kvs : List (List Key × D)} {QU : Unit → Store → Prop} (hl : ds.length ≤ 1000) (hk : keysOf ds = some ks) (h : S[i]? = some (.dT kvs)) (hn : hasT kvs ks = false) (hz : kvs.length < sizeLine) : wp (setT (.ref i) ds d) S QU ↔ QU () (S.set i (.dT (kvs ++ [(ks, d)]))) :=
  wp_some (by unfold setT; rw [if_pos hl, hk]; simp only [h]; rw [if_pos ⟨hn, hz⟩])
end
end TS
set_option Elab.async false
set_option linter.all false
set_option maxRecDepth 100000
set_option maxHeartbeats 2000000
namespace TS
open PySem PySem.Spec PyProof.Rows L2
section
variable {X : Cx}
/-! ### ord of one sign -/
def nOrd : List D → M D
  | [.str x] => fun S => if x.length = 1 then some (.int (x.cps.getD 0 0 : Nat), S) else none
  | _ => fail
theorem c_ord : DC X (.builtin "ord") (fun xs H Q => ∃ x, xs = [.str x] ∧ x.length = 1 ∧ Q (.int (x.cps.getD 0 0 : Nat)) H) nOrd := ⟨call_ord, fun m S H xs as rl ra d S' h Q q => by
  unfold nOrd at h
  split at h
  · split at h
    · cases h
      rename_i c
      obtain ⟨v, rfl, rv⟩ := ra.one
      cases rv
      exact ⟨_, rfl, c, q m H _ rl .refl (.int _)⟩
    · cases h
  · cases h⟩
/-! ### all kinds of a * b: great integers, a text so many times, lists, tuples -/
def rMulS : R2 := fun x y H Q => ∃ (z : Str) (n : Int), x = .str z ∧ y = .int n ∧ 0 ≤ n ∧ n ≤ 1000 ∧ z.length ≤ 1000 ∧ Q (.str (Txt.mul z n)) H
theorem op_mulS : OpR X (binaryOp .Mult) rMulS := by
  intro pins s σ H x y v u Q I rx ry h
  obtain ⟨z, n, rfl, rfl, h0, h1, h2, q⟩ := h
  obtain ⟨t, rfl⟩ := rx
  obtain ⟨t', rfl⟩ := ry
  exact SB.mul (mulOk_of 1000 1000 h2 (by omega) (by omega) (by decide) (by decide)) fun t2 k => ⟨.str (Txt.mul z n), H, I.tok _, ⟨t2, rfl⟩, q⟩
def wideI (i j : Int) : Bool := decide (i.natAbs.log2 + j.natAbs.log2 < 1000000)
def mulX (a b : D) : M D := fun S => match a, b with
  | .int i, .int j => if smallI i = true ∨ smallI j = true ∨ wideI i j = true then some (.int (i * j), S) else none
  | .str z, .int n => if 0 ≤ n ∧ n ≤ 1000 ∧ z.length ≤ 1000 then some (.str (Txt.mul z n), S) else none
  | .tup (x :: xs), .int 0 => some (.tup [], S)
  | a, b => mulL a b S
def rMulX (K : PySem.W.Frag) : R2 := fun x y H Q => rI CMulW (fun i j => .int (i * j)) x y H Q ∨ rMulS x y H Q ∨ rZero K x y H Q ∨ rRep x y H Q ∨ rMulU K x y H Q
theorem o_mulX : DO2 X (binaryOp .Mult) (rMulX X.K) mulX := ⟨op_mulW.or (op_mulS.or (op_zero.or (op_rep.or (o_mulU (X := X)).op))), fun m S H x y a b rl ra rb d S' h Q q => by
  unfold mulX at h
  split at h
  · split at h
    · cases h
      rename_i i j c
      rcases c with c | c | c
      · exact .inr (.inr (.inr ((o_mulL (X := X)).sr rl ra rb _ _ (show mulL (.int i) (.int j) S = some (.int (i * j), S) by
          show (if smallI i = true ∨ smallI j = true then some (D.int (i * j), S) else none) = _
          rw [if_pos (.inl c)]) Q q)))
      · exact .inr (.inr (.inr ((o_mulL (X := X)).sr rl ra rb _ _ (show mulL (.int i) (.int j) S = some (.int (i * j), S) by
          show (if smallI i = true ∨ smallI j = true then some (D.int (i * j), S) else none) = _
          rw [if_pos (.inr c)]) Q q)))
      · cases ra
        cases rb
        exact .inl ⟨_, _, rfl, rfl, (show i.natAbs.log2 + j.natAbs.log2 < 1000000 by unfold wideI at c; exact of_decide_eq_true c), q m H _ rl .refl (.int _)⟩
    · cases h
  · split at h
    · cases h
      rename_i c
      cases ra
      cases rb
      exact .inr (.inl ⟨_, _, rfl, rfl, c.1, c.2.1, c.2.2, q m H _ rl .refl (.str _)⟩)
    · cases h
  · cases h
    cases rb
    cases ra with
    | tup h1 h2 =>
      refine .inr (.inr (.inl ⟨_, _, rfl, rfl, h1, fun e => ?_, fun p hp => ?_⟩))
      · have := h2.length
        rw [e] at this
        cases this
      · obtain ⟨r1, x1, y1⟩ := rl.tup (ds := []) (vs := []) hp .nil
        exact q _ _ _ r1 x1 y1
  · exact .inr (.inr (.inr ((o_mulL (X := X)).sr rl ra rb d S' h Q q)))⟩
theorem k_mulX (K : PySem.W.Frag) (hK : X.K = K) : DO2 X (binaryOp .Mult) (rMulX K) mulX := by subst hK; exact o_mulX
end
theorem binds_nil {K : PySem.W.Frag} {fd : FuncData} {ps : List Str} {ds : List Value} (r : Vals [] ds) (b : Binds K fd ps ds) : Binds K fd ps [] := by
  cases r
  exact b
end TS
set_option Elab.async false
set_option linter.all false
set_option maxRecDepth 100000
set_option maxHeartbeats 2000000
namespace TS
open PySem PySem.Spec PyProof.Rows L2
section
variable {prog : Program} {w : World} {A : Around} {E : Value → Shared → Prop} {s : Shared}
/-- a list takes in what a tuple holds -/
theorem ext_run {l b : Addr} {o1 o2 : Obj} {xs ys : Array Value} {n m : Nat} (h1 : s.heap.get? l = some o1) (d1 : o1.data = .seq xs n) (h2 : s.heap.get? b = some o2) (c2 : o2.cls = .type "tuple") (d2 : o2.data = .seq ys m) (fit : xs.size + ys.size ≤ sizeLine) :
    wpAny (model prog w) A (Builtin.List.listExtendWith (.ref l) (.ref b) .none) (fun fin s1 => fin = .done (.ret .none) ∧ s1 = { s with heap := s.heap.update l (Obj.mapSeq (· ++ ys)) }) E s := by
  have room : (!xs.isEmpty && Builtin.List.listTooLong (xs.size + ys.size)) = false := by
    rw [show Builtin.List.listTooLong (xs.size + ys.size) = false from decide_eq_false (Nat.not_lt.mpr fit), Bool.and_false]
  unfold Builtin.List.listExtendWith
  refine wpAny_bind (wpAny_typeOf ⟨o2, h2, c2⟩ ?_)
  rw [if_pos (by rw [Bool.or_eq_true]; exact .inr (by decide))]
  refine wpAny_bind (wpAny_listItems h2 d2 (wpAny_bind (wpAny_listItems h1 d1 ?_)))
  rw [if_neg (by rw [room]; exact Bool.false_ne_true)]
  exact wpAny_bind (wpAny_updateSeq h1 d1 (wpAny_bind (wpAny_pure (wpAny_pure ⟨rfl, rfl⟩))) (by omega) (by show (xs ++ ys).size ≤ _; rw [Array.size_append]; omega))
end
section
variable {X : Cx} {K : PySem.W.Frag}
def rExtT (K : PySem.W.Frag) : V → List V → Hp → VK → Prop := fun x vs H Q => ∃ l b xs zs, x = .ref l ∧ vs = [.ref b] ∧ H l = some (.lst xs) ∧ SqT K H b zs ∧ xs.length + zs.length ≤ sizeLine ∧ Q .non (upd H l (.lst (xs ++ zs)))
theorem mt_extT : MtM X "list.extend" (rExtT X.K) := by
  intro pins s σ H x vs v us Q I rx rv h
  obtain ⟨l, b, xs, zs, rfl, rfl, hH, hB, hz, q⟩ := h
  cases rx
  obtain ⟨u, rfl, ru⟩ := rv.one
  cases ru
  have isL := I.lstM hH
  have isT := I.tuple hB
  obtain ⟨_, its, n, r, _, e⟩ := isL
  obtain ⟨its2, r2, ⟨o2, ho, hc, n2, hd⟩, _⟩ := isT
  have fit : its.toArray.size + its2.toArray.size ≤ sizeLine := by
    have := r.length
    have := r2.length
    simp only [List.size_toArray]
    omega
  refine wpAny_call_entry F.slot_list_extend ⟨_, e, rfl⟩ F.entry_list_extend ?_ (F.args_list_extend_2 _ _)
  show wpAny _ _ (Builtin.List.listExtendWith (.ref l) (.ref b) .none) _ _ _
  refine wpAny_mono (ext_run e rfl ho hc hd fit) (fun fin s1 h1 => ?_) fun _ _ x => x
  obtain ⟨rfl, rfl⟩ := h1
  refine ⟨_, rfl, .non, _, I.lset (its' := its ++ its2) hH e (by simp) (r.append r2) ?_, rfl, q⟩
  rw [List.length_append]
  exact hz
def mExtendU (a : D) (as : List D) : M D := fun S => match a, as with
  | .ref i, [.tup ys] => match S[i]? with
    | some (.lst xs) => if xs.length + ys.length ≤ sizeLine then some (.non, S.set i (.lst (xs ++ ys))) else none
    | _ => none
  | a, as => mExtend a as S
theorem m_extendU : DM X "list" "list.extend" (fun x vs H Q => rExtT X.K x vs H Q ∨ rExtend x vs H Q) mExtendU := ⟨fun pins s σ H x vs v us Q I rx rv h => h.elim (fun h => mt_extT pins s σ H x vs v us Q I rx rv h) (fun h => mt_extend pins s σ H x vs v us Q I rx rv h), fun m S H x a xs as rl ra ras d S' h Q q => by
  unfold mExtendU at h
  split at h
  · split at h
    · split at h
      · cases h
        rename_i e c
        obtain ⟨v, rfl, rv⟩ := ras.one
        obtain ⟨p, vs, rfl, hp, h2, h3⟩ := rl.sqL e ra
        cases rv with
        | tup g1 g2 =>
          obtain ⟨a1, a2⟩ := rl.set hp (.lst (h3.append g2))
          exact .inl ⟨p, _, vs, _, rfl, rfl, h2, g1, by rw [← h3.length, ← g2.length]; exact c, q m _ _ a1 a2 .non⟩
      · cases h
    · cases h
  · exact .inr ((m_extend (X := X)).sr rl ra ras d S' h Q q)⟩
/-! ### xs.index(y), flat items -/
def idxF (a : D) : List D → Option Nat
  | [] => none
  | x :: r => if eqF x a = true then some 0 else (idxF a r).map (· + 1)
theorem idxF_some {a : D} : ∀ {xs : List D} {j : Nat}, idxF a xs = some j → (∃ z, xs[j]? = some z ∧ eqF z a = true) ∧ ∀ (m : Nat) z', m < j → xs[m]? = some z' → eqF z' a = false
  | [], _, h => by cases h
  | x :: r, j, h => by
    unfold idxF at h
    by_cases c : eqF x a = true
    · rw [if_pos c] at h
      cases h
      exact ⟨⟨x, rfl, c⟩, fun m _ hm => absurd hm (Nat.not_lt_zero m)⟩
    · rw [if_neg c] at h
      obtain ⟨k, hk, rfl⟩ := Option.map_eq_some_iff.mp h
      obtain ⟨⟨z, h1, h2⟩, h3⟩ := idxF_some hk
      refine ⟨⟨z, h1, h2⟩, fun m z' hm hz => ?_⟩
      cases m with
      | zero =>
        rw [List.getElem?_cons_zero] at hz
        cases hz
        exact Bool.eq_false_iff.mpr c
      | succ m => exact h3 m z' (by omega) (by rw [List.getElem?_cons_succ] at hz; exact hz)
def mIndexL (a : D) (as : List D) : M D := fun S => match a, as with
  | .ref i, [d] => match S[i]? with
    | some (.lst xs) => if flatD d = true ∧ xs.all flatD = true then match idxF d xs with
      | some j => some (.int (j : Nat), S)
      | none => none
      else none
    | _ => none
  | _, _ => none
theorem m_indexL : DM X "list" "list.index" (rIndex X.K) mIndexL := ⟨mt_index, fun m S H x a xs as rl ra ras d S' h Q q => by
  unfold mIndexL at h
  split at h
  · split at h
    · rename_i xs0 e
      split at h
      · rename_i c
        split at h
        · rename_i j hj
          cases h
          obtain ⟨v, rfl, rv⟩ := ras.one
          obtain ⟨p, vs, rfl, hp, h2, h3⟩ := rl.sqL e ra
          obtain ⟨⟨z, z1, z2⟩, z3⟩ := idxF_some hj
          obtain ⟨w, w1, w2⟩ := h3.get z1
          refine ⟨p, vs, v, j, w, rfl, rfl, .inl (.inl h2), flat_rep rv c.1, flat_reps h3 c.2, w1, ?_, fun m0 w' hm hw => ?_, q m H _ rl .refl (.int _)⟩
          · rw [eqF_rep w2 rv (List.all_eq_true.mp c.2 z (List.mem_of_getElem? z1)) c.1]
            exact z2
          · have hml : m0 < xs0.length := by
              rw [h3.length]
              exact (List.getElem?_eq_some_iff.mp hw).1
            obtain ⟨w2', g1, g2⟩ := h3.get (List.getElem?_eq_getElem hml)
            rw [hw] at g1
            cases g1
            rw [eqF_rep g2 rv (List.all_eq_true.mp c.2 _ (List.getElem_mem hml)) c.1]
            exact z3 m0 _ hm (List.getElem?_eq_getElem hml)
        · cases h
      · cases h
    · cases h
  · cases h⟩
end
end TS
set_option Elab.async false
set_option linter.all false
set_option maxRecDepth 100000
set_option maxHeartbeats 2000000
namespace TS
open PySem PySem.Spec PyProof.Rows L2
/-! ### x[::-1] of a tuple, besides texts and lists -/
section
open HT
variable {prog : Program} {w : World} {A : Around} {E : Value → Shared → Prop} {s : Shared}
theorem sliceApplied_rev {sl : Addr} {vs : Value} {n : Nat} {Q : Int × Int × Nat → Shared → Prop} (hs : s.heap.IsSliceOf sl .none .none vs) (pst : IsPart vs (some (-1)))
    (h : Q ((n : Int) - 1, -1, n) s) : wpAny (model prog w) A (Builtin.Slice.sliceApplied (.ref sl) (pure (n : Int))) Q E s := by
  obtain ⟨os, hos, hcs, hds⟩ := id hs
  unfold Builtin.Slice.sliceApplied Builtin.Slice.sliceFields
  refine wpAny_bind (wpAny_bind (wpAny_field hos hds (x := .none) rfl (wpAny_bind (wpAny_field hos hds (x := .none) rfl (wpAny_bind (wpAny_field hos hds (x := vs) rfl (wpAny_pure ?_)))))))
  refine wpAny_bind (slicePart_ pst ?_)
  show wpAny _ _ (if ((-1 : Int) == 0) = true then _ else _) _ _ s
  rw [if_neg (by decide)]
  refine wpAny_bind (slicePart_none (wpAny_bind (slicePart_none (wpAny_bind (wpAny_pure ?_)))))
  show wpAny _ _ (pure ((n : Int) - 1, (-1 : Int), Builtin.Slice.slicePlaces ((n : Int) - 1) (-1) (-1))) _ _ s
  have e : Builtin.Slice.slicePlaces ((n : Int) - 1) (-1) (-1) = n := by
    unfold Builtin.Slice.slicePlaces
    rw [if_neg (by decide)]
    split
    · rw [show -(-1 : Int) = 1 by decide, Int.ediv_one]
      omega
    · have : n = 0 := by omega
      rw [this]
      rfl
  rw [e]
  exact wpAny_pure h
theorem range_rev (n : Nat) : (List.range n).map (fun m => n - 1 - m) = (List.range n).reverse := by
  refine List.ext_getElem (by simp) fun i h1 h2 => ?_
  simp
theorem pick_rev (xs : Array Value) : ((List.range xs.size).filterMap fun (m : Nat) => xs[((xs.size : Int) - 1 + (m : Int) * (-1)).toNat]?) = xs.toList.reverse := by
  have e : ∀ l : List Nat, (∀ m ∈ l, m < xs.size) → (l.filterMap fun (m : Nat) => xs[((xs.size : Int) - 1 + (m : Int) * (-1)).toNat]?) = (l.map fun m => xs.size - 1 - m).filterMap (xs[·]?) := by
    intro l
    induction l with
    | nil => intro _; rfl
    | cons m r ih =>
      intro h
      have h1 := h m (List.mem_cons_self ..)
      have e1 : ((xs.size : Int) - 1 + (m : Int) * (-1)).toNat = xs.size - 1 - m := by omega
      rw [List.map_cons, List.filterMap_cons, List.filterMap_cons, ih fun y hy => h y (List.mem_cons_of_mem _ hy), e1]
  rw [e _ fun m hm => List.mem_range.mp hm, range_rev, List.filterMap_reverse, PySem.W.krv_all]
/-- what tuple.__getitem__ gives for a slice that turns -/
theorem tuple_turned {t sl : Addr} {items : Array Value} {vs : Value} {Q : Value → Shared → Prop} (ht : IsTup s.heap t items) (hs : s.heap.IsSliceOf sl .none .none vs) (pst : IsPart vs (some (-1)))
    (h : Q (.ref s.heap.objs.size) { s with heap := s.heap.push { cls := .type "tuple", data := .seq items.toList.reverse.toArray } })
    (hsz : items.size ≤ sizeLine) : wpAny (model prog w) A (Builtin.«tuple.__getitem__» ⟨[.ref t, .ref sl], []⟩) (fun fin s' => ∃ v, fin = .done (.ret v) ∧ Q v s') E s := by
  have isSlice : s.TypeIs (.ref sl) "slice" := let ⟨o, h1, h2, _⟩ := hs; ⟨o, h1, h2⟩
  have small : sizeOk (.seq items.toList.reverse.toArray) := by
    show items.toList.reverse.toArray.size ≤ sizeLine
    simpa using hsz
  have whole : ((((items.size : Int) - 1) == 0 && (-1 : Int) == 1 && items.size == items.size) = true) = False := by
    rw [show ((-1 : Int) == 1) = false from rfl, Bool.and_false, Bool.false_and]
    exact eq_false Bool.false_ne_true
  have made : wpAny (model prog w) A (Builtin.Tuple.tupleExact items.toList.reverse.toArray) Q E s := wpAny_newObj_type h small
  have run : wpAny (model prog w) A (Builtin.Tuple.tupleItemsOf (.ref t)) (fun xs s1 => xs = items ∧ s1 = s) E s := tupleItemsOf_ ht ⟨rfl, rfl⟩
  have kind : wpAny (model prog w) A (typeOf (.ref sl)) (fun c s1 => c = .type "slice" ∧ s1 = s) E s := wpAny_typeOf isSlice ⟨rfl, rfl⟩
  have parts : wpAny (model prog w) A (Builtin.Slice.sliceApplied (.ref sl) (pure (items.size : Int))) (fun q s1 => q = ((items.size : Int) - 1, -1, items.size) ∧ s1 = s) E s := sliceApplied_rev hs pst ⟨rfl, rfl⟩
  refine wpAny_bind (m := Builtin.Tuple.tupleItemsOf (.ref t)) (wpAny_mono run (fun xs s1 h1 => ?_) fun _ _ x => x)
  obtain ⟨rfl, rfl⟩ := h1
  refine wpAny_bind (wpAny_mono kind (fun c s1 h1 => ?_) fun _ _ x => x)
  obtain ⟨rfl, rfl⟩ := h1
  rw [if_pos (show ((Value.type "slice" == Value.type "slice") = true) by decide)]
  refine wpAny_bind (wpAny_mono parts (fun q s1 h1 => ?_) fun _ _ x => x)
  obtain ⟨rfl, rfl⟩ := h1
  dsimp only
  rw [if_neg (by rw [whole]; exact id), pick_rev]
  exact wpAny_bind (wpAny_mono made (fun v s2 hq => wpAny_pure ⟨v, rfl, hq⟩) fun _ _ x => x)
theorem getItem_tuple_rev {t sl : Addr} {items : Array Value} {vs : Value} {Q : Value → Shared → Prop} (ht : IsTup s.heap t items) (hs : s.heap.IsSliceOf sl .none .none vs) (pst : IsPart vs (some (-1)))
    (h : Q (.ref s.heap.objs.size) { s with heap := s.heap.push { cls := .type "tuple", data := .seq items.toList.reverse.toArray } })
    (hsz : items.size ≤ sizeLine) : wpAny (model prog w) A (getItem (.ref t) (.ref sl)) Q E s := by
  exact wpAny_getItem_slot ht.typeIs (by decide) PyProof.Rows.slot_tuple_getitem (wpAny_call_entry PyProof.Rows.slot_tuple_getitem ht.typeIs entry_tuple_getitem (tuple_turned ht hs pst h hsz) (args_tuple_getitem _ _))
end
section
variable {X : Cx} {e : Expr} {te : TE} {f : SEnv → M D} {k : Nat} {p1 p2 p3 pos : Pos}
def tRevV (K : PySem.W.Frag) (te : TE) : TE := fun σ H Q => te σ H fun x H1 => ((∃ z : Str, x = .str z ∧ z.length ≤ sizeLine ∧ Q (.str (turnS z)) H1) ∨ (∃ a xs, x = .ref a ∧ SqL K H1 a xs ∧ ∀ p, H1 p = none → Q (.ref p) (upd H1 p (.lst xs.reverse)))) ∨ (∃ a xs, x = .ref a ∧ SqT K H1 a xs ∧ ∀ p, H1 p = none → Q (.ref p) (upd H1 p (.tup xs.reverse)))
theorem pe_revV (he : PE X e te) : PE X (.Subscript e (.Slice none none (some (.UnaryOp .USub (.Constant (.int 1) k p1) p2)) p3) pos) (tRevV X.K te) := by
  refine ⟨fun pins s σ H Q I h => ?_⟩
  refine Subscript_ (thn (he.run pins s σ H _ I h) fun v s1 ⟨x, H1, I1, r1, q1⟩ => ?_)
  have neg1 : PO X (some (.UnaryOp .USub (.Constant (.int 1) k p1) p2)) (tPart (tUn (rU fun i => .int (-i)) (tC (.int 1)))) := po_some (pe_un un_neg pe_int)
  have lo0 := fun (s2 : Shared) (G : Hp) (I2 : Inv X pins σ G s2) => (po_none (X := X)).run pins s2 σ G (fun o G2 => o = none ∧ G2 = G) I2 ⟨rfl, rfl⟩
  refine wpAny_Slice (thn (lo0 s1 H1 I1) fun v1 s2 ⟨o1, G1, J1, a1, b1, c1⟩ => ?_)
  subst b1 c1
  refine thn (lo0 s2 G1 J1) fun v2 s3 ⟨o2, G2, J2, a2, b2, c2⟩ => ?_
  subst b2 c2
  refine thn (neg1.run pins s3 σ G2 (fun o G => o = some (-1) ∧ G = G2) J2 ⟨1, rfl, -1, rfl, rfl, rfl⟩) fun v3 s4 ⟨o3, G3, J3, a3, b3, c3⟩ => ?_
  subst b3 c3
  rcases q1 with q1 | q1
  ·
    rcases q1 with ⟨z, rfl, hz, q⟩ | ⟨a, xs, rfl, hx, q⟩
    · obtain ⟨t, rfl⟩ := r1
      cases a1
      cases a2
      cases a3
      rename_i tk _
      refine tail_any (ops := [.ref s4.heap.objs.size, .str z t]) (typeIs_str _ z t) PySem.F.slot_str_getitem.lookup (wpAny_getItem_str_slice (l := none) (u := none) (st := some (-1, tk)) ⟨_, Heap.get?_push_size _ rfl, rfl, rfl⟩ rfl ?_) (by with_unfolding_all rfl)
      have e : sliceMade z t none none (some (-1, tk)) = .str (turnS z) := by
        unfold sliceMade
        rw [if_neg (by simp)]
        unfold turnS slicePicked
        show Made.str ⟨((Builtin.Str.strSliceIndices none none (-1) z.length).filterMap (z.cps[·]?)).toArray⟩ = _
        have e2 : Builtin.Str.strSliceIndices none none (-1) z.length = (List.range z.length).reverse := by
          rw [← PySem.W.krv_range, ← PySem.W.krv_sliceRange]
          rfl
        rw [e2, List.filterMap_reverse, show z.length = z.cps.size from rfl, PySem.W.krv_all]
      rw [e]
      exact ⟨by unfold turnS; simpa [Str.length] using hz, .str (turnS z), G3, (J3.kept (t' := s4.toks) fun b ob q => Heap.get?_push_of_some _ q).tok _, ⟨_, rfl⟩, q⟩
    · cases r1
      have J4 : Inv X pins σ G3 { s4 with heap := s4.heap.push { cls := .type "slice", data := .fields #[v1, v2, v3] } } := J3.kept (t' := s4.toks) fun b ob q => Heap.get?_push_of_some _ q
      obtain ⟨us, rv, pl, hz⟩ := J4.list hx
      have hl := rv.length
      refine tail_any (ops := [.ref a, .ref s4.heap.objs.size]) pl.isList.typeIs PySem.slot_list_getitem.lookup (wpAny_getItem_list_slice pl.isList (Heap.IsSliceOf.new _ v1 v2 v3) a1 a2 a3 (by decide) ?_ (by rw [List.size_toArray]; omega)) (by with_unfolding_all rfl)
      rw [PySem.W.krv_pick]
      exact ⟨.ref _, _, J4.laid (t' := s4.toks) (o := .lst xs.reverse) (fun b ob q => Heap.get?_push_of_some _ q) (Nat.le_refl _) ⟨by rw [List.length_reverse]; exact hz, _, 0, rv.reverse, Heap.get?_push_size _ rfl⟩, rfl, q _ (J4.hok.fresh (Nat.le_refl _))⟩
  ·
    obtain ⟨a, xs, rfl, hx, q⟩ := q1
    cases r1
    have J4 : Inv X pins σ G3 { s4 with heap := s4.heap.push { cls := .type "slice", data := .fields #[v1, v2, v3] } } := J3.kept (t' := s4.toks) fun b ob q => Heap.get?_push_of_some _ q
    obtain ⟨us, rv, it, hz⟩ := J4.tuple hx
    have hl := rv.length
    cases a1
    cases a2
    refine tail_any (ops := [.ref a, .ref s4.heap.objs.size]) it.typeIs PyProof.Rows.slot_tuple_getitem.lookup (getItem_tuple_rev it (Heap.IsSliceOf.new _ .none .none v3) a3 ?_ (by rw [List.size_toArray]; omega)) (by with_unfolding_all rfl)
    exact ⟨.ref _, _, J4.laid (t' := s4.toks) (o := .tup xs.reverse) (fun b ob q => Heap.get?_push_of_some _ q) (Nat.le_refl _) ⟨by rw [List.length_reverse]; omega, _, rv.reverse, IsTup.new _ _⟩, rfl, q _ (J4.hok.fresh (Nat.le_refl _))⟩
def revVM (d : D) : M D := fun S => match d with
  | .tup xs => some (.tup xs.reverse, S)
  | d => revUM d S
def eRevV (f : SEnv → M D) : SEnv → M D := fun env => bnd (f env) revVM
theorem dk_revV (K : PySem.W.Frag) (hK : X.K = K) (he : DE X e te f) : DE X (.Subscript e (.Slice none none (some (.UnaryOp .USub (.Constant (.int 1) k p1) p2)) p3) pos) (tRevV K te) (eRevV f) := by
  subst hK
  refine ⟨pe_revV he.pe, fun m S H env σ rl re d S' h Q q => ?_⟩
  obtain ⟨a, S1, h1, h2⟩ := bnd_some h
  refine he.se rl re a S1 h1 _ fun m1 H1 v rl1 e1 rv => ?_
  unfold revVM at h2
  split at h2
  · cases h2
    cases rv with
    | tup g1 g2 =>
      refine .inr ⟨_, _, rfl, g1, fun p hp => ?_⟩
      obtain ⟨a1, a2, a3⟩ := rl1.tup hp g2.turn
      exact q _ _ _ a1 (e1.trans a2) a3
  · left
    unfold revUM at h2
    split at h2
    · split at h2
      · cases h2
        cases rv
        exact .inl ⟨_, rfl, by assumption, q m1 H1 _ rl1 e1 (.str _)⟩
      · cases h2
    · split at h2
      · cases h2
        rename_i hx
        obtain ⟨p, vs, rfl, hp, h3, h4⟩ := rl1.sqL hx rv
        refine .inr ⟨p, vs, rfl, .inl (.inl h3), fun p2 hp2 => ?_⟩
        obtain ⟨a1, a2, a3⟩ := rl1.new hp2 (.lst h4.turn)
        exact q _ _ _ a1 (e1.trans a2) a3
      · cases h2
    · cases h2
end
end TS
set_option Elab.async false
set_option linter.all false
set_option maxRecDepth 100000
namespace TS
open PySem PySem.Spec PyProof.Rows L2
section
variable {S : Store} {Q : D → Store → Prop}
theorem w_mulX {i j : Int} : wp (mulX (.int i) (.int j)) S Q ↔ (smallI i = true ∨ smallI j = true ∨ wideI i j = true) ∧ Q (.int (i * j)) S := by
  constructor
  · rintro ⟨a, S', h, q⟩
    unfold mulX at h
    simp only at h
    split at h
    · cases h; exact ⟨by assumption, q⟩
    · cases h
  · exact fun ⟨h, q⟩ => ⟨_, S, if_pos h, q⟩
theorem w_mulXS {z : Str} {n : Int} : wp (mulX (.str z) (.int n)) S Q ↔ (0 ≤ n ∧ n ≤ 1000 ∧ z.length ≤ 1000) ∧ Q (.str (Txt.mul z n)) S := by
  constructor
  · rintro ⟨a, S', h, q⟩
    unfold mulX at h
    simp only at h
    split at h
    · cases h; exact ⟨by assumption, q⟩
    · cases h
  · exact fun ⟨h, q⟩ => ⟨_, S, if_pos h, q⟩
theorem w_ord {c : Nat} : wp (nOrd [.str ⟨#[c]⟩]) S Q ↔ Q (.int (c : Nat)) S := wp_some (by
  unfold nOrd
  exact if_pos rfl)
theorem wide_by {i j : Int} {a b : Nat} (ha : i.natAbs < 2 ^ a) (hb : j.natAbs < 2 ^ b) (h0 : 0 < a) (h1 : 0 < b) (h : a + b ≤ 1000000) : wideI i j = true := by
  have := wide_mul ha hb h0 h1 h
  unfold CMulW at this
  unfold wideI
  exact decide_eq_true this
end
end TS
set_option Elab.async false
set_option linter.all false
set_option maxRecDepth 100000
namespace TS
open PySem PySem.Spec PyProof.Rows L2
section
variable {S : Store} {Q : D → Store → Prop}
theorem x_isiSS {x : Str} : wp (nIsi [.str x, .ty "str"]) S Q ↔ Q (.bl true) S := wp_some rfl
theorem x_isiIS {i : Int} : wp (nIsi [.int i, .ty "str"]) S Q ↔ Q (.bl false) S := wp_some rfl
theorem x_isiII {i : Int} : wp (nIsi [.int i, .ty "int"]) S Q ↔ Q (.bl true) S := wp_some rfl
theorem x_isiIB {i : Int} : wp (nIsi [.int i, .ty "bool"]) S Q ↔ Q (.bl false) S := wp_some rfl
theorem x_isiTT {xs : List D} : wp (nIsi [.tup xs, .ty "tuple"]) S Q ↔ Q (.bl true) S := wp_some rfl
theorem x_isiNS : wp (nIsi [.non, .ty "str"]) S Q ↔ Q (.bl false) S := wp_some rfl
theorem x_isTN {xs : List D} : wp (isD (.tup xs) .non) S Q ↔ Q (.bl false) S := wp_some rfl
theorem x_isSN {x : Str} : wp (isD (.str x) .non) S Q ↔ Q (.bl false) S := wp_some rfl
theorem x_isIN {i : Int} : wp (isD (.int i) .non) S Q ↔ Q (.bl false) S := wp_some rfl
theorem x_notTN {xs : List D} : wp (notD (.tup xs) .non) S Q ↔ Q (.bl true) S := wp_some rfl
theorem x_notSN {x : Str} : wp (notD (.str x) .non) S Q ↔ Q (.bl true) S := wp_some rfl
theorem x_notIN {i : Int} : wp (notD (.int i) .non) S Q ↔ Q (.bl true) S := wp_some rfl
theorem x_revX {f : SEnv → M D} {env : SEnv} : wp (eRevU f env) S Q ↔ wp (f env) S fun d S1 => wp (revUM d) S1 Q := wp_bnd
theorem x_revL {r : Nat} {xs : List D} (h : S[r]? = some (.lst xs)) : wp (revUM (.ref r)) S Q ↔ Q (.ref S.length) (S ++ [.lst xs.reverse]) := wp_some (by unfold revUM; simp only [h])
theorem x_revS {z : Str} (h : z.length < 100000) : wp (revUM (.str z)) S Q ↔ Q (.str (turnS z)) S := wp_some (by unfold revUM; simp only [Nat.le_of_lt (sz_lt h), if_true])
theorem w_asBl {b : Bool} {env : SEnv} {QB : Bool → Store → Prop} : wp (asB (eC (.bl b)) env) S QB ↔ QB b S := by
  rw [w_asB, w_c]
  constructor
  · rintro ⟨c, e, q⟩
    cases e
    exact q
  · exact fun q => ⟨b, rfl, q⟩
end
theorem x_app_len (x y : Str) : (x ++ y).length = x.length + y.length := Array.size_append
theorem xglue_fold : ∀ (ys : List Str) (a : Array Nat), (⟨ys.foldl (fun acc p => acc ++ (Str.ofString "").cps ++ p.cps) a⟩ : Str) = ys.foldl (· ++ ·) ⟨a⟩
  | [], a => rfl
  | y :: r, a => by
    rw [List.foldl_cons, List.foldl_cons, xglue_fold r]
    have : a ++ (Str.ofString "").cps ++ y.cps = a ++ y.cps := by
      rw [show (Str.ofString "").cps = #[] by decide +kernel, Array.append_empty]
    rw [this]
    rfl
theorem xjoin_put (ys : List Str) : Txt.join (Str.ofString "") ys = ys.foldl (· ++ ·) ⟨#[]⟩ := by
  cases ys with
  | nil => rfl
  | cons y r =>
    have h := xglue_fold r y.cps
    show (⟨_⟩ : Str) = _
    rw [List.foldl_cons]
    refine Eq.trans h ?_
    congr 1
    show y = ⟨#[] ++ y.cps⟩
    rw [Array.empty_append]
theorem xstrsOf_map : ∀ l : List Str, strsOf (l.map .str) = some l
  | [] => rfl
  | x :: r => by show (strsOf (r.map .str)).map (x :: ·) = _; rw [xstrsOf_map r]; rfl
theorem x_join0 {r : Nat} {ys : List Str} {S : Store} {Q : D → Store → Prop} (h : S[r]? = some (.lst (ys.map .str))) (hb : (ys.map (·.length)).sum ≤ 16777216) : wp (mJoin (.str (Str.ofString "")) [.ref r]) S Q ↔ Q (.str (ys.foldl (· ++ ·) ⟨#[]⟩)) S :=
  wp_some (by
    unfold mJoin seqOf
    simp only [h, xstrsOf_map]
    rw [if_pos (by rw [show (Str.ofString "").length = 0 by decide +kernel]; omega), xjoin_put])
theorem x_emp : (Str.ofString "") = (⟨#[]⟩ : Str) := by decide +kernel
theorem xfold_list : ∀ (ys : List Str) (a : Str), (ys.foldl (· ++ ·) a).cps.toList = a.cps.toList ++ (ys.map fun y => y.cps.toList).flatten
  | [], a => by simp
  | y :: r, a => by
    rw [List.foldl_cons, xfold_list r, List.map_cons, List.flatten_cons, ← List.append_assoc]
    congr 1
    exact Array.toList_append
/-- signs put together -/
theorem x_joinCs {r : Nat} {ds : List D} {S : Store} {Q : D → Store → Prop} (P : Nat → Prop) (h : S[r]? = some (.lst ds)) (hds : ∀ d ∈ ds, ∃ c, P c ∧ d = .str ⟨#[c]⟩) (hl : ds.length ≤ 1000000) (k : ∀ z : Str, z.length = ds.length → (∀ c ∈ z.cps.toList, P c) → Q (.str z) S) : wp (mJoin (.str (Str.ofString "")) [.ref r]) S Q := by
  have key : ∀ l : List D, (∀ d ∈ l, ∃ c, P c ∧ d = .str ⟨#[c]⟩) → ∃ cs : List Nat, (∀ c ∈ cs, P c) ∧ l = (cs.map fun c => (⟨#[c]⟩ : Str)).map .str := by
    intro l
    induction l with
    | nil => exact fun _ => ⟨[], (fun _ h => nomatch h), rfl⟩
    | cons d l ih =>
      intro hx
      obtain ⟨c, hc, rfl⟩ := hx d (List.mem_cons_self ..)
      obtain ⟨cs, h1, rfl⟩ := ih fun d hd => hx d (List.mem_cons_of_mem _ hd)
      refine ⟨c :: cs, fun x hx => ?_, rfl⟩
      rcases List.mem_cons.mp hx with rfl | hx
      · exact hc
      · exact h1 x hx
  obtain ⟨cs, hc, rfl⟩ := key ds hds
  rw [List.length_map, List.length_map] at hl
  have hsum : ∀ l : List Nat, ((l.map fun c => (⟨#[c]⟩ : Str)).map (·.length)).sum = l.length := by
    intro l
    induction l with
    | nil => rfl
    | cons c l ih =>
      rw [List.map_cons, List.map_cons, List.sum_cons, ih, List.length_cons]
      show 1 + l.length = _
      omega
  have hflat : ∀ l : List Nat, ((l.map fun c => (⟨#[c]⟩ : Str)).map fun y => y.cps.toList).flatten = l := by
    intro l
    induction l with
    | nil => rfl
    | cons c l ih =>
      rw [List.map_cons, List.map_cons, List.flatten_cons, ih]
      rfl
  rw [x_join0 h (by rw [hsum]; omega)]
  have e := xfold_list (cs.map fun c => (⟨#[c]⟩ : Str)) (⟨#[]⟩ : Str)
  rw [hflat] at e
  have e2 : ((cs.map fun c => (⟨#[c]⟩ : Str)).foldl (· ++ ·) (⟨#[]⟩ : Str)).cps.toList = cs := e
  refine k _ ?_ fun c hc' => hc c ?_
  · rw [← len_toList, e2, List.length_map, List.length_map]
  · rw [e2] at hc'
    exact hc'
theorem x_enum {f : SEnv → M (List D)} {env : SEnv} {S : Store} {QI : List D × Gd → Store → Prop} : wp (iEnM f env) S QI ↔ wp (f env) S fun ds S1 => ∃ a p, ds = [a] ∧ srcOf S1 a = some p ∧ QI (enD p.1, p.2) S1 := by
  unfold iEnM
  rw [wp_bnd]
  constructor
  · exact fun h => h.mono fun ds S1 ⟨r, S2, e, q⟩ => by
      split at e
      · rename_i a
        dsimp only at e
        split at e
        · rename_i e1
          cases e
          exact ⟨_, _, rfl, e1, q⟩
        · cases e
      · cases e
  · exact fun h => h.mono fun ds S1 ⟨a, p, e, e1, h⟩ => by
      subst e
      exact ⟨_, S1, by show (match srcOf S1 a with | some (xs, g) => some ((enD xs, g), S1) | none => none) = _; rw [e1], h⟩

theorem x_geS1 {S : Store} {Q : D → Store → Prop} {a b : Nat} : wp (geD (.str ⟨#[a]⟩) (.str ⟨#[b]⟩)) S Q ↔ Q (.bl (!decide (a < b))) S := by
  rw [← one_lt a b]
  exact wp_some rfl
/-- a statement that always goes on, with what holds behind it -/
theorem w_cut {f R : SEnv → M (Fl × SEnv)} {env : SEnv} {S : Store} {QF : Fl × SEnv → Store → Prop} (I : SEnv → Store → Prop) (h : wp (f env) S fun r S1 => r.1 = .nx ∧ I r.2 S1) (h2 : ∀ env' S', I env' S' → wp (R env') S' QF) : wp (sSeq f R env) S QF :=
  w_seqA (h.mono fun r S1 ⟨e, i⟩ => ⟨e, h2 _ _ i⟩)
theorem w_lcF {fi : SEnv → M (List D × Gd)} {tgt : D → SEnv → M SEnv} {tt : SEnv → M Bool} {te : SEnv → M D} {vs : List Nat} {env : SEnv} {S : Store} {Q : D → Store → Prop} : wp (eLc fi tgt tt te vs env) S Q ↔ wp (fi env) S fun p S1 => wp (eLc (fun _ => ret p) tgt tt te vs env) S1 Q := by
  unfold eLc
  rw [wp_bnd]
  simp only [wp_bnd, wp_ret]
theorem x_revV {f : SEnv → M D} {env : SEnv} {S : Store} {Q : D → Store → Prop} : wp (eRevV f env) S Q ↔ wp (f env) S fun d S1 => wp (revVM d) S1 Q := wp_bnd
theorem x_revVT {xs : List D} {S : Store} {Q : D → Store → Prop} : wp (revVM (.tup xs)) S Q ↔ Q (.tup xs.reverse) S := wp_some rfl
/-- two fors in a comprehension, by a word over both turns, what is made so far, the store -/
theorem wp_lc2 {fi fi1 : SEnv → M (List D × Gd)} {tgt tgt1 : D → SEnv → M SEnv} {tt1 : SEnv → M Bool} {te : SEnv → M D} {vs us : List Nat} {env : SEnv} {S S1 : Store} {Q : D → Store → Prop} {xs : List D} {g : Gd} (src : Nat → List D) (gs : Nat → Gd)
    (h0 : fi env S = some ((xs, g), S1)) (I : Nat → Nat → List D → Store → Prop) (hI : I 0 0 [] (S1 ++ [.lst []]))
    (hk : ∀ i j acc S, I i j acc S → S[S1.length]? = some (.lst acc)) (hg : ∀ i j acc S, I i j acc S → gdOk S g) (hgs : ∀ i j acc S, i < xs.length → I i j acc S → gdOk S (gs i))
    (hl : ∀ i j acc S, I i j acc S → acc.length < sizeLine) (next : ∀ i acc S, i < xs.length → I i (src i).length acc S → I (i + 1) 0 acc S)
    (step : ∀ i x acc S, xs[i]? = some x → I i 0 acc S → wp (tgt x (wipeE env vs)) S fun env1 S2 => wp (fi1 env1) S2 fun pp S3 => pp = (src i, gs i) ∧ S3 = S ∧ ∀ j y acc S4, (src i)[j]? = some y → I i j acc S4 →
      wp (tgt1 y (wipeE env1 us)) S4 fun env2 S5 => wp (tt1 env2) S5 fun b S6 => if b = true then wp (te env2) S6 fun d S7 => S7[S1.length]? = some (.lst acc) ∧ I i (j + 1) (acc ++ [d]) (S7.set S1.length (.lst (acc ++ [d]))) else I i (j + 1) acc S6)
    (fin : ∀ acc S, I xs.length 0 acc S → Q (.ref S1.length) S) : wp (eLc2 fi tgt bYes fi1 tgt1 tt1 te vs us env) S Q := by
  unfold eLc2
  rw [wp_bnd, wp_some h0, wp_bnd, wp_some (show newLst S1 = some (S1.length, S1 ++ [.lst []]) from rfl)]
  have inn : ∀ (i : Nat) (env1 : SEnv), i < xs.length → (∀ j y acc S4, (src i)[j]? = some y → I i j acc S4 →
      wp (tgt1 y (wipeE env1 us)) S4 fun env2 S5 => wp (tt1 env2) S5 fun b S6 => if b = true then wp (te env2) S6 fun d S7 => S7[S1.length]? = some (.lst acc) ∧ I i (j + 1) (acc ++ [d]) (S7.set S1.length (.lst (acc ++ [d]))) else I i (j + 1) acc S6) →
      ∀ (n j : Nat) (acc : List D) (S5 : Store) (R : Unit → Store → Prop), j + n = (src i).length → I i j acc S5 → (∀ acc S6, I i (src i).length acc S6 → R () S6) → wp (lcInM (gs i) S1.length tgt1 tt1 te (wipeE env1 us) ((src i).drop j)) S5 R := by
    intro i env1 hi hst n
    induction n with
    | zero =>
      intro j acc S5 R hj hI r
      have e : (src i).drop j = [] := List.drop_eq_nil_iff.mpr (by omega)
      rw [e]
      show wp (gdM (gs i) (ret ())) S5 R
      rw [wp_gd (hgs i j acc S5 hi hI), wp_ret]
      have : j = (src i).length := by omega
      subst this
      exact r acc S5 hI
    | succ n ih =>
      intro j acc S5 R hj hI r
      have hjl : j < (src i).length := by omega
      rw [drop_at (List.getElem?_eq_getElem hjl)]
      show wp (gdM (gs i) (bnd (tgt1 (src i)[j] (wipeE env1 us)) fun env1' => bnd (tt1 env1') fun b => if b then bnd (te env1') fun d => bnd (pushM S1.length d) fun _ => lcInM (gs i) S1.length tgt1 tt1 te (wipeE env1 us) ((src i).drop (j + 1)) else lcInM (gs i) S1.length tgt1 tt1 te (wipeE env1 us) ((src i).drop (j + 1)))) S5 R
      rw [wp_gd (hgs i j acc S5 hi hI), wp_bnd]
      refine (hst j (src i)[j] acc S5 (List.getElem?_eq_getElem hjl) hI).mono fun env2 S6 h => ?_
      rw [wp_bnd]
      refine h.mono fun b S7 h => ?_
      cases b with
      | true =>
        rw [if_pos rfl] at h ⊢
        rw [wp_bnd]
        refine h.mono fun d S8 ⟨h1, h2⟩ => ?_
        rw [wp_bnd]
        have e : pushM S1.length d S8 = some ((), S8.set S1.length (.lst (acc ++ [d]))) := by
          unfold pushM
          rw [h1]
          exact if_pos (hl i j acc S5 hI)
        rw [wp_some e]
        exact ih (j + 1) (acc ++ [d]) _ R (by omega) h2 r
      | false =>
        rw [if_neg Bool.false_ne_true] at h ⊢
        exact ih (j + 1) acc _ R (by omega) h r
  have out : ∀ (n i : Nat) (acc : List D) (S5 : Store), i + n = xs.length → I i 0 acc S5 → wp (lcOutM g S1.length tgt bYes fi1 tgt1 tt1 te us (wipeE env vs) (xs.drop i)) S5 Q := by
    intro n
    induction n with
    | zero =>
      intro i acc S5 hi hI
      have e : xs.drop i = [] := List.drop_eq_nil_iff.mpr (by omega)
      rw [e]
      show wp (gdM g (ret (.ref S1.length))) S5 Q
      rw [wp_gd (hg i 0 acc S5 hI), wp_ret]
      have : i = xs.length := by omega
      subst this
      exact fin acc S5 hI
    | succ n ih =>
      intro i acc S5 hi hI
      have hil : i < xs.length := by omega
      rw [drop_at (List.getElem?_eq_getElem hil)]
      show wp (gdM g (bnd (tgt xs[i] (wipeE env vs)) fun env1 => bnd (bYes env1) fun b => if b then bnd (fi1 env1) fun p => bnd (lcInM p.2 S1.length tgt1 tt1 te (wipeE env1 us) p.1) fun _ => lcOutM g S1.length tgt bYes fi1 tgt1 tt1 te us (wipeE env vs) (xs.drop (i + 1)) else lcOutM g S1.length tgt bYes fi1 tgt1 tt1 te us (wipeE env vs) (xs.drop (i + 1)))) S5 Q
      rw [wp_gd (hg i 0 acc S5 hI), wp_bnd]
      refine (step i xs[i] acc S5 (List.getElem?_eq_getElem hil) hI).mono fun env1 S6 h => ?_
      rw [wp_bnd, w_yes, if_pos rfl, wp_bnd]
      refine h.mono fun pp S7 ⟨hp, hS, hst⟩ => ?_
      subst hp
      subst hS
      rw [wp_bnd]
      exact inn i env1 hil hst (src i).length 0 acc S7 _ (by omega) hI fun acc' S9 hI' => ih (i + 1) acc' S9 (by omega) (next i acc' S9 hil hI')
  exact out xs.length 0 [] _ (by omega) hI
theorem w_while {n : SEnv → Store → Nat} {c : SEnv → M Bool} {b : SEnv → M (Fl × SEnv)} {env : SEnv} {S : Store} {Q : Fl × SEnv → Store → Prop} : wp (sWhile n c b env) S Q ↔ wp (whileM c b (n env S) env) S Q := Iff.rfl
theorem wp_while {c : SEnv → M Bool} {b : SEnv → M (Fl × SEnv)} {Q : Fl × SEnv → Store → Prop} (I : Nat → SEnv → Store → Prop)
    (step : ∀ m env S, I m env S → wp (c env) S fun k S1 => if k = true then wp (b env) S1 fun r S2 => match r.1 with
      | .nx => ∃ m', m' < m ∧ I m' r.2 S2
      | .ct => ∃ m', m' < m ∧ I m' r.2 S2
      | .bk => Q (.nx, r.2) S2
      | .rt d => Q (.rt d, r.2) S2 else Q (.nx, env) S1) : ∀ (f m : Nat) (env : SEnv) (S : Store), m < f → I m env S → wp (whileM c b f env) S Q
  | 0, _, _, _, h, _ => absurd h (Nat.not_lt_zero _)
  | f + 1, m, env, S, h, hI => by
    show wp (bnd (c env) fun k => if k then bnd (b env) fun r => match r.1 with
      | .nx => whileM c b f r.2
      | .ct => whileM c b f r.2
      | .bk => ret (.nx, r.2)
      | .rt d => ret (.rt d, r.2)
    else ret (.nx, env)) S Q
    rw [wp_bnd]
    refine (step m env S hI).mono fun k S1 q => ?_
    cases k with
    | false =>
      rw [if_neg Bool.false_ne_true] at q ⊢
      exact wp_ret.mpr q
    | true =>
      rw [if_pos rfl] at q ⊢
      rw [wp_bnd]
      refine q.mono fun r S2 q => ?_
      obtain ⟨fl, env2⟩ := r
      cases fl with
      | nx => obtain ⟨m', hm, hI'⟩ := q; exact wp_while I step f m' env2 S2 (by omega) hI'
      | ct => obtain ⟨m', hm, hI'⟩ := q; exact wp_while I step f m' env2 S2 (by omega) hI'
      | bk => exact wp_ret.mpr q
      | rt d => exact wp_ret.mpr q
end TS
set_option Elab.async false
set_option linter.all false
set_option maxRecDepth 100000
set_option maxHeartbeats 4000000
namespace TS
open PySem PySem.Spec PyProof.Rows L2
def topS (i : Nat) : Stmt := PySem.Challenge.pw_threescribes_k62_steps_of_any_integers.main.body.getD i (.Pass ⟨0, 0, 0, 0⟩)
structure GF (mg : Str → Option Value) : Prop where
  b_bool : mg "bool" = none
  b_int : mg "int" = none
  b_isinstance : mg "isinstance" = none
  b_len : mg "len" = none
  b_min : mg "min" = none
  b_ord : mg "ord" = none
  b_range : mg "range" = none
  b_str : mg "str" = none
  b_sum : mg "sum" = none
  b_tuple : mg "tuple" = none
  c_BASE : ∃ t, mg "BASE" = some (.int 27 t)
abbrev s_number_of : Stmt := topS 2
abbrev n_number_of : List Str := ["value", "number", "sign"]
theorem sc_number_of : FnScope ["value", "number", "sign"] ["value"] (defScope s_number_of) := ⟨rfl, rfl, rfl, by decide +kernel, rfl, by decide +kernel, by decide +kernel⟩
noncomputable def f_number_of : SEnv → M (Fl × SEnv) := sSeq (sAsg (eC (.int 0)) (gN 1)) (sSeq (sFor (iAnyM (eVar 0)) (gN 2) (sAsg (eOp addD (eOp subD (eOp addD (eOp mulX (eC (.int 27)) (eVar 1)) (eCall nOrd (aCons (eVar 2) (aNil)))) (eCall nOrd (aCons (eC (.str "a")) (aNil)))) (eC (.int 1))) (gN 1))) (sRet (eVar 1)))
noncomputable def m_number_of : List D → M D := bodyM 3 f_number_of
theorem ok_number_of {P : Program} {w : World} {K : PySem.W.Frag} {mg : Str → Option Value} {base : Heap} {f : Addr} {fd : FuncData} (M : GF mg) (F : Fun K "number_of" "number_of" s_number_of f fd) :
    FnOk P w K mg base CX0 1 f fd ["value"] (spOf K 1 m_number_of) :=
  fn_ok (N := n_number_of) F sc_number_of fun cdv A outer s H E hr => ⟨_, dss_cons (ds_set 1 sc_number_of.nd (de_int))
 (dss_cons (ds_for PassesOwn.never rfl (dk_any K rfl (de_var 0)) (dg_name 2 sc_number_of.nd)
 (dss_one (ds_set 1 sc_number_of.nd (de_op (k_add K rfl) (de_op o_sub (de_op (k_add K rfl) (de_op (k_mulX K rfl) (de_glob (v := .int 27) (by rfl) M.c_BASE.choose_spec ⟨_, rfl⟩ (fun _ _ => .int _)) (de_var 1)) (de_callB c_ord M.b_ord (da_cons (de_var 2) (da_nil)))) (de_callB c_ord M.b_ord (da_cons (de_str) (da_nil)))) (de_int)))))
 (dss_one (ds_ret (de_var 1))))⟩
abbrev s_weight_of : Stmt := topS 3
abbrev n_weight_of : List Str := ["value", "weight", "_"]
theorem sc_weight_of : FnScope ["value", "weight", "_"] ["value"] (defScope s_weight_of) := ⟨rfl, rfl, rfl, by decide +kernel, rfl, by decide +kernel, by decide +kernel⟩
noncomputable def f_weight_of : SEnv → M (Fl × SEnv) := sSeq (sAsg (eC (.int 1)) (gN 1)) (sSeq (sFor (iAnyM (eVar 0)) (gN 2) (sAsg (eOp mulX (eVar 1) (eC (.int 27))) (gN 1))) (sRet (eVar 1)))
noncomputable def m_weight_of : List D → M D := bodyM 3 f_weight_of
theorem ok_weight_of {P : Program} {w : World} {K : PySem.W.Frag} {mg : Str → Option Value} {base : Heap} {f : Addr} {fd : FuncData} (M : GF mg) (F : Fun K "weight_of" "weight_of" s_weight_of f fd) :
    FnOk P w K mg base CX0 1 f fd ["value"] (spOf K 1 m_weight_of) :=
  fn_ok (N := n_weight_of) F sc_weight_of fun cdv A outer s H E hr => ⟨_, dss_cons (ds_set 1 sc_weight_of.nd (de_int))
 (dss_cons (ds_for PassesOwn.never rfl (dk_any K rfl (de_var 0)) (dg_name 2 sc_weight_of.nd)
 (dss_one (ds_set 1 sc_weight_of.nd (de_op (k_mulX K rfl) (de_var 1) (de_glob (v := .int 27) (by rfl) M.c_BASE.choose_spec ⟨_, rfl⟩ (fun _ _ => .int _))))))
 (dss_one (ds_ret (de_var 1))))⟩
abbrev s_powers_of_three : Stmt := topS 4
abbrev n_powers_of_three : List Str := ["many", "powers", "power", "_"]
theorem sc_powers_of_three : FnScope ["many", "powers", "power", "_"] ["many"] (defScope s_powers_of_three) := ⟨rfl, rfl, rfl, by decide +kernel, rfl, by decide +kernel, by decide +kernel⟩
noncomputable def f_powers_of_three : SEnv → M (Fl × SEnv) := sSeq (sAsg (eLst (aNil)) (gN 1)) (sSeq (sAsg (eC (.int 1)) (gN 2)) (sSeq (sFor (iRg1M (aCons (eVar 0) (aNil))) (gN 3) (sSeq (sDrop (eMt "list" mAppend (eVar 1) (aCons (eVar 2) (aNil)))) (sAsg (eOp mulX (eC (.int 3)) (eVar 2)) (gN 2)))) (sRet (eRevU (eVar 1)))))
noncomputable def m_powers_of_three : List D → M D := bodyM 4 f_powers_of_three
theorem ok_powers_of_three {P : Program} {w : World} {K : PySem.W.Frag} {mg : Str → Option Value} {base : Heap} {f : Addr} {fd : FuncData} (M : GF mg) (F : Fun K "powers_of_three" "powers_of_three" s_powers_of_three f fd) :
    FnOk P w K mg base CX0 1 f fd ["many"] (spOf K 1 m_powers_of_three) :=
  fn_ok (N := n_powers_of_three) F sc_powers_of_three fun cdv A outer s H E hr => ⟨_, dss_cons (ds_set 1 sc_powers_of_three.nd (de_lst (da_nil)))
 (dss_cons (ds_set 2 sc_powers_of_three.nd (de_int))
 (dss_cons (ds_for PassesOwn.never rfl (di_rg1 M.b_range (da_cons (de_var 0) (da_nil))) (dg_name 3 sc_powers_of_three.nd)
 (dss_cons (ds_expr (dk_mt K rfl m_append PySem.F.plainAttrs_list PySem.F.slot_list_append PySem.F.type_list_append (de_var 1) (da_cons (de_var 2) (da_nil))))
 (dss_one (ds_set 2 sc_powers_of_three.nd (de_op (k_mulX K rfl) (de_int) (de_var 2))))))
 (dss_one (ds_ret (dk_rev K rfl (de_var 1))))))⟩
abbrev s_weight_terms : Stmt := topS 5
abbrev n_weight_terms : List Str := ["row", "powers", "factor", "index", "item"]
theorem sc_weight_terms : FnScope ["row", "powers", "factor", "index", "item"] ["row", "powers"] (defScope s_weight_terms) := ⟨rfl, rfl, rfl, by decide +kernel, rfl, by decide +kernel, by decide +kernel⟩
noncomputable def f_weight_terms : SEnv → M (Fl × SEnv) := sSeq (sAsg (eC (.int 1)) (gN 2)) (sSeq (sAsg (eC (.int 0)) (gN 3)) (sSeq (sFor (iAnyM (eVar 0)) (gN 4) (sIf (asT (eCall nIsi (aCons (eVar 4) (aCons (eC (.ty "str")) (aNil))))) (sAsg (eOp mulX (eVar 2) (eCall m_weight_of (aCons (eVar 4) (aNil)))) (gN 2)) (sAug 3 (eOp ixU (eVar 1) (eVar 4)) iaddD))) (sRet (eLst (aCons (eTup (aCons (eVar 2) (aCons (eVar 3) (aNil)))) (aNil))))))
noncomputable def m_weight_terms : List D → M D := bodyM 5 f_weight_terms
theorem ok_weight_terms {P : Program} {w : World} {K : PySem.W.Frag} {mg : Str → Option Value} {base : Heap} {f : Addr} {fd : FuncData} (M : GF mg) (C_weight_of : Callee P w K mg base "weight_of" 1 1 ["value"] m_weight_of) (F : Fun K "weight_terms" "weight_terms" s_weight_terms f fd) :
    FnOk P w K mg base CX0 2 f fd ["row", "powers"] (spOf K 2 m_weight_terms) :=
  fn_ok (N := n_weight_terms) F sc_weight_terms fun cdv A outer s H E hr => ⟨_, dss_cons (ds_set 2 sc_weight_terms.nd (de_int))
 (dss_cons (ds_set 3 sc_weight_terms.nd (de_int))
 (dss_cons (ds_for PassesOwn.never rfl (dk_any K rfl (de_var 0)) (dg_name 4 sc_weight_terms.nd)
 (dss_one (ds_if (dk_truth K rfl (de_callB (k_isi K rfl) M.b_isinstance (da_cons (de_var 4) (da_cons (de_ty (by rfl) M.b_str (by decide +kernel)) (da_nil)))))
 (dss_one (ds_set 2 sc_weight_terms.nd (de_op (k_mulX K rfl) (de_var 2) (dk_fn K rfl C_weight_of (hr.mono (by decide)) (da_cons (de_var 4) (da_nil))))))
 (dss_one (ds_aug 3 sc_weight_terms.nd (de_ix (k_ix K rfl (hu_of hr)) (de_var 1) (de_var 4)) o_iadd)))))
 (dss_one (ds_ret (de_lst (da_cons (de_tup (da_cons (de_var 2) (da_cons (de_var 3) (da_nil)))) (da_nil)))))))⟩
abbrev s_number_terms : Stmt := topS 6
abbrev n_number_terms : List Str := ["row", "powers", "terms", "factor", "index", "item"]
theorem sc_number_terms : FnScope ["row", "powers", "terms", "factor", "index", "item"] ["row", "powers"] (defScope s_number_terms) := ⟨rfl, rfl, rfl, by decide +kernel, rfl, by decide +kernel, by decide +kernel⟩
noncomputable def f_number_terms : SEnv → M (Fl × SEnv) := sSeq (sAsg (eLst (aNil)) (gN 2)) (sSeq (sAsg (eC (.int 1)) (gN 3)) (sSeq (sAsg (eC (.int 0)) (gN 4)) (sSeq (sFor (iAnyM (eRevV (eVar 0))) (gN 5) (sIf (asT (eCall nIsi (aCons (eVar 5) (aCons (eC (.ty "str")) (aNil))))) (sSeq (sDrop (eMt "list" mAppend (eVar 2) (aCons (eTup (aCons (eOp mulX (eVar 3) (eCall m_number_of (aCons (eVar 5) (aNil)))) (aCons (eVar 4) (aNil)))) (aNil)))) (sAsg (eOp mulX (eVar 3) (eCall m_weight_of (aCons (eVar 5) (aNil)))) (gN 3))) (sSeq (sDrop (eMt "list" mAppend (eVar 2) (aCons (eTup (aCons (eVar 3) (aCons (eOp addD (eVar 4) (eOp mulX (eC (.int 2)) (eOp ixU (eVar 1) (eVar 5)))) (aNil)))) (aNil)))) (sAug 4 (eOp ixU (eVar 1) (eVar 5)) iaddD)))) (sRet (eVar 2)))))
noncomputable def m_number_terms : List D → M D := bodyM 6 f_number_terms
theorem ok_number_terms {P : Program} {w : World} {K : PySem.W.Frag} {mg : Str → Option Value} {base : Heap} {f : Addr} {fd : FuncData} (M : GF mg) (C_number_of : Callee P w K mg base "number_of" 1 1 ["value"] m_number_of) (C_weight_of : Callee P w K mg base "weight_of" 1 1 ["value"] m_weight_of) (F : Fun K "number_terms" "number_terms" s_number_terms f fd) :
    FnOk P w K mg base CX0 2 f fd ["row", "powers"] (spOf K 2 m_number_terms) :=
  fn_ok (N := n_number_terms) F sc_number_terms fun cdv A outer s H E hr => ⟨_, dss_cons (ds_set 2 sc_number_terms.nd (de_lst (da_nil)))
 (dss_cons (ds_set 3 sc_number_terms.nd (de_int))
 (dss_cons (ds_set 4 sc_number_terms.nd (de_int))
 (dss_cons (ds_for PassesOwn.never rfl (dk_any K rfl (dk_revV K rfl (de_var 0))) (dg_name 5 sc_number_terms.nd)
 (dss_one (ds_if (dk_truth K rfl (de_callB (k_isi K rfl) M.b_isinstance (da_cons (de_var 5) (da_cons (de_ty (by rfl) M.b_str (by decide +kernel)) (da_nil)))))
 (dss_cons (ds_expr (dk_mt K rfl m_append PySem.F.plainAttrs_list PySem.F.slot_list_append PySem.F.type_list_append (de_var 2) (da_cons (de_tup (da_cons (de_op (k_mulX K rfl) (de_var 3) (dk_fn K rfl C_number_of (hr.mono (by decide)) (da_cons (de_var 5) (da_nil)))) (da_cons (de_var 4) (da_nil)))) (da_nil))))
 (dss_one (ds_set 3 sc_number_terms.nd (de_op (k_mulX K rfl) (de_var 3) (dk_fn K rfl C_weight_of (hr.mono (by decide)) (da_cons (de_var 5) (da_nil)))))))
 (dss_cons (ds_expr (dk_mt K rfl m_append PySem.F.plainAttrs_list PySem.F.slot_list_append PySem.F.type_list_append (de_var 2) (da_cons (de_tup (da_cons (de_var 3) (da_cons (de_op (k_add K rfl) (de_var 4) (de_op (k_mulX K rfl) (de_int) (de_ix (k_ix K rfl (hu_of hr)) (de_var 1) (de_var 5)))) (da_nil)))) (da_nil))))
 (dss_one (ds_aug 4 sc_number_terms.nd (de_ix (k_ix K rfl (hu_of hr)) (de_var 1) (de_var 5)) o_iadd))))))
 (dss_one (ds_ret (de_var 2))))))⟩
abbrev s_step_terms : Stmt := topS 7
abbrev n_step_terms : List Str := ["news", "powers", "found", "row", "choices", "terms", "choice", "factor", "index", "other", "more"]
theorem sc_step_terms : FnScope ["news", "powers", "found", "row", "choices", "terms", "choice", "factor", "index", "other", "more"] ["news"] (defScope s_step_terms) := ⟨rfl, rfl, rfl, by decide +kernel, rfl, by decide +kernel, by decide +kernel⟩
noncomputable def f_step_terms : SEnv → M (Fl × SEnv) := sSeq (sAsg (eCall m_powers_of_three (aCons (eCall nLen (aCons (eVar 0) (aNil))) (aNil))) (gN 1)) (sSeq (sAsg (eLst (aCons (eLst (aCons (eTup (aCons (eC (.int 1)) (aCons (eC (.int 0)) (aNil)))) (aNil))) (aNil))) (gN 2)) (sSeq (sFor (iAnyM (eVar 0)) (gN 3) (sSeq (sAsg (eTup (aCons (eLst (aCons (eTup (aCons (eC (.int 1)) (aCons (eC (.int 0)) (aNil)))) (aNil))) (aCons (eCall m_weight_terms (aCons (eVar 3) (aCons (eVar 1) (aNil)))) (aCons (eCall m_number_terms (aCons (eVar 3) (aCons (eVar 1) (aNil)))) (aNil))))) (gN 4)) (sAsg (eLc2 (iAnyM (eVar 2)) (gN 5) (bYes) (iAnyM (eVar 4)) (gN 6) (bYes) (eLc2 (iAnyM (eVar 5)) (gTupM 2 (gsCons (gN 7) (gsCons (gN 8) (gsNil)))) (bYes) (iAnyM (eVar 6)) (gTupM 2 (gsCons (gN 9) (gsCons (gN 10) (gsNil)))) (bYes) (eTup (aCons (eOp mulX (eVar 7) (eVar 9)) (aCons (eOp addD (eVar 8) (eVar 10)) (aNil)))) [7, 8, 9, 10] [9, 10]) [5, 6] [6]) (gN 2)))) (sRet (eVar 2))))
noncomputable def m_step_terms : List D → M D := bodyM 11 f_step_terms
theorem ok_step_terms {P : Program} {w : World} {K : PySem.W.Frag} {mg : Str → Option Value} {base : Heap} {f : Addr} {fd : FuncData} (M : GF mg) (C_number_terms : Callee P w K mg base "number_terms" 2 2 ["row", "powers"] m_number_terms) (C_powers_of_three : Callee P w K mg base "powers_of_three" 1 1 ["many"] m_powers_of_three) (C_weight_terms : Callee P w K mg base "weight_terms" 2 2 ["row", "powers"] m_weight_terms) (F : Fun K "step_terms" "step_terms" s_step_terms f fd) :
    FnOk P w K mg base CX0 3 f fd ["news"] (spOf K 1 m_step_terms) :=
  fn_ok (N := n_step_terms) F sc_step_terms fun cdv A outer s H E hr => ⟨_, dss_cons (ds_set 1 sc_step_terms.nd (dk_fn K rfl C_powers_of_three (hr.mono (by decide)) (da_cons (de_callB (k_len K rfl) M.b_len (da_cons (de_var 0) (da_nil))) (da_nil))))
 (dss_cons (ds_set 2 sc_step_terms.nd (de_lst (da_cons (de_lst (da_cons (de_tup (da_cons (de_int) (da_cons (de_int) (da_nil)))) (da_nil))) (da_nil))))
 (dss_cons (ds_for PassesOwn.never rfl (dk_any K rfl (de_var 0)) (dg_name 3 sc_step_terms.nd)
 (dss_cons (ds_set 4 sc_step_terms.nd (de_tup (da_cons (de_lst (da_cons (de_tup (da_cons (de_int) (da_cons (de_int) (da_nil)))) (da_nil))) (da_cons (dk_fn K rfl C_weight_terms (hr.mono (by decide)) (da_cons (de_var 3) (da_cons (de_var 1) (da_nil)))) (da_cons (dk_fn K rfl C_number_terms (hr.mono (by decide)) (da_cons (de_var 3) (da_cons (de_var 1) (da_nil)))) (da_nil))))))
 (dss_one (ds_setLc2 2 [("terms", 5), ("choice", 6)] [6] rfl sc_step_terms.nd (dk_any K rfl (de_var 2)) (blkOk_by (N := n_step_terms) (sc := defScope s_step_terms) (by decide +kernel)) (by decide) (by decide) (fun _ _ _ _ _ => dg_name 5 sc_step_terms.nd) (fun _ _ _ _ _ => dts_nil) (fun _ _ _ _ _ => dk_any K rfl (de_var 4)) (fun _ _ _ _ _ => dg_name 6 sc_step_terms.nd) (fun _ _ _ _ _ => dts_nil) (fun _ _ _ _ _ => de_lc2 [("factor", 7), ("index", 8), ("other", 9), ("more", 10)] [9, 10] rfl sc_step_terms.nd (dk_any K rfl (de_var 5)) (by refine blkOk_by ?_; exact rfl) (by decide) (by decide) (fun _ _ _ _ _ => dk_tup K rfl rfl (dgs_cons (dg_name 7 sc_step_terms.nd) (dgs_cons (dg_name 8 sc_step_terms.nd) (dgs_nil)))) (fun _ _ _ _ _ => dts_nil) (fun _ _ _ _ _ => dk_any K rfl (de_var 6)) (fun _ _ _ _ _ => dk_tup K rfl rfl (dgs_cons (dg_name 9 sc_step_terms.nd) (dgs_cons (dg_name 10 sc_step_terms.nd) (dgs_nil)))) (fun _ _ _ _ _ => dts_nil) (fun _ _ _ _ _ => de_tup (da_cons (de_op (k_mulX K rfl) (de_var 7) (de_var 9)) (da_cons (de_op (k_add K rfl) (de_var 8) (de_var 10)) (da_nil))))) (sw_true rfl rfl rfl (by decide +kernel))))))
 (dss_one (ds_ret (de_var 2)))))⟩
abbrev s_image : Stmt := topS 8
abbrev n_image : List Str := ["vector", "all_terms", "terms", "factor", "index"]
theorem sc_image : FnScope ["vector", "all_terms", "terms", "factor", "index"] ["vector", "all_terms"] (defScope s_image) := ⟨rfl, rfl, rfl, by decide +kernel, rfl, by decide +kernel, by decide +kernel⟩
noncomputable def f_image : SEnv → M (Fl × SEnv) := sRet (eCall nTuple (aCons (eLc (iAnyM (eVar 1)) (gN 2) (bYes) (eCall nSum (aCons (eLc (iAnyM (eVar 2)) (gTupM 2 (gsCons (gN 3) (gsCons (gN 4) (gsNil)))) (bYes) (eOp mulX (eVar 3) (eOp ixU (eVar 0) (eVar 4))) [3, 4]) (aNil))) [2]) (aNil)))
noncomputable def m_image : List D → M D := bodyM 5 f_image
theorem ok_image {P : Program} {w : World} {K : PySem.W.Frag} {mg : Str → Option Value} {base : Heap} {f : Addr} {fd : FuncData} (M : GF mg) (F : Fun K "image" "image" s_image f fd) :
    FnOk P w K mg base CX0 1 f fd ["vector", "all_terms"] (spOf K 2 m_image) :=
  fn_ok (N := n_image) F sc_image fun cdv A outer s H E hr => ⟨_, dss_one (ds_ret (de_callTy (k_tuple K rfl) M.b_tuple (da_cons (de_lc [("terms", 2)] rfl sc_image.nd (dk_any K rfl (de_var 1)) (blkOk_by (N := n_image) (sc := defScope s_image) (by decide +kernel)) (fun _ _ _ _ _ => dg_name 2 sc_image.nd) (fun _ _ _ _ _ => dts_nil) (fun _ _ _ _ _ => de_callB (k_sum K rfl rfl) M.b_sum (da_cons (de_lc [("factor", 3), ("index", 4)] rfl sc_image.nd (dk_any K rfl (de_var 2)) (by refine blkOk_by ?_; exact rfl) (fun _ _ _ _ _ => dk_tup K rfl rfl (dgs_cons (dg_name 3 sc_image.nd) (dgs_cons (dg_name 4 sc_image.nd) (dgs_nil)))) (fun _ _ _ _ _ => dts_nil) (fun _ _ _ _ _ => de_op (k_mulX K rfl) (de_var 3) (de_ix (k_ix K rfl (hu_of hr)) (de_var 0) (de_var 4)))) (da_nil)))) (da_nil))))⟩
abbrev s_step_vector : Stmt := topS 9
abbrev n_step_vector : List Str := ["vector", "news"]
theorem sc_step_vector : FnScope ["vector", "news"] ["vector", "news"] (defScope s_step_vector) := ⟨rfl, rfl, rfl, by decide +kernel, rfl, by decide +kernel, by decide +kernel⟩
noncomputable def f_step_vector : SEnv → M (Fl × SEnv) := sRet (eCall m_image (aCons (eVar 0) (aCons (eCall m_step_terms (aCons (eVar 1) (aNil))) (aNil))))
noncomputable def m_step_vector : List D → M D := bodyM 2 f_step_vector
theorem ok_step_vector {P : Program} {w : World} {K : PySem.W.Frag} {mg : Str → Option Value} {base : Heap} {f : Addr} {fd : FuncData} (M : GF mg) (C_image : Callee P w K mg base "image" 1 2 ["vector", "all_terms"] m_image) (C_step_terms : Callee P w K mg base "step_terms" 3 1 ["news"] m_step_terms) (F : Fun K "step_vector" "step_vector" s_step_vector f fd) :
    FnOk P w K mg base CX0 4 f fd ["vector", "news"] (spOf K 2 m_step_vector) :=
  fn_ok (N := n_step_vector) F sc_step_vector fun cdv A outer s H E hr => ⟨_, dss_one (ds_ret (dk_fn K rfl C_image (hr.mono (by decide)) (da_cons (de_var 0) (da_cons (dk_fn K rfl C_step_terms (hr.mono (by decide)) (da_cons (de_var 1) (da_nil))) (da_nil)))))⟩
abbrev s_end_number : Stmt := topS 10
abbrev n_end_number : List Str := ["vector", "row", "many", "length", "factor", "index"]
theorem sc_end_number : FnScope ["vector", "row", "many", "length", "factor", "index"] ["vector", "row"] (defScope s_end_number) := ⟨rfl, rfl, rfl, by decide +kernel, rfl, by decide +kernel, by decide +kernel⟩
noncomputable def f_end_number : SEnv → M (Fl × SEnv) := sSeq (sAsg (eC (.int 0)) (gN 2)) (sSeq (sAsg (eC (.int 1)) (gN 3)) (sSeq (sWhile (fun _ _ => 1000000) (asB (eOp ltD (eVar 3) (eCall nLen (aCons (eVar 0) (aNil))))) (sSeq (sAug 2 (eC (.int 1)) iaddD) (sAsg (eOp mulX (eC (.int 3)) (eVar 3)) (gN 3)))) (sRet (eCall nSum (aCons (eLc (iAnyM (eCall m_number_terms (aCons (eVar 1) (aCons (eCall m_powers_of_three (aCons (eVar 2) (aNil))) (aNil))))) (gTupM 2 (gsCons (gN 4) (gsCons (gN 5) (gsNil)))) (bYes) (eOp mulX (eVar 4) (eOp ixU (eVar 0) (eVar 5))) [4, 5]) (aNil))))))
noncomputable def m_end_number : List D → M D := bodyM 6 f_end_number
theorem ok_end_number {P : Program} {w : World} {K : PySem.W.Frag} {mg : Str → Option Value} {base : Heap} {f : Addr} {fd : FuncData} (M : GF mg) (C_number_terms : Callee P w K mg base "number_terms" 2 2 ["row", "powers"] m_number_terms) (C_powers_of_three : Callee P w K mg base "powers_of_three" 1 1 ["many"] m_powers_of_three) (F : Fun K "end_number" "end_number" s_end_number f fd) :
    FnOk P w K mg base CX0 3 f fd ["vector", "row"] (spOf K 2 m_end_number) :=
  fn_ok (N := n_end_number) F sc_end_number fun cdv A outer s H E hr => ⟨_, dss_cons (ds_set 2 sc_end_number.nd (de_int))
 (dss_cons (ds_set 3 sc_end_number.nd (de_int))
 (dss_cons (ds_while (fun _ _ => 1000000) PassesOwn.never (dt_cmp o_lt (de_var 3) (de_callB (k_len K rfl) M.b_len (da_cons (de_var 0) (da_nil))))
 (dss_cons (ds_aug 2 sc_end_number.nd (de_int) o_iadd)
 (dss_one (ds_set 3 sc_end_number.nd (de_op (k_mulX K rfl) (de_int) (de_var 3))))))
 (dss_one (ds_ret (de_callB (k_sum K rfl rfl) M.b_sum (da_cons (de_lc [("factor", 4), ("index", 5)] rfl sc_end_number.nd (dk_any K rfl (dk_fn K rfl C_number_terms (hr.mono (by decide)) (da_cons (de_var 1) (da_cons (dk_fn K rfl C_powers_of_three (hr.mono (by decide)) (da_cons (de_var 2) (da_nil))) (da_nil))))) (blkOk_by (N := n_end_number) (sc := defScope s_end_number) (by decide +kernel)) (fun _ _ _ _ _ => dk_tup K rfl rfl (dgs_cons (dg_name 4 sc_end_number.nd) (dgs_cons (dg_name 5 sc_end_number.nd) (dgs_nil)))) (fun _ _ _ _ _ => dts_nil) (fun _ _ _ _ _ => de_op (k_mulX K rfl) (de_var 4) (de_ix (k_ix K rfl (hu_of hr)) (de_var 0) (de_var 5)))) (da_nil)))))))⟩
abbrev s_law_mix : Stmt := topS 12
abbrev n_law_mix : List Str := ["cell", "k", "low"]
theorem sc_law_mix : FnScope ["cell", "k", "low"] ["cell", "k"] (defScope s_law_mix) := ⟨rfl, rfl, rfl, by decide +kernel, rfl, by decide +kernel, by decide +kernel⟩
noncomputable def f_law_mix : SEnv → M (Fl × SEnv) := sSeq (sAsg (eOp modD (eCall nInt (aCons (eOp addD (eOp addD (eOp mulU (eVar 0) (eC (.int 48271))) (eOp mulU (eVar 1) (eC (.int 69621)))) (eC (.int 11))) (aNil))) (eC (.int 2147483647))) (gN 2)) (sRet (eOp modD (eOp modD (eCall nInt (aCons (eOp addD (eOp addD (eOp addD (eOp mulU (eVar 2) (eVar 2)) (eOp mulU (eVar 0) (eC (.int 40692)))) (eOp mulU (eVar 1) (eC (.int 7)))) (eC (.int 3))) (aNil))) (eC (.int 1000003))) (eC (.int 1000))))
noncomputable def m_law_mix : List D → M D := bodyM 3 f_law_mix
theorem ok_law_mix {P : Program} {w : World} {K : PySem.W.Frag} {mg : Str → Option Value} {base : Heap} {f : Addr} {fd : FuncData} (M : GF mg) (F : Fun K "_law_mix" "_law_mix" s_law_mix f fd) :
    FnOk P w K mg base CX0 1 f fd ["cell", "k"] (spOf K 2 m_law_mix) :=
  fn_ok (N := n_law_mix) F sc_law_mix fun cdv A outer s H E hr => ⟨_, dss_cons (ds_set 2 sc_law_mix.nd (de_op o_mod (de_callTy c_int M.b_int (da_cons (de_op (k_add K rfl) (de_op (k_add K rfl) (de_op (k_mul K rfl) (de_var 0) (de_int)) (de_op (k_mul K rfl) (de_var 1) (de_int))) (de_int)) (da_nil))) (de_int)))
 (dss_one (ds_ret (de_op o_mod (de_op o_mod (de_callTy c_int M.b_int (da_cons (de_op (k_add K rfl) (de_op (k_add K rfl) (de_op (k_add K rfl) (de_op (k_mul K rfl) (de_var 2) (de_var 2)) (de_op (k_mul K rfl) (de_var 0) (de_int))) (de_op (k_mul K rfl) (de_var 1) (de_int))) (de_int)) (da_nil))) (de_int)) (de_int))))⟩
abbrev s_law_stream : Stmt := topS 13
abbrev n_law_stream : List Str := ["script", "most", "row", "k", "rest", "j"]
theorem sc_law_stream : FnScope ["script", "most", "row", "k", "rest", "j"] ["script", "most"] (defScope s_law_stream) := ⟨rfl, rfl, rfl, by decide +kernel, rfl, by decide +kernel, by decide +kernel⟩
noncomputable def f_law_stream : SEnv → M (Fl × SEnv) := sSeq (sAsg (eLst (aNil)) (gN 2)) (sSeq (sFor (iRg1M (aCons (eCall nMin2 (aCons (eCall nLen (aCons (eVar 0) (aNil))) (aCons (eC (.int 63)) (aNil)))) (aNil))) (gN 3) (sSeq (sAsg (eOp ixU (eVar 0) (eVar 3)) (gN 4)) (sIf (asB (eOp geD (eVar 4) (eOp powD (eC (.int 10)) (eC (.int 18))))) (sFor (iRg1M (aCons (eC (.int 60)) (aNil))) (gN 5) (sIf (bAnd (asB (eOp gtD (eVar 4) (eC (.int 0)))) (asB (eOp ltD (eCall nLen (aCons (eVar 2) (aNil))) (eVar 1)))) (sSeq (sDrop (eMt "list" mAppend (eVar 2) (aCons (eOp modD (eCall nInt (aCons (eVar 4) (aNil))) (eC (.int 1000))) (aNil)))) (sAsg (eOp fdivD (eVar 4) (eC (.int 1000))) (gN 4))) (sNx))) (sFor (iRg1M (aCons (eC (.int 3)) (aNil))) (gN 5) (sIf (asB (eOp ltD (eCall nLen (aCons (eVar 2) (aNil))) (eVar 1))) (sDrop (eMt "list" mAppend (eVar 2) (aCons (eCall m_law_mix (aCons (eVar 4) (aCons (eOp addD (eOp mulU (eC (.int 64)) (eVar 5)) (eVar 3)) (aNil)))) (aNil)))) (sNx)))))) (sRet (eDisp (kCons (eC (.str "row")) (eVar 2) (kCons (eC (.str "at")) (eC (.int 0)) (kCons (eC (.str "seed")) (eOp addD (eCall nSum (aCons (eVar 2) (aNil))) (eCall nLen (aCons (eVar 2) (aNil)))) (kNil)))))))
noncomputable def m_law_stream : List D → M D := bodyM 6 f_law_stream
theorem ok_law_stream {P : Program} {w : World} {K : PySem.W.Frag} {mg : Str → Option Value} {base : Heap} {f : Addr} {fd : FuncData} (M : GF mg) (C_law_mix : Callee P w K mg base "_law_mix" 1 2 ["cell", "k"] m_law_mix) (F : Fun K "_law_stream" "_law_stream" s_law_stream f fd) :
    FnOk P w K mg base CX0 2 f fd ["script", "most"] (spOf K 2 m_law_stream) :=
  fn_ok (N := n_law_stream) F sc_law_stream fun cdv A outer s H E hr => ⟨_, dss_cons (ds_set 2 sc_law_stream.nd (de_lst (da_nil)))
 (dss_cons (ds_for PassesOwn.never rfl (di_rg1 M.b_range (da_cons (de_callB (c_min2 rfl) M.b_min (da_cons (de_callB (k_len K rfl) M.b_len (da_cons (de_var 0) (da_nil))) (da_cons (de_int) (da_nil)))) (da_nil))) (dg_name 3 sc_law_stream.nd)
 (dss_cons (ds_set 4 sc_law_stream.nd (de_ix (k_ix K rfl (hu_of hr)) (de_var 0) (de_var 3)))
 (dss_one (ds_if (dt_cmp o_ge (de_var 4) (de_op o_pow (de_int) (de_int)))
 (dss_one (ds_for PassesOwn.never rfl (di_rg1 M.b_range (da_cons (de_int) (da_nil))) (dg_name 5 sc_law_stream.nd)
 (dss_one (ds_if (dt_w (dw_and (dt_cmp o_gt (de_var 4) (de_int)) (dw_and1 (dt_cmp o_lt (de_callB (k_len K rfl) M.b_len (da_cons (de_var 2) (da_nil))) (de_var 1)))))
 (dss_cons (ds_expr (dk_mt K rfl m_append PySem.F.plainAttrs_list PySem.F.slot_list_append PySem.F.type_list_append (de_var 2) (da_cons (de_op o_mod (de_callTy c_int M.b_int (da_cons (de_var 4) (da_nil))) (de_int)) (da_nil))))
 (dss_one (ds_set 4 sc_law_stream.nd (de_op o_fdiv (de_var 4) (de_int)))))
 (dss_nil)))))
 (dss_one (ds_for PassesOwn.never rfl (di_rg1 M.b_range (da_cons (de_int) (da_nil))) (dg_name 5 sc_law_stream.nd)
 (dss_one (ds_if (dt_cmp o_lt (de_callB (k_len K rfl) M.b_len (da_cons (de_var 2) (da_nil))) (de_var 1))
 (dss_one (ds_expr (dk_mt K rfl m_append PySem.F.plainAttrs_list PySem.F.slot_list_append PySem.F.type_list_append (de_var 2) (da_cons (dk_fn K rfl C_law_mix (hr.mono (by decide)) (da_cons (de_var 4) (da_cons (de_op (k_add K rfl) (de_op (k_mul K rfl) (de_int) (de_var 5)) (de_var 3)) (da_nil)))) (da_nil)))))
 (dss_nil)))))))))
 (dss_one (ds_ret (de_disp (dps_cons (de_str) (de_var 2) (dps_cons (de_str) (de_int) (dps_cons (de_str) (de_op (k_add K rfl) (de_callB (k_sum K rfl rfl) M.b_sum (da_cons (de_var 2) (da_nil))) (de_callB (k_len K rfl) M.b_len (da_cons (de_var 2) (da_nil)))) (dps_nil))))))))⟩
abbrev s_law_pick : Stmt := topS 14
abbrev n_law_pick : List Str := ["draws", "many", "at", "number"]
theorem sc_law_pick : FnScope ["draws", "many", "at", "number"] ["draws", "many"] (defScope s_law_pick) := ⟨rfl, rfl, rfl, by decide +kernel, rfl, by decide +kernel, by decide +kernel⟩
noncomputable def f_law_pick : SEnv → M (Fl × SEnv) := sSeq (sAsg (eOp ixU (eVar 0) (eC (.str "at"))) (gN 2)) (sSeq (sAsg (eOp addD (eVar 2) (eC (.int 1))) (gSubM setU (eVar 0) (eC (.str "at")))) (sSeq (sAsg (eCall m_law_mix (aCons (eOp ixU (eVar 0) (eC (.str "seed"))) (aCons (eVar 2) (aNil)))) (gN 3)) (sSeq (sIf (asB (eOp ltD (eVar 2) (eCall nLen (aCons (eOp ixU (eVar 0) (eC (.str "row"))) (aNil))))) (sAsg (eOp ixU (eOp ixU (eVar 0) (eC (.str "row"))) (eVar 2)) (gN 3)) (sNx)) (sRet (eOp modD (eCall nInt (aCons (eVar 3) (aNil))) (eVar 1))))))
noncomputable def m_law_pick : List D → M D := bodyM 4 f_law_pick
theorem ok_law_pick {P : Program} {w : World} {K : PySem.W.Frag} {mg : Str → Option Value} {base : Heap} {f : Addr} {fd : FuncData} (M : GF mg) (C_law_mix : Callee P w K mg base "_law_mix" 1 2 ["cell", "k"] m_law_mix) (F : Fun K "_law_pick" "_law_pick" s_law_pick f fd) :
    FnOk P w K mg base CX0 2 f fd ["draws", "many"] (spOf K 2 m_law_pick) :=
  fn_ok (N := n_law_pick) F sc_law_pick fun cdv A outer s H E hr => ⟨_, dss_cons (ds_set 2 sc_law_pick.nd (de_ix (k_ix K rfl (hu_of hr)) (de_var 0) (de_str)))
 (dss_cons (ds_asg (de_op (k_add K rfl) (de_var 2) (de_int)) (dg_sub (de_var 0) (de_str) (set_u (hu_of hr))))
 (dss_cons (ds_set 3 sc_law_pick.nd (dk_fn K rfl C_law_mix (hr.mono (by decide)) (da_cons (de_ix (k_ix K rfl (hu_of hr)) (de_var 0) (de_str)) (da_cons (de_var 2) (da_nil)))))
 (dss_cons (ds_if (dt_cmp o_lt (de_var 2) (de_callB (k_len K rfl) M.b_len (da_cons (de_ix (k_ix K rfl (hu_of hr)) (de_var 0) (de_str)) (da_nil))))
 (dss_one (ds_set 3 sc_law_pick.nd (de_ix (k_ix K rfl (hu_of hr)) (de_ix (k_ix K rfl (hu_of hr)) (de_var 0) (de_str)) (de_var 2))))
 (dss_nil))
 (dss_one (ds_ret (de_op o_mod (de_callTy c_int M.b_int (da_cons (de_var 3) (da_nil))) (de_var 1)))))))⟩
abbrev s_law_string : Stmt := topS 15
abbrev n_law_string : List Str := ["draws", "signs", "size", "k"]
theorem sc_law_string : FnScope ["draws", "signs", "size", "k"] ["draws", "signs"] (defScope s_law_string) := ⟨rfl, rfl, rfl, by decide +kernel, rfl, by decide +kernel, by decide +kernel⟩
noncomputable def f_law_string : SEnv → M (Fl × SEnv) := sSeq (sAsg (eOp ixU (eLst (aCons (eC (.int 0)) (aCons (eC (.int 0)) (aCons (eC (.int 1)) (aCons (eC (.int 1)) (aCons (eC (.int 2)) (aNil))))))) (eCall m_law_pick (aCons (eVar 0) (aCons (eC (.int 5)) (aNil))))) (gN 2)) (sRet (eMt "str" mJoin (eC (.str "")) (aCons (eLc (iRg1M (aCons (eVar 2) (aNil))) (gN 3) (bYes) (eOp ixU (eVar 1) (eCall m_law_pick (aCons (eVar 0) (aCons (eCall nLen (aCons (eVar 1) (aNil))) (aNil))))) [3]) (aNil))))
noncomputable def m_law_string : List D → M D := bodyM 4 f_law_string
theorem ok_law_string {P : Program} {w : World} {K : PySem.W.Frag} {mg : Str → Option Value} {base : Heap} {f : Addr} {fd : FuncData} (M : GF mg) (C_law_pick : Callee P w K mg base "_law_pick" 2 2 ["draws", "many"] m_law_pick) (F : Fun K "_law_string" "_law_string" s_law_string f fd) :
    FnOk P w K mg base CX0 3 f fd ["draws", "signs"] (spOf K 2 m_law_string) :=
  fn_ok (N := n_law_string) F sc_law_string fun cdv A outer s H E hr => ⟨_, dss_cons (ds_set 2 sc_law_string.nd (de_ix (k_ix K rfl (hu_of hr)) (de_lst (da_cons (de_int) (da_cons (de_int) (da_cons (de_int) (da_cons (de_int) (da_cons (de_int) (da_nil))))))) (dk_fn K rfl C_law_pick (hr.mono (by decide)) (da_cons (de_var 0) (da_cons (de_int) (da_nil))))))
 (dss_one (ds_ret (dk_mt K rfl m_join PySem.F.plainAttrs_str PySem.F.slot_str_join PySem.F.type_str_join (de_str) (da_cons (de_lc [("k", 3)] rfl sc_law_string.nd (di_rg1 M.b_range (da_cons (de_var 2) (da_nil))) (blkOk_by (N := n_law_string) (sc := defScope s_law_string) (by decide +kernel)) (fun _ _ _ _ _ => dg_name 3 sc_law_string.nd) (fun _ _ _ _ _ => dts_nil) (fun _ _ _ _ _ => de_ix (k_ix K rfl (hu_of hr)) (de_var 1) (dk_fn K rfl C_law_pick (hr.mono (by decide)) (da_cons (de_var 0) (da_cons (de_callB (k_len K rfl) M.b_len (da_cons (de_var 1) (da_nil))) (da_nil)))))) (da_nil)))))⟩
abbrev s_law_row : Stmt := topS 16
abbrev n_law_row : List Str := ["draws", "boxes", "signs", "row", "string", "box"]
theorem sc_law_row : FnScope ["draws", "boxes", "signs", "row", "string", "box"] ["draws", "boxes", "signs"] (defScope s_law_row) := ⟨rfl, rfl, rfl, by decide +kernel, rfl, by decide +kernel, by decide +kernel⟩
noncomputable def f_law_row : SEnv → M (Fl × SEnv) := sSeq (sAsg (eLst (aNil)) (gN 3)) (sSeq (sAsg (eCall m_law_string (aCons (eVar 0) (aCons (eVar 2) (aNil)))) (gN 4)) (sSeq (sIf (asB (eOp neD (eVar 4) (eC (.str "")))) (sDrop (eMt "list" mAppend (eVar 3) (aCons (eVar 4) (aNil)))) (sNx)) (sSeq (sFor (iAnyM (eVar 1)) (gN 5) (sSeq (sDrop (eMt "list" mAppend (eVar 3) (aCons (eVar 5) (aNil)))) (sSeq (sAsg (eCall m_law_string (aCons (eVar 0) (aCons (eVar 2) (aNil)))) (gN 4)) (sIf (asB (eOp neD (eVar 4) (eC (.str "")))) (sDrop (eMt "list" mAppend (eVar 3) (aCons (eVar 4) (aNil)))) (sNx))))) (sRet (eCall nTuple (aCons (eVar 3) (aNil)))))))
noncomputable def m_law_row : List D → M D := bodyM 6 f_law_row
theorem ok_law_row {P : Program} {w : World} {K : PySem.W.Frag} {mg : Str → Option Value} {base : Heap} {f : Addr} {fd : FuncData} (M : GF mg) (C_law_string : Callee P w K mg base "_law_string" 3 2 ["draws", "signs"] m_law_string) (F : Fun K "_law_row" "_law_row" s_law_row f fd) :
    FnOk P w K mg base CX0 4 f fd ["draws", "boxes", "signs"] (spOf K 3 m_law_row) :=
  fn_ok (N := n_law_row) F sc_law_row fun cdv A outer s H E hr => ⟨_, dss_cons (ds_set 3 sc_law_row.nd (de_lst (da_nil)))
 (dss_cons (ds_set 4 sc_law_row.nd (dk_fn K rfl C_law_string (hr.mono (by decide)) (da_cons (de_var 0) (da_cons (de_var 2) (da_nil)))))
 (dss_cons (ds_if (dt_cmp (k_ne K rfl hr.units) (de_var 4) (de_str))
 (dss_one (ds_expr (dk_mt K rfl m_append PySem.F.plainAttrs_list PySem.F.slot_list_append PySem.F.type_list_append (de_var 3) (da_cons (de_var 4) (da_nil)))))
 (dss_nil))
 (dss_cons (ds_for PassesOwn.never rfl (dk_any K rfl (de_var 1)) (dg_name 5 sc_law_row.nd)
 (dss_cons (ds_expr (dk_mt K rfl m_append PySem.F.plainAttrs_list PySem.F.slot_list_append PySem.F.type_list_append (de_var 3) (da_cons (de_var 5) (da_nil))))
 (dss_cons (ds_set 4 sc_law_row.nd (dk_fn K rfl C_law_string (hr.mono (by decide)) (da_cons (de_var 0) (da_cons (de_var 2) (da_nil)))))
 (dss_one (ds_if (dt_cmp (k_ne K rfl hr.units) (de_var 4) (de_str))
 (dss_one (ds_expr (dk_mt K rfl m_append PySem.F.plainAttrs_list PySem.F.slot_list_append PySem.F.type_list_append (de_var 3) (da_cons (de_var 4) (da_nil)))))
 (dss_nil))))))
 (dss_one (ds_ret (de_callTy (k_tuple K rfl) M.b_tuple (da_cons (de_var 3) (da_nil))))))))⟩
abbrev s_law_news : Stmt := topS 17
abbrev n_law_news : List Str := ["draws", "many", "signs", "rows", "turned", "k", "box", "pick", "goal", "row"]
theorem sc_law_news : FnScope ["draws", "many", "signs", "rows", "turned", "k", "box", "pick", "goal", "row"] ["draws", "many", "signs"] (defScope s_law_news) := ⟨rfl, rfl, rfl, by decide +kernel, rfl, by decide +kernel, by decide +kernel⟩
noncomputable def f_law_news : SEnv → M (Fl × SEnv) := sSeq (sAsg (eLc (iRg1M (aCons (eVar 1) (aNil))) (gN 5) (bYes) (eLst (aNil)) [5]) (gN 3)) (sSeq (sAsg (eOp eqD (eCall m_law_pick (aCons (eVar 0) (aCons (eC (.int 2)) (aNil)))) (eC (.int 1))) (gN 4)) (sSeq (sFor (iRg1M (aCons (eVar 1) (aNil))) (gN 5) (sSeq (sAsg (eIf (asT (eVar 4)) (eOp subD (eOp subD (eVar 1) (eC (.int 1))) (eVar 5)) (eVar 5)) (gN 6)) (sSeq (sAsg (eCall m_law_pick (aCons (eVar 0) (aCons (eC (.int 9)) (aNil)))) (gN 7)) (sIf (asB (eOp gtD (eVar 7) (eC (.int 0)))) (sSeq (sAsg (eIf (asB (eOp ltD (eVar 7) (eC (.int 6)))) (eVar 6) (eOp modD (eCall nInt (aCons (eOp addD (eVar 6) (eVar 7)) (aNil))) (eVar 1))) (gN 8)) (sDrop (eMt "list" mAppend (eOp ixU (eVar 3) (eVar 8)) (aCons (eVar 6) (aNil))))) (sNx))))) (sRet (eCall nTuple (aCons (eLc (iAnyM (eVar 3)) (gN 9) (bYes) (eCall m_law_row (aCons (eVar 0) (aCons (eVar 9) (aCons (eVar 2) (aNil))))) [9]) (aNil))))))
noncomputable def m_law_news : List D → M D := bodyM 10 f_law_news
theorem ok_law_news {P : Program} {w : World} {K : PySem.W.Frag} {mg : Str → Option Value} {base : Heap} {f : Addr} {fd : FuncData} (M : GF mg) (C_law_pick : Callee P w K mg base "_law_pick" 2 2 ["draws", "many"] m_law_pick) (C_law_row : Callee P w K mg base "_law_row" 4 3 ["draws", "boxes", "signs"] m_law_row) (F : Fun K "_law_news" "_law_news" s_law_news f fd) :
    FnOk P w K mg base CX0 5 f fd ["draws", "many", "signs"] (spOf K 3 m_law_news) :=
  fn_ok (N := n_law_news) F sc_law_news fun cdv A outer s H E hr => ⟨_, dss_cons (ds_setLc 3 [("k", 5)] rfl sc_law_news.nd (di_rg1 M.b_range (da_cons (de_var 1) (da_nil))) (blkOk_by (N := n_law_news) (sc := defScope s_law_news) (by decide +kernel)) (fun _ _ _ _ _ => dg_name 5 sc_law_news.nd) (fun _ _ _ _ _ => dts_nil) (fun _ _ _ _ _ => de_lst (da_nil)) (sw_true rfl rfl rfl (by decide +kernel)))
 (dss_cons (ds_set 4 sc_law_news.nd (de_cmp (k_eq K rfl hr.units) (dk_fn K rfl C_law_pick (hr.mono (by decide)) (da_cons (de_var 0) (da_cons (de_int) (da_nil)))) (de_int)))
 (dss_cons (ds_for PassesOwn.never rfl (di_rg1 M.b_range (da_cons (de_var 1) (da_nil))) (dg_name 5 sc_law_news.nd)
 (dss_cons (ds_set 6 sc_law_news.nd (de_if (dk_truth K rfl (de_var 4)) (de_op o_sub (de_op o_sub (de_var 1) (de_int)) (de_var 5)) (de_var 5)))
 (dss_cons (ds_set 7 sc_law_news.nd (dk_fn K rfl C_law_pick (hr.mono (by decide)) (da_cons (de_var 0) (da_cons (de_int) (da_nil)))))
 (dss_one (ds_if (dt_cmp o_gt (de_var 7) (de_int))
 (dss_cons (ds_set 8 sc_law_news.nd (de_if (dt_cmp o_lt (de_var 7) (de_int)) (de_var 6) (de_op o_mod (de_callTy c_int M.b_int (da_cons (de_op (k_add K rfl) (de_var 6) (de_var 7)) (da_nil))) (de_var 1))))
 (dss_one (ds_expr (dk_mt K rfl m_append PySem.F.plainAttrs_list PySem.F.slot_list_append PySem.F.type_list_append (de_ix (k_ix K rfl (hu_of hr)) (de_var 3) (de_var 8)) (da_cons (de_var 6) (da_nil))))))
 (dss_nil))))))
 (dss_one (ds_ret (de_callTy (k_tuple K rfl) M.b_tuple (da_cons (de_lc [("row", 9)] rfl sc_law_news.nd (dk_any K rfl (de_var 3)) (blkOk_by (N := n_law_news) (sc := defScope s_law_news) (by decide +kernel)) (fun _ _ _ _ _ => dg_name 9 sc_law_news.nd) (fun _ _ _ _ _ => dts_nil) (fun _ _ _ _ _ => dk_fn K rfl C_law_row (hr.mono (by decide)) (da_cons (de_var 0) (da_cons (de_var 9) (da_cons (de_var 2) (da_nil)))))) (da_nil)))))))⟩
abbrev s_law_end : Stmt := topS 18
abbrev n_law_end : List Str := ["draws", "many", "signs", "stops", "boxes", "k"]
theorem sc_law_end : FnScope ["draws", "many", "signs", "stops", "boxes", "k"] ["draws", "many", "signs", "stops"] (defScope s_law_end) := ⟨rfl, rfl, rfl, by decide +kernel, rfl, by decide +kernel, by decide +kernel⟩
noncomputable def f_law_end : SEnv → M (Fl × SEnv) := sSeq (sIf (asB (eOp ltD (eCall m_law_pick (aCons (eVar 0) (aCons (eC (.int 12)) (aNil)))) (eVar 3))) (sRet (eC .non)) (sNx)) (sSeq (sAsg (eLc (iRg1M (aCons (eVar 1) (aNil))) (gN 5) (asB (eOp gtD (eCall m_law_pick (aCons (eVar 0) (aCons (eC (.int 6)) (aNil)))) (eC (.int 0)))) (eVar 5) [5]) (gN 4)) (sSeq (sIf (asB (eOp eqD (eCall m_law_pick (aCons (eVar 0) (aCons (eC (.int 2)) (aNil)))) (eC (.int 1)))) (sAsg (eRevU (eVar 4)) (gN 4)) (sNx)) (sRet (eCall m_law_row (aCons (eVar 0) (aCons (eVar 4) (aCons (eVar 2) (aNil))))))))
noncomputable def m_law_end : List D → M D := bodyM 6 f_law_end
theorem ok_law_end {P : Program} {w : World} {K : PySem.W.Frag} {mg : Str → Option Value} {base : Heap} {f : Addr} {fd : FuncData} (M : GF mg) (C_law_pick : Callee P w K mg base "_law_pick" 2 2 ["draws", "many"] m_law_pick) (C_law_row : Callee P w K mg base "_law_row" 4 3 ["draws", "boxes", "signs"] m_law_row) (F : Fun K "_law_end" "_law_end" s_law_end f fd) :
    FnOk P w K mg base CX0 5 f fd ["draws", "many", "signs", "stops"] (spOf K 4 m_law_end) :=
  fn_ok (N := n_law_end) F sc_law_end fun cdv A outer s H E hr => ⟨_, dss_cons (ds_if (dt_cmp o_lt (dk_fn K rfl C_law_pick (hr.mono (by decide)) (da_cons (de_var 0) (da_cons (de_int) (da_nil)))) (de_var 3))
 (dss_one (ds_ret (de_non)))
 (dss_nil))
 (dss_cons (ds_setLc 4 [("k", 5)] rfl sc_law_end.nd (di_rg1 M.b_range (da_cons (de_var 1) (da_nil))) (blkOk_by (N := n_law_end) (sc := defScope s_law_end) (by decide +kernel)) (fun _ _ _ _ _ => dg_name 5 sc_law_end.nd) (fun _ _ _ _ _ => dts_one (dt_cmp o_gt (dk_fn K rfl C_law_pick (hr.mono (by decide)) (da_cons (de_var 0) (da_cons (de_int) (da_nil)))) (de_int))) (fun _ _ _ _ _ => de_var 5) (sw_true rfl rfl rfl (by decide +kernel)))
 (dss_cons (ds_if (dt_cmp (k_eq K rfl hr.units) (dk_fn K rfl C_law_pick (hr.mono (by decide)) (da_cons (de_var 0) (da_cons (de_int) (da_nil)))) (de_int))
 (dss_one (ds_set 4 sc_law_end.nd (dk_rev K rfl (de_var 4))))
 (dss_nil))
 (dss_one (ds_ret (dk_fn K rfl C_law_row (hr.mono (by decide)) (da_cons (de_var 0) (da_cons (de_var 4) (da_cons (de_var 2) (da_nil)))))))))⟩
abbrev s_law_number : Stmt := topS 19
abbrev n_law_number : List Str := ["value", "found", "sign"]
theorem sc_law_number : FnScope ["value", "found", "sign"] ["value"] (defScope s_law_number) := ⟨rfl, rfl, rfl, by decide +kernel, rfl, by decide +kernel, by decide +kernel⟩
noncomputable def f_law_number : SEnv → M (Fl × SEnv) := sSeq (sAsg (eC (.int 0)) (gN 1)) (sSeq (sFor (iAnyM (eVar 0)) (gN 2) (sAsg (eOp addD (eOp addD (eOp mulX (eC (.int 27)) (eVar 1)) (eMt "str" mIndexS (eC (.str "abcdefghijklmnopqrstuvwxyz")) (aCons (eVar 2) (aNil)))) (eC (.int 1))) (gN 1))) (sRet (eVar 1)))
noncomputable def m_law_number : List D → M D := bodyM 3 f_law_number
theorem ok_law_number {P : Program} {w : World} {K : PySem.W.Frag} {mg : Str → Option Value} {base : Heap} {f : Addr} {fd : FuncData} (M : GF mg) (F : Fun K "_law_number" "_law_number" s_law_number f fd) :
    FnOk P w K mg base CX0 1 f fd ["value"] (spOf K 1 m_law_number) :=
  fn_ok (N := n_law_number) F sc_law_number fun cdv A outer s H E hr => ⟨_, dss_cons (ds_set 1 sc_law_number.nd (de_int))
 (dss_cons (ds_for PassesOwn.never rfl (dk_any K rfl (de_var 0)) (dg_name 2 sc_law_number.nd)
 (dss_one (ds_set 1 sc_law_number.nd (de_op (k_add K rfl) (de_op (k_add K rfl) (de_op (k_mulX K rfl) (de_int) (de_var 1)) (dk_mt K rfl m_indexS PySem.F.plainAttrs_str PySem.F.slot_str_index PySem.F.type_str_index (de_str) (da_cons (de_var 2) (da_nil)))) (de_int)))))
 (dss_one (ds_ret (de_var 1))))⟩
abbrev s_law_weight : Stmt := topS 20
abbrev n_law_weight : List Str := ["value", "found", "sign"]
theorem sc_law_weight : FnScope ["value", "found", "sign"] ["value"] (defScope s_law_weight) := ⟨rfl, rfl, rfl, by decide +kernel, rfl, by decide +kernel, by decide +kernel⟩
noncomputable def f_law_weight : SEnv → M (Fl × SEnv) := sSeq (sAsg (eC (.int 1)) (gN 1)) (sSeq (sFor (iAnyM (eVar 0)) (gN 2) (sAsg (eOp mulX (eVar 1) (eC (.int 27))) (gN 1))) (sRet (eVar 1)))
noncomputable def m_law_weight : List D → M D := bodyM 3 f_law_weight
theorem ok_law_weight {P : Program} {w : World} {K : PySem.W.Frag} {mg : Str → Option Value} {base : Heap} {f : Addr} {fd : FuncData} (M : GF mg) (F : Fun K "_law_weight" "_law_weight" s_law_weight f fd) :
    FnOk P w K mg base CX0 1 f fd ["value"] (spOf K 1 m_law_weight) :=
  fn_ok (N := n_law_weight) F sc_law_weight fun cdv A outer s H E hr => ⟨_, dss_cons (ds_set 1 sc_law_weight.nd (de_int))
 (dss_cons (ds_for PassesOwn.never rfl (dk_any K rfl (de_var 0)) (dg_name 2 sc_law_weight.nd)
 (dss_one (ds_set 1 sc_law_weight.nd (de_op (k_mulX K rfl) (de_var 1) (de_int)))))
 (dss_one (ds_ret (de_var 1))))⟩
abbrev s_law_power : Stmt := topS 21
abbrev n_law_power : List Str := ["many", "found", "k"]
theorem sc_law_power : FnScope ["many", "found", "k"] ["many"] (defScope s_law_power) := ⟨rfl, rfl, rfl, by decide +kernel, rfl, by decide +kernel, by decide +kernel⟩
noncomputable def f_law_power : SEnv → M (Fl × SEnv) := sSeq (sAsg (eC (.int 1)) (gN 1)) (sSeq (sFor (iRg1M (aCons (eVar 0) (aNil))) (gN 2) (sAsg (eOp mulX (eVar 1) (eC (.int 3))) (gN 1))) (sRet (eVar 1)))
noncomputable def m_law_power : List D → M D := bodyM 3 f_law_power
theorem ok_law_power {P : Program} {w : World} {K : PySem.W.Frag} {mg : Str → Option Value} {base : Heap} {f : Addr} {fd : FuncData} (M : GF mg) (F : Fun K "_law_power" "_law_power" s_law_power f fd) :
    FnOk P w K mg base CX0 1 f fd ["many"] (spOf K 1 m_law_power) :=
  fn_ok (N := n_law_power) F sc_law_power fun cdv A outer s H E hr => ⟨_, dss_cons (ds_set 1 sc_law_power.nd (de_int))
 (dss_cons (ds_for PassesOwn.never rfl (di_rg1 M.b_range (da_cons (de_var 0) (da_nil))) (dg_name 2 sc_law_power.nd)
 (dss_one (ds_set 1 sc_law_power.nd (de_op (k_mulX K rfl) (de_var 1) (de_int)))))
 (dss_one (ds_ret (de_var 1))))⟩
abbrev s_law_takes : Stmt := topS 22
abbrev n_law_takes : List Str := ["row", "many", "weight", "number", "item", "place"]
theorem sc_law_takes : FnScope ["row", "many", "weight", "number", "item", "place"] ["row", "many"] (defScope s_law_takes) := ⟨rfl, rfl, rfl, by decide +kernel, rfl, by decide +kernel, by decide +kernel⟩
noncomputable def f_law_takes : SEnv → M (Fl × SEnv) := sSeq (sAsg (eTup (aCons (eC (.int 1)) (aCons (eC (.int 0)) (aNil)))) (gN 2)) (sSeq (sAsg (eLst (aNil)) (gN 3)) (sSeq (sFor (iAnyM (eRevV (eVar 0))) (gN 4) (sIf (asT (eCall nIsi (aCons (eVar 4) (aCons (eC (.ty "str")) (aNil))))) (sSeq (sAsg (eOp addD (eVar 3) (eLst (aCons (eTup (aCons (eOp mulX (eOp ixU (eVar 2) (eC (.int 0))) (eCall m_law_number (aCons (eVar 4) (aNil)))) (aCons (eOp ixU (eVar 2) (eC (.int 1))) (aNil)))) (aNil)))) (gN 3)) (sAsg (eTup (aCons (eOp mulX (eOp ixU (eVar 2) (eC (.int 0))) (eCall m_law_weight (aCons (eVar 4) (aNil)))) (aCons (eOp ixU (eVar 2) (eC (.int 1))) (aNil)))) (gN 2))) (sSeq (sAsg (eCall m_law_power (aCons (eOp subD (eOp subD (eVar 1) (eC (.int 1))) (eVar 4)) (aNil))) (gN 5)) (sSeq (sAsg (eOp addD (eVar 3) (eLst (aCons (eTup (aCons (eOp ixU (eVar 2) (eC (.int 0))) (aCons (eOp addD (eOp ixU (eVar 2) (eC (.int 1))) (eOp mulX (eC (.int 2)) (eVar 5))) (aNil)))) (aNil)))) (gN 3)) (sAsg (eTup (aCons (eOp ixU (eVar 2) (eC (.int 0))) (aCons (eOp addD (eOp ixU (eVar 2) (eC (.int 1))) (eVar 5)) (aNil)))) (gN 2)))))) (sRet (eLst (aCons (eLst (aCons (eTup (aCons (eC (.int 1)) (aCons (eC (.int 0)) (aNil)))) (aNil))) (aCons (eLst (aCons (eVar 2) (aNil))) (aCons (eVar 3) (aNil))))))))
noncomputable def m_law_takes : List D → M D := bodyM 6 f_law_takes
theorem ok_law_takes {P : Program} {w : World} {K : PySem.W.Frag} {mg : Str → Option Value} {base : Heap} {f : Addr} {fd : FuncData} (M : GF mg) (C_law_number : Callee P w K mg base "_law_number" 1 1 ["value"] m_law_number) (C_law_power : Callee P w K mg base "_law_power" 1 1 ["many"] m_law_power) (C_law_weight : Callee P w K mg base "_law_weight" 1 1 ["value"] m_law_weight) (F : Fun K "_law_takes" "_law_takes" s_law_takes f fd) :
    FnOk P w K mg base CX0 2 f fd ["row", "many"] (spOf K 2 m_law_takes) :=
  fn_ok (N := n_law_takes) F sc_law_takes fun cdv A outer s H E hr => ⟨_, dss_cons (ds_set 2 sc_law_takes.nd (de_tup (da_cons (de_int) (da_cons (de_int) (da_nil)))))
 (dss_cons (ds_set 3 sc_law_takes.nd (de_lst (da_nil)))
 (dss_cons (ds_for PassesOwn.never rfl (dk_any K rfl (dk_revV K rfl (de_var 0))) (dg_name 4 sc_law_takes.nd)
 (dss_one (ds_if (dk_truth K rfl (de_callB (k_isi K rfl) M.b_isinstance (da_cons (de_var 4) (da_cons (de_ty (by rfl) M.b_str (by decide +kernel)) (da_nil)))))
 (dss_cons (ds_set 3 sc_law_takes.nd (de_op (k_add K rfl) (de_var 3) (de_lst (da_cons (de_tup (da_cons (de_op (k_mulX K rfl) (de_ix (k_ix K rfl (hu_of hr)) (de_var 2) (de_int)) (dk_fn K rfl C_law_number (hr.mono (by decide)) (da_cons (de_var 4) (da_nil)))) (da_cons (de_ix (k_ix K rfl (hu_of hr)) (de_var 2) (de_int)) (da_nil)))) (da_nil)))))
 (dss_one (ds_set 2 sc_law_takes.nd (de_tup (da_cons (de_op (k_mulX K rfl) (de_ix (k_ix K rfl (hu_of hr)) (de_var 2) (de_int)) (dk_fn K rfl C_law_weight (hr.mono (by decide)) (da_cons (de_var 4) (da_nil)))) (da_cons (de_ix (k_ix K rfl (hu_of hr)) (de_var 2) (de_int)) (da_nil)))))))
 (dss_cons (ds_set 5 sc_law_takes.nd (dk_fn K rfl C_law_power (hr.mono (by decide)) (da_cons (de_op o_sub (de_op o_sub (de_var 1) (de_int)) (de_var 4)) (da_nil))))
 (dss_cons (ds_set 3 sc_law_takes.nd (de_op (k_add K rfl) (de_var 3) (de_lst (da_cons (de_tup (da_cons (de_ix (k_ix K rfl (hu_of hr)) (de_var 2) (de_int)) (da_cons (de_op (k_add K rfl) (de_ix (k_ix K rfl (hu_of hr)) (de_var 2) (de_int)) (de_op (k_mulX K rfl) (de_int) (de_var 5))) (da_nil)))) (da_nil)))))
 (dss_one (ds_set 2 sc_law_takes.nd (de_tup (da_cons (de_ix (k_ix K rfl (hu_of hr)) (de_var 2) (de_int)) (da_cons (de_op (k_add K rfl) (de_ix (k_ix K rfl (hu_of hr)) (de_var 2) (de_int)) (de_var 5)) (da_nil)))))))))))
 (dss_one (ds_ret (de_lst (da_cons (de_lst (da_cons (de_tup (da_cons (de_int) (da_cons (de_int) (da_nil)))) (da_nil))) (da_cons (de_lst (da_cons (de_var 2) (da_nil))) (da_cons (de_var 3) (da_nil)))))))))⟩
abbrev s_law_times : Stmt := topS 23
abbrev n_law_times : List Str := ["old", "take", "found", "one", "at", "other", "more"]
theorem sc_law_times : FnScope ["old", "take", "found", "one", "at", "other", "more"] ["old", "take"] (defScope s_law_times) := ⟨rfl, rfl, rfl, by decide +kernel, rfl, by decide +kernel, by decide +kernel⟩
noncomputable def f_law_times : SEnv → M (Fl × SEnv) := sSeq (sAsg (eLst (aNil)) (gN 2)) (sSeq (sFor (iAnyM (eVar 0)) (gTupM 2 (gsCons (gN 3) (gsCons (gN 4) (gsNil)))) (sFor (iAnyM (eVar 1)) (gTupM 2 (gsCons (gN 5) (gsCons (gN 6) (gsNil)))) (sDrop (eMt "list" mAppend (eVar 2) (aCons (eTup (aCons (eOp mulX (eVar 3) (eVar 5)) (aCons (eOp addD (eVar 4) (eVar 6)) (aNil)))) (aNil)))))) (sRet (eVar 2)))
noncomputable def m_law_times : List D → M D := bodyM 7 f_law_times
theorem ok_law_times {P : Program} {w : World} {K : PySem.W.Frag} {mg : Str → Option Value} {base : Heap} {f : Addr} {fd : FuncData} (M : GF mg) (F : Fun K "_law_times" "_law_times" s_law_times f fd) :
    FnOk P w K mg base CX0 1 f fd ["old", "take"] (spOf K 2 m_law_times) :=
  fn_ok (N := n_law_times) F sc_law_times fun cdv A outer s H E hr => ⟨_, dss_cons (ds_set 2 sc_law_times.nd (de_lst (da_nil)))
 (dss_cons (ds_for PassesOwn.never rfl (dk_any K rfl (de_var 0)) (dk_tup K rfl rfl (dgs_cons (dg_name 3 sc_law_times.nd) (dgs_cons (dg_name 4 sc_law_times.nd) (dgs_nil))))
 (dss_one (ds_for PassesOwn.never rfl (dk_any K rfl (de_var 1)) (dk_tup K rfl rfl (dgs_cons (dg_name 5 sc_law_times.nd) (dgs_cons (dg_name 6 sc_law_times.nd) (dgs_nil))))
 (dss_one (ds_expr (dk_mt K rfl m_append PySem.F.plainAttrs_list PySem.F.slot_list_append PySem.F.type_list_append (de_var 2) (da_cons (de_tup (da_cons (de_op (k_mulX K rfl) (de_var 3) (de_var 5)) (da_cons (de_op (k_add K rfl) (de_var 4) (de_var 6)) (da_nil)))) (da_nil))))))))
 (dss_one (ds_ret (de_var 2))))⟩
abbrev s_law_sum : Stmt := topS 24
abbrev n_law_sum : List Str := ["vector", "terms", "factor", "at"]
theorem sc_law_sum : FnScope ["vector", "terms", "factor", "at"] ["vector", "terms"] (defScope s_law_sum) := ⟨rfl, rfl, rfl, by decide +kernel, rfl, by decide +kernel, by decide +kernel⟩
noncomputable def f_law_sum : SEnv → M (Fl × SEnv) := sRet (eCall nSum (aCons (eLc (iAnyM (eVar 1)) (gTupM 2 (gsCons (gN 2) (gsCons (gN 3) (gsNil)))) (bYes) (eOp mulX (eVar 2) (eOp ixU (eVar 0) (eVar 3))) [2, 3]) (aNil)))
noncomputable def m_law_sum : List D → M D := bodyM 4 f_law_sum
theorem ok_law_sum {P : Program} {w : World} {K : PySem.W.Frag} {mg : Str → Option Value} {base : Heap} {f : Addr} {fd : FuncData} (M : GF mg) (F : Fun K "_law_sum" "_law_sum" s_law_sum f fd) :
    FnOk P w K mg base CX0 1 f fd ["vector", "terms"] (spOf K 2 m_law_sum) :=
  fn_ok (N := n_law_sum) F sc_law_sum fun cdv A outer s H E hr => ⟨_, dss_one (ds_ret (de_callB (k_sum K rfl rfl) M.b_sum (da_cons (de_lc [("factor", 2), ("at", 3)] rfl sc_law_sum.nd (dk_any K rfl (de_var 1)) (blkOk_by (N := n_law_sum) (sc := defScope s_law_sum) (by decide +kernel)) (fun _ _ _ _ _ => dk_tup K rfl rfl (dgs_cons (dg_name 2 sc_law_sum.nd) (dgs_cons (dg_name 3 sc_law_sum.nd) (dgs_nil)))) (fun _ _ _ _ _ => dts_nil) (fun _ _ _ _ _ => de_op (k_mulX K rfl) (de_var 2) (de_ix (k_ix K rfl (hu_of hr)) (de_var 0) (de_var 3)))) (da_nil))))⟩
abbrev s_law_image : Stmt := topS 25
abbrev n_law_image : List Str := ["vector", "news", "sums", "row", "longer", "old", "take", "terms"]
theorem sc_law_image : FnScope ["vector", "news", "sums", "row", "longer", "old", "take", "terms"] ["vector", "news"] (defScope s_law_image) := ⟨rfl, rfl, rfl, by decide +kernel, rfl, by decide +kernel, by decide +kernel⟩
noncomputable def f_law_image : SEnv → M (Fl × SEnv) := sSeq (sAsg (eLst (aCons (eLst (aCons (eTup (aCons (eC (.int 1)) (aCons (eC (.int 0)) (aNil)))) (aNil))) (aNil))) (gN 2)) (sSeq (sFor (iAnyM (eVar 1)) (gN 3) (sSeq (sAsg (eLst (aNil)) (gN 4)) (sSeq (sFor (iAnyM (eVar 2)) (gN 5) (sFor (iAnyM (eCall m_law_takes (aCons (eVar 3) (aCons (eCall nLen (aCons (eVar 1) (aNil))) (aNil))))) (gN 6) (sDrop (eMt "list" mAppend (eVar 4) (aCons (eCall m_law_times (aCons (eVar 5) (aCons (eVar 6) (aNil)))) (aNil)))))) (sAsg (eVar 4) (gN 2))))) (sRet (eCall nTuple (aCons (eLc (iAnyM (eVar 2)) (gN 7) (bYes) (eCall m_law_sum (aCons (eVar 0) (aCons (eVar 7) (aNil)))) [7]) (aNil)))))
noncomputable def m_law_image : List D → M D := bodyM 8 f_law_image
theorem ok_law_image {P : Program} {w : World} {K : PySem.W.Frag} {mg : Str → Option Value} {base : Heap} {f : Addr} {fd : FuncData} (M : GF mg) (C_law_sum : Callee P w K mg base "_law_sum" 1 2 ["vector", "terms"] m_law_sum) (C_law_takes : Callee P w K mg base "_law_takes" 2 2 ["row", "many"] m_law_takes) (C_law_times : Callee P w K mg base "_law_times" 1 2 ["old", "take"] m_law_times) (F : Fun K "_law_image" "_law_image" s_law_image f fd) :
    FnOk P w K mg base CX0 3 f fd ["vector", "news"] (spOf K 2 m_law_image) :=
  fn_ok (N := n_law_image) F sc_law_image fun cdv A outer s H E hr => ⟨_, dss_cons (ds_set 2 sc_law_image.nd (de_lst (da_cons (de_lst (da_cons (de_tup (da_cons (de_int) (da_cons (de_int) (da_nil)))) (da_nil))) (da_nil))))
 (dss_cons (ds_for PassesOwn.never rfl (dk_any K rfl (de_var 1)) (dg_name 3 sc_law_image.nd)
 (dss_cons (ds_set 4 sc_law_image.nd (de_lst (da_nil)))
 (dss_cons (ds_for PassesOwn.never rfl (dk_any K rfl (de_var 2)) (dg_name 5 sc_law_image.nd)
 (dss_one (ds_for PassesOwn.never rfl (dk_any K rfl (dk_fn K rfl C_law_takes (hr.mono (by decide)) (da_cons (de_var 3) (da_cons (de_callB (k_len K rfl) M.b_len (da_cons (de_var 1) (da_nil))) (da_nil))))) (dg_name 6 sc_law_image.nd)
 (dss_one (ds_expr (dk_mt K rfl m_append PySem.F.plainAttrs_list PySem.F.slot_list_append PySem.F.type_list_append (de_var 4) (da_cons (dk_fn K rfl C_law_times (hr.mono (by decide)) (da_cons (de_var 5) (da_cons (de_var 6) (da_nil)))) (da_nil))))))))
 (dss_one (ds_set 2 sc_law_image.nd (de_var 4))))))
 (dss_one (ds_ret (de_callTy (k_tuple K rfl) M.b_tuple (da_cons (de_lc [("terms", 7)] rfl sc_law_image.nd (dk_any K rfl (de_var 2)) (blkOk_by (N := n_law_image) (sc := defScope s_law_image) (by decide +kernel)) (fun _ _ _ _ _ => dg_name 7 sc_law_image.nd) (fun _ _ _ _ _ => dts_nil) (fun _ _ _ _ _ => dk_fn K rfl C_law_sum (hr.mono (by decide)) (da_cons (de_var 0) (da_cons (de_var 7) (da_nil))))) (da_nil))))))⟩
abbrev s_law_members : Stmt := topS 26
abbrev n_law_members : List Str := ["draws", "size", "large", "found", "k", "number"]
theorem sc_law_members : FnScope ["draws", "size", "large", "found", "k", "number"] ["draws", "size"] (defScope s_law_members) := ⟨rfl, rfl, rfl, by decide +kernel, rfl, by decide +kernel, by decide +kernel⟩
noncomputable def f_law_members : SEnv → M (Fl × SEnv) := sSeq (sAsg (eOp eqD (eCall m_law_pick (aCons (eVar 0) (aCons (eC (.int 3)) (aNil)))) (eC (.int 0))) (gN 2)) (sSeq (sAsg (eLst (aNil)) (gN 3)) (sSeq (sFor (iRg1M (aCons (eVar 1) (aNil))) (gN 4) (sSeq (sAsg (eOp subD (eCall m_law_pick (aCons (eVar 0) (aCons (eC (.int 1000)) (aNil)))) (eC (.int 500))) (gN 5)) (sSeq (sIf (asT (eVar 2)) (sAsg (eOp addD (eOp mulX (eVar 5) (eC (.int 1000000000))) (eCall m_law_pick (aCons (eVar 0) (aCons (eC (.int 1000)) (aNil))))) (gN 5)) (sNx)) (sDrop (eMt "list" mAppend (eVar 3) (aCons (eVar 5) (aNil))))))) (sRet (eCall nTuple (aCons (eVar 3) (aNil))))))
noncomputable def m_law_members : List D → M D := bodyM 6 f_law_members
theorem ok_law_members {P : Program} {w : World} {K : PySem.W.Frag} {mg : Str → Option Value} {base : Heap} {f : Addr} {fd : FuncData} (M : GF mg) (C_law_pick : Callee P w K mg base "_law_pick" 2 2 ["draws", "many"] m_law_pick) (F : Fun K "_law_members" "_law_members" s_law_members f fd) :
    FnOk P w K mg base CX0 3 f fd ["draws", "size"] (spOf K 2 m_law_members) :=
  fn_ok (N := n_law_members) F sc_law_members fun cdv A outer s H E hr => ⟨_, dss_cons (ds_set 2 sc_law_members.nd (de_cmp (k_eq K rfl hr.units) (dk_fn K rfl C_law_pick (hr.mono (by decide)) (da_cons (de_var 0) (da_cons (de_int) (da_nil)))) (de_int)))
 (dss_cons (ds_set 3 sc_law_members.nd (de_lst (da_nil)))
 (dss_cons (ds_for PassesOwn.never rfl (di_rg1 M.b_range (da_cons (de_var 1) (da_nil))) (dg_name 4 sc_law_members.nd)
 (dss_cons (ds_set 5 sc_law_members.nd (de_op o_sub (dk_fn K rfl C_law_pick (hr.mono (by decide)) (da_cons (de_var 0) (da_cons (de_int) (da_nil)))) (de_int)))
 (dss_cons (ds_if (dk_truth K rfl (de_var 2))
 (dss_one (ds_set 5 sc_law_members.nd (de_op (k_add K rfl) (de_op (k_mulX K rfl) (de_var 5) (de_int)) (dk_fn K rfl C_law_pick (hr.mono (by decide)) (da_cons (de_var 0) (da_cons (de_int) (da_nil)))))))
 (dss_nil))
 (dss_one (ds_expr (dk_mt K rfl m_append PySem.F.plainAttrs_list PySem.F.slot_list_append PySem.F.type_list_append (de_var 3) (da_cons (de_var 5) (da_nil))))))))
 (dss_one (ds_ret (de_callTy (k_tuple K rfl) M.b_tuple (da_cons (de_var 3) (da_nil)))))))⟩
abbrev s_law_mixed : Stmt := topS 27
abbrev n_law_mixed : List Str := ["one", "other", "factors", "k"]
theorem sc_law_mixed : FnScope ["one", "other", "factors", "k"] ["one", "other", "factors"] (defScope s_law_mixed) := ⟨rfl, rfl, rfl, by decide +kernel, rfl, by decide +kernel, by decide +kernel⟩
noncomputable def f_law_mixed : SEnv → M (Fl × SEnv) := sRet (eCall nTuple (aCons (eLc (iRg1M (aCons (eCall nLen (aCons (eVar 0) (aNil))) (aNil))) (gN 3) (bYes) (eOp addD (eOp mulX (eOp ixU (eVar 2) (eC (.int 0))) (eOp ixU (eVar 0) (eVar 3))) (eOp mulX (eOp ixU (eVar 2) (eC (.int 1))) (eOp ixU (eVar 1) (eVar 3)))) [3]) (aNil)))
noncomputable def m_law_mixed : List D → M D := bodyM 4 f_law_mixed
theorem ok_law_mixed {P : Program} {w : World} {K : PySem.W.Frag} {mg : Str → Option Value} {base : Heap} {f : Addr} {fd : FuncData} (M : GF mg) (F : Fun K "_law_mixed" "_law_mixed" s_law_mixed f fd) :
    FnOk P w K mg base CX0 1 f fd ["one", "other", "factors"] (spOf K 3 m_law_mixed) :=
  fn_ok (N := n_law_mixed) F sc_law_mixed fun cdv A outer s H E hr => ⟨_, dss_one (ds_ret (de_callTy (k_tuple K rfl) M.b_tuple (da_cons (de_lc [("k", 3)] rfl sc_law_mixed.nd (di_rg1 M.b_range (da_cons (de_callB (k_len K rfl) M.b_len (da_cons (de_var 0) (da_nil))) (da_nil))) (blkOk_by (N := n_law_mixed) (sc := defScope s_law_mixed) (by decide +kernel)) (fun _ _ _ _ _ => dg_name 3 sc_law_mixed.nd) (fun _ _ _ _ _ => dts_nil) (fun _ _ _ _ _ => de_op (k_add K rfl) (de_op (k_mulX K rfl) (de_ix (k_ix K rfl (hu_of hr)) (de_var 2) (de_int)) (de_ix (k_ix K rfl (hu_of hr)) (de_var 0) (de_var 3))) (de_op (k_mulX K rfl) (de_ix (k_ix K rfl (hu_of hr)) (de_var 2) (de_int)) (de_ix (k_ix K rfl (hu_of hr)) (de_var 1) (de_var 3))))) (da_nil))))⟩
abbrev s_law_is_plain_row : Stmt := topS 28
abbrev n_law_is_plain_row : List Str := ["thing", "one"]
theorem sc_law_is_plain_row : FnScope ["thing", "one"] ["thing"] (defScope s_law_is_plain_row) := ⟨rfl, rfl, rfl, by decide +kernel, rfl, by decide +kernel, by decide +kernel⟩
noncomputable def f_law_is_plain_row (g_law_is_plain_row : List D → M D) : SEnv → M (Fl × SEnv) := sSeq (sIf (asT (eCall nIsi (aCons (eVar 0) (aCons (eC (.ty "tuple")) (aNil))))) (sRet (eOp eqD (eLc (iAnyM (eVar 0)) (gN 1) (bNot (asT (eCall g_law_is_plain_row (aCons (eVar 1) (aNil))))) (eVar 1) [1]) (eLst (aNil)))) (sNx)) (sRet (eOr (eOp isD (eVar 0) (eC .non)) (eAnd (eCall nIsi (aCons (eVar 0) (aCons (eC (.ty "int")) (aNil)))) (eNot (eCall nIsi (aCons (eVar 0) (aCons (eC (.ty "bool")) (aNil))))))))
noncomputable def r_law_is_plain_row : Nat → List D → M D
  | 0 => fun _ => fail
  | k + 1 => bodyM 2 (f_law_is_plain_row (r_law_is_plain_row k))
noncomputable def m_law_is_plain_row : List D → M D := r_law_is_plain_row 20
theorem step_law_is_plain_row {P : Program} {w : World} {K : PySem.W.Frag} {mg : Str → Option Value} {base : Heap} {f : Addr} {fd : FuncData} (M : GF mg) {k : Nat} (C_law_is_plain_row : Callee P w K mg base "_law_is_plain_row" (0 + k) 1 ["thing"] (r_law_is_plain_row k)) (F : Fun K "_law_is_plain_row" "_law_is_plain_row" s_law_is_plain_row f fd) :
    FnOk P w K mg base CX0 (0 + k + 1) f fd ["thing"] (spOf K 1 (r_law_is_plain_row (k + 1))) :=
  fn_ok (N := n_law_is_plain_row) (fb := f_law_is_plain_row (r_law_is_plain_row k)) F sc_law_is_plain_row fun cdv A outer s H E hr => ⟨_, dss_cons (ds_if (dk_truth K rfl (de_callB (k_isi K rfl) M.b_isinstance (da_cons (de_var 0) (da_cons (de_ty (by rfl) M.b_tuple (by decide +kernel)) (da_nil)))))
 (dss_one (ds_ret (de_cmp (k_eq K rfl hr.units) (de_lc [("one", 1)] rfl sc_law_is_plain_row.nd (dk_any K rfl (de_var 0)) (blkOk_by (N := n_law_is_plain_row) (sc := defScope s_law_is_plain_row) (by decide +kernel)) (fun _ _ _ _ _ => dg_name 1 sc_law_is_plain_row.nd) (fun _ _ _ _ _ => dts_one (dt_not (dk_truth K rfl (dk_fn K rfl C_law_is_plain_row hr (da_cons (de_var 1) (da_nil)))))) (fun _ _ _ _ _ => de_var 1)) (de_lst (da_nil)))))
 (dss_nil))
 (dss_one (ds_ret (de_or (de_cmp o_is (de_var 0) (de_non)) (de_one (de_and (de_callB (k_isi K rfl) M.b_isinstance (da_cons (de_var 0) (da_cons (de_ty (by rfl) M.b_int (by decide +kernel)) (da_nil)))) (de_one (de_not (de_callB (k_isi K rfl) M.b_isinstance (da_cons (de_var 0) (da_cons (de_ty (by rfl) M.b_bool (by decide +kernel)) (da_nil)))))))))))⟩
theorem circle_law_is_plain_row {P : Program} {w : World} {K : PySem.W.Frag} {mg : Str → Option Value} {base : Heap} (M : GF mg) {f_law_is_plain_row1 : Addr} {fd_law_is_plain_row1 : FuncData} (F_law_is_plain_row : Fun K "_law_is_plain_row" "_law_is_plain_row" s_law_is_plain_row f_law_is_plain_row1 fd_law_is_plain_row1) (mg_law_is_plain_row : mg "_law_is_plain_row" = some (.ref f_law_is_plain_row1)) (b_law_is_plain_row : Binds K fd_law_is_plain_row1 ["thing"] []) : ∀ k : Nat, FnOk P w K mg base CX0 (0 + k) f_law_is_plain_row1 fd_law_is_plain_row1 ["thing"] (spOf K 1 (r_law_is_plain_row k))
  | 0 => fn_fail
  | k + 1 => by
    have i_law_is_plain_row := circle_law_is_plain_row (P := P) (w := w) (K := K) (mg := mg) (base := base) M F_law_is_plain_row mg_law_is_plain_row b_law_is_plain_row k
    have C_law_is_plain_row : Callee P w K mg base "_law_is_plain_row" (0 + k) 1 ["thing"] (r_law_is_plain_row k) := ⟨_, _, i_law_is_plain_row, mg_law_is_plain_row, F_law_is_plain_row.kp, b_law_is_plain_row⟩
    exact step_law_is_plain_row M C_law_is_plain_row F_law_is_plain_row
abbrev s_law : Stmt := topS 29
abbrev n_law : List Str := ["script", "draws", "many", "news", "end", "one", "other", "factors", "both", "vector", "told", "number"]
theorem sc_law : FnScope ["script", "draws", "many", "news", "end", "one", "other", "factors", "both", "vector", "told", "number"] ["script"] (defScope s_law) := ⟨rfl, rfl, rfl, by decide +kernel, rfl, by decide +kernel, by decide +kernel⟩
noncomputable def f_law : SEnv → M (Fl × SEnv) := sSeq (sAsg (eCall m_law_stream (aCons (eVar 0) (aCons (eC (.int 200)) (aNil)))) (gN 1)) (sSeq (sAsg (eCall m_law_pick (aCons (eVar 1) (aCons (eC (.int 5)) (aNil)))) (gN 2)) (sSeq (sAsg (eCall m_law_news (aCons (eVar 1) (aCons (eVar 2) (aCons (eC (.str "abz")) (aNil))))) (gN 3)) (sSeq (sAsg (eCall m_law_end (aCons (eVar 1) (aCons (eVar 2) (aCons (eC (.str "ab")) (aCons (eC (.int 0)) (aNil)))))) (gN 4)) (sSeq (sAsg (eCall m_law_members (aCons (eVar 1) (aCons (eCall m_law_power (aCons (eVar 2) (aNil))) (aNil)))) (gN 5)) (sSeq (sAsg (eCall m_law_members (aCons (eVar 1) (aCons (eCall m_law_power (aCons (eVar 2) (aNil))) (aNil)))) (gN 6)) (sSeq (sAsg (eTup (aCons (eOp subD (eCall m_law_pick (aCons (eVar 1) (aCons (eC (.int 40)) (aNil)))) (eC (.int 20))) (aCons (eOp subD (eCall m_law_pick (aCons (eVar 1) (aCons (eC (.int 40)) (aNil)))) (eC (.int 20))) (aNil)))) (gN 7)) (sSeq (sAsg (eCall m_law_mixed (aCons (eVar 5) (aCons (eVar 6) (aCons (eVar 7) (aNil))))) (gN 8)) (sSeq (sFor (iAnyM (eTup (aCons (eVar 5) (aCons (eVar 6) (aCons (eVar 8) (aNil)))))) (gN 9) (sSeq (sAsg (eCall m_step_vector (aCons (eVar 9) (aCons (eVar 3) (aNil)))) (gN 10)) (sSeq (sAsg (eCall m_end_number (aCons (eVar 9) (aCons (eVar 4) (aNil)))) (gN 11)) (sSeq (sIf (bOr (bNot (asT (eCall nIsi (aCons (eVar 10) (aCons (eC (.ty "tuple")) (aNil)))))) (bOr (bNot (asT (eCall m_law_is_plain_row (aCons (eVar 10) (aNil))))) (asB (eOp neD (eVar 10) (eCall m_law_image (aCons (eVar 9) (aCons (eVar 3) (aNil)))))))) (sRet (eC (.bl false))) (sNx)) (sIf (bOr (bNot (asT (eCall m_law_is_plain_row (aCons (eVar 11) (aNil))))) (bOr (asT (eCall nIsi (aCons (eVar 11) (aCons (eC (.ty "tuple")) (aNil))))) (asB (eOp neD (eVar 11) (eCall m_law_sum (aCons (eVar 9) (aCons (eOp ixU (eCall m_law_takes (aCons (eVar 4) (aCons (eVar 2) (aNil)))) (eC (.int 2))) (aNil)))))))) (sRet (eC (.bl false))) (sNx)))))) (sSeq (sIf (asB (eOp neD (eCall m_step_vector (aCons (eVar 8) (aCons (eVar 3) (aNil)))) (eCall m_law_mixed (aCons (eCall m_step_vector (aCons (eVar 5) (aCons (eVar 3) (aNil)))) (aCons (eCall m_step_vector (aCons (eVar 6) (aCons (eVar 3) (aNil)))) (aCons (eVar 7) (aNil))))))) (sRet (eC (.bl false))) (sNx)) (sRet (eOp eqD (eCall m_end_number (aCons (eVar 8) (aCons (eVar 4) (aNil)))) (eOp addD (eOp mulX (eOp ixU (eVar 7) (eC (.int 0))) (eCall m_end_number (aCons (eVar 5) (aCons (eVar 4) (aNil))))) (eOp mulX (eOp ixU (eVar 7) (eC (.int 1))) (eCall m_end_number (aCons (eVar 6) (aCons (eVar 4) (aNil)))))))))))))))))
noncomputable def m_law : List D → M D := bodyM 12 f_law
theorem ok_law {P : Program} {w : World} {K : PySem.W.Frag} {mg : Str → Option Value} {base : Heap} {f : Addr} {fd : FuncData} (M : GF mg) (C_law_end : Callee P w K mg base "_law_end" 5 4 ["draws", "many", "signs", "stops"] m_law_end) (C_law_image : Callee P w K mg base "_law_image" 3 2 ["vector", "news"] m_law_image) (C_law_is_plain_row : Callee P w K mg base "_law_is_plain_row" 20 1 ["thing"] m_law_is_plain_row) (C_law_members : Callee P w K mg base "_law_members" 3 2 ["draws", "size"] m_law_members) (C_law_mixed : Callee P w K mg base "_law_mixed" 1 3 ["one", "other", "factors"] m_law_mixed) (C_law_news : Callee P w K mg base "_law_news" 5 3 ["draws", "many", "signs"] m_law_news) (C_law_pick : Callee P w K mg base "_law_pick" 2 2 ["draws", "many"] m_law_pick) (C_law_power : Callee P w K mg base "_law_power" 1 1 ["many"] m_law_power) (C_law_stream : Callee P w K mg base "_law_stream" 2 2 ["script", "most"] m_law_stream) (C_law_sum : Callee P w K mg base "_law_sum" 1 2 ["vector", "terms"] m_law_sum) (C_law_takes : Callee P w K mg base "_law_takes" 2 2 ["row", "many"] m_law_takes) (C_end_number : Callee P w K mg base "end_number" 3 2 ["vector", "row"] m_end_number) (C_step_vector : Callee P w K mg base "step_vector" 4 2 ["vector", "news"] m_step_vector) (F : Fun K "law" "law" s_law f fd) :
    FnOk P w K mg base CX0 21 f fd ["script"] (spOf K 1 m_law) :=
  fn_ok (N := n_law) F sc_law fun cdv A outer s H E hr => ⟨_, dss_cons (ds_set 1 sc_law.nd (dk_fn K rfl C_law_stream (hr.mono (by decide)) (da_cons (de_var 0) (da_cons (de_int) (da_nil)))))
 (dss_cons (ds_set 2 sc_law.nd (dk_fn K rfl C_law_pick (hr.mono (by decide)) (da_cons (de_var 1) (da_cons (de_int) (da_nil)))))
 (dss_cons (ds_set 3 sc_law.nd (dk_fn K rfl C_law_news (hr.mono (by decide)) (da_cons (de_var 1) (da_cons (de_var 2) (da_cons (de_str) (da_nil))))))
 (dss_cons (ds_set 4 sc_law.nd (dk_fn K rfl C_law_end (hr.mono (by decide)) (da_cons (de_var 1) (da_cons (de_var 2) (da_cons (de_str) (da_cons (de_int) (da_nil)))))))
 (dss_cons (ds_set 5 sc_law.nd (dk_fn K rfl C_law_members (hr.mono (by decide)) (da_cons (de_var 1) (da_cons (dk_fn K rfl C_law_power (hr.mono (by decide)) (da_cons (de_var 2) (da_nil))) (da_nil)))))
 (dss_cons (ds_set 6 sc_law.nd (dk_fn K rfl C_law_members (hr.mono (by decide)) (da_cons (de_var 1) (da_cons (dk_fn K rfl C_law_power (hr.mono (by decide)) (da_cons (de_var 2) (da_nil))) (da_nil)))))
 (dss_cons (ds_set 7 sc_law.nd (de_tup (da_cons (de_op o_sub (dk_fn K rfl C_law_pick (hr.mono (by decide)) (da_cons (de_var 1) (da_cons (de_int) (da_nil)))) (de_int)) (da_cons (de_op o_sub (dk_fn K rfl C_law_pick (hr.mono (by decide)) (da_cons (de_var 1) (da_cons (de_int) (da_nil)))) (de_int)) (da_nil)))))
 (dss_cons (ds_set 8 sc_law.nd (dk_fn K rfl C_law_mixed (hr.mono (by decide)) (da_cons (de_var 5) (da_cons (de_var 6) (da_cons (de_var 7) (da_nil))))))
 (dss_cons (ds_for PassesOwn.never rfl (dk_any K rfl (de_tup (da_cons (de_var 5) (da_cons (de_var 6) (da_cons (de_var 8) (da_nil)))))) (dg_name 9 sc_law.nd)
 (dss_cons (ds_set 10 sc_law.nd (dk_fn K rfl C_step_vector (hr.mono (by decide)) (da_cons (de_var 9) (da_cons (de_var 3) (da_nil)))))
 (dss_cons (ds_set 11 sc_law.nd (dk_fn K rfl C_end_number (hr.mono (by decide)) (da_cons (de_var 9) (da_cons (de_var 4) (da_nil)))))
 (dss_cons (ds_if (dt_w (dw_or (dt_not (dk_truth K rfl (de_callB (k_isi K rfl) M.b_isinstance (da_cons (de_var 10) (da_cons (de_ty (by rfl) M.b_tuple (by decide +kernel)) (da_nil)))))) (dw_or (dt_not (dk_truth K rfl (dk_fn K rfl C_law_is_plain_row (hr.mono (by decide)) (da_cons (de_var 10) (da_nil))))) (dw_or1 (dt_cmp (k_ne K rfl hr.units) (de_var 10) (dk_fn K rfl C_law_image (hr.mono (by decide)) (da_cons (de_var 9) (da_cons (de_var 3) (da_nil)))))))))
 (dss_one (ds_ret (de_bl)))
 (dss_nil))
 (dss_one (ds_if (dt_w (dw_or (dt_not (dk_truth K rfl (dk_fn K rfl C_law_is_plain_row (hr.mono (by decide)) (da_cons (de_var 11) (da_nil))))) (dw_or (dk_truth K rfl (de_callB (k_isi K rfl) M.b_isinstance (da_cons (de_var 11) (da_cons (de_ty (by rfl) M.b_tuple (by decide +kernel)) (da_nil))))) (dw_or1 (dt_cmp (k_ne K rfl hr.units) (de_var 11) (dk_fn K rfl C_law_sum (hr.mono (by decide)) (da_cons (de_var 9) (da_cons (de_ix (k_ix K rfl (hu_of hr)) (dk_fn K rfl C_law_takes (hr.mono (by decide)) (da_cons (de_var 4) (da_cons (de_var 2) (da_nil)))) (de_int)) (da_nil)))))))))
 (dss_one (ds_ret (de_bl)))
 (dss_nil)))))))
 (dss_cons (ds_if (dt_cmp (k_ne K rfl hr.units) (dk_fn K rfl C_step_vector (hr.mono (by decide)) (da_cons (de_var 8) (da_cons (de_var 3) (da_nil)))) (dk_fn K rfl C_law_mixed (hr.mono (by decide)) (da_cons (dk_fn K rfl C_step_vector (hr.mono (by decide)) (da_cons (de_var 5) (da_cons (de_var 3) (da_nil)))) (da_cons (dk_fn K rfl C_step_vector (hr.mono (by decide)) (da_cons (de_var 6) (da_cons (de_var 3) (da_nil)))) (da_cons (de_var 7) (da_nil))))))
 (dss_one (ds_ret (de_bl)))
 (dss_nil))
 (dss_one (ds_ret (de_cmp (k_eq K rfl hr.units) (dk_fn K rfl C_end_number (hr.mono (by decide)) (da_cons (de_var 8) (da_cons (de_var 4) (da_nil)))) (de_op (k_add K rfl) (de_op (k_mulX K rfl) (de_ix (k_ix K rfl (hu_of hr)) (de_var 7) (de_int)) (dk_fn K rfl C_end_number (hr.mono (by decide)) (da_cons (de_var 5) (da_cons (de_var 4) (da_nil))))) (de_op (k_mulX K rfl) (de_ix (k_ix K rfl (hu_of hr)) (de_var 7) (de_int)) (dk_fn K rfl C_end_number (hr.mono (by decide)) (da_cons (de_var 6) (da_cons (de_var 4) (da_nil))))))))))))))))))⟩
theorem all_ok {P : Program} {w : World} {K : PySem.W.Frag} {h : Heap} {mg : Str → Option Value} {fa : Addr} (X : K.In h) (G : h.Ns mainGlobals mg) (hfa : mg "law" = some (.ref fa))
    {f0 : Addr} {od0 an0 : Option Addr} {sl0 : Array (Option Value)} {oc0 kV0 dc0 pm0 cd0 ct0 : Value}
    (a0 : PySem.W.nsIn K mainGlobals "number_of" = some (some (.ref f0))) (l0 : K.lookup f0 = some ⟨oc0, od0, .func (PySem.W.fnOf "number_of" "number_of" (defArgs s_number_of) (defBody s_number_of) (defScope s_number_of) .none kV0 dc0 pm0 an0 cd0 ct0), sl0⟩) (c0 : PySem.W.codeIn K cd0 "number_of" = true) (k0 : PySem.W.keepIn K (.ref f0) = true)
    {f1 : Addr} {od1 an1 : Option Addr} {sl1 : Array (Option Value)} {oc1 kV1 dc1 pm1 cd1 ct1 : Value}
    (a1 : PySem.W.nsIn K mainGlobals "weight_of" = some (some (.ref f1))) (l1 : K.lookup f1 = some ⟨oc1, od1, .func (PySem.W.fnOf "weight_of" "weight_of" (defArgs s_weight_of) (defBody s_weight_of) (defScope s_weight_of) .none kV1 dc1 pm1 an1 cd1 ct1), sl1⟩) (c1 : PySem.W.codeIn K cd1 "weight_of" = true) (k1 : PySem.W.keepIn K (.ref f1) = true)
    {f2 : Addr} {od2 an2 : Option Addr} {sl2 : Array (Option Value)} {oc2 kV2 dc2 pm2 cd2 ct2 : Value}
    (a2 : PySem.W.nsIn K mainGlobals "powers_of_three" = some (some (.ref f2))) (l2 : K.lookup f2 = some ⟨oc2, od2, .func (PySem.W.fnOf "powers_of_three" "powers_of_three" (defArgs s_powers_of_three) (defBody s_powers_of_three) (defScope s_powers_of_three) .none kV2 dc2 pm2 an2 cd2 ct2), sl2⟩) (c2 : PySem.W.codeIn K cd2 "powers_of_three" = true) (k2 : PySem.W.keepIn K (.ref f2) = true)
    {f3 : Addr} {od3 an3 : Option Addr} {sl3 : Array (Option Value)} {oc3 kV3 dc3 pm3 cd3 ct3 : Value}
    (a3 : PySem.W.nsIn K mainGlobals "weight_terms" = some (some (.ref f3))) (l3 : K.lookup f3 = some ⟨oc3, od3, .func (PySem.W.fnOf "weight_terms" "weight_terms" (defArgs s_weight_terms) (defBody s_weight_terms) (defScope s_weight_terms) .none kV3 dc3 pm3 an3 cd3 ct3), sl3⟩) (c3 : PySem.W.codeIn K cd3 "weight_terms" = true) (k3 : PySem.W.keepIn K (.ref f3) = true)
    {f4 : Addr} {od4 an4 : Option Addr} {sl4 : Array (Option Value)} {oc4 kV4 dc4 pm4 cd4 ct4 : Value}
    (a4 : PySem.W.nsIn K mainGlobals "number_terms" = some (some (.ref f4))) (l4 : K.lookup f4 = some ⟨oc4, od4, .func (PySem.W.fnOf "number_terms" "number_terms" (defArgs s_number_terms) (defBody s_number_terms) (defScope s_number_terms) .none kV4 dc4 pm4 an4 cd4 ct4), sl4⟩) (c4 : PySem.W.codeIn K cd4 "number_terms" = true) (k4 : PySem.W.keepIn K (.ref f4) = true)
    {f5 : Addr} {od5 an5 : Option Addr} {sl5 : Array (Option Value)} {oc5 kV5 dc5 pm5 cd5 ct5 : Value}
    (a5 : PySem.W.nsIn K mainGlobals "step_terms" = some (some (.ref f5))) (l5 : K.lookup f5 = some ⟨oc5, od5, .func (PySem.W.fnOf "step_terms" "step_terms" (defArgs s_step_terms) (defBody s_step_terms) (defScope s_step_terms) .none kV5 dc5 pm5 an5 cd5 ct5), sl5⟩) (c5 : PySem.W.codeIn K cd5 "step_terms" = true) (k5 : PySem.W.keepIn K (.ref f5) = true)
    {f6 : Addr} {od6 an6 : Option Addr} {sl6 : Array (Option Value)} {oc6 kV6 dc6 pm6 cd6 ct6 : Value}
    (a6 : PySem.W.nsIn K mainGlobals "image" = some (some (.ref f6))) (l6 : K.lookup f6 = some ⟨oc6, od6, .func (PySem.W.fnOf "image" "image" (defArgs s_image) (defBody s_image) (defScope s_image) .none kV6 dc6 pm6 an6 cd6 ct6), sl6⟩) (c6 : PySem.W.codeIn K cd6 "image" = true) (k6 : PySem.W.keepIn K (.ref f6) = true)
    {f7 : Addr} {od7 an7 : Option Addr} {sl7 : Array (Option Value)} {oc7 kV7 dc7 pm7 cd7 ct7 : Value}
    (a7 : PySem.W.nsIn K mainGlobals "step_vector" = some (some (.ref f7))) (l7 : K.lookup f7 = some ⟨oc7, od7, .func (PySem.W.fnOf "step_vector" "step_vector" (defArgs s_step_vector) (defBody s_step_vector) (defScope s_step_vector) .none kV7 dc7 pm7 an7 cd7 ct7), sl7⟩) (c7 : PySem.W.codeIn K cd7 "step_vector" = true) (k7 : PySem.W.keepIn K (.ref f7) = true)
    {f8 : Addr} {od8 an8 : Option Addr} {sl8 : Array (Option Value)} {oc8 kV8 dc8 pm8 cd8 ct8 : Value}
    (a8 : PySem.W.nsIn K mainGlobals "end_number" = some (some (.ref f8))) (l8 : K.lookup f8 = some ⟨oc8, od8, .func (PySem.W.fnOf "end_number" "end_number" (defArgs s_end_number) (defBody s_end_number) (defScope s_end_number) .none kV8 dc8 pm8 an8 cd8 ct8), sl8⟩) (c8 : PySem.W.codeIn K cd8 "end_number" = true) (k8 : PySem.W.keepIn K (.ref f8) = true)
    {f9 : Addr} {od9 an9 : Option Addr} {sl9 : Array (Option Value)} {oc9 kV9 dc9 pm9 cd9 ct9 : Value}
    (a9 : PySem.W.nsIn K mainGlobals "_law_mix" = some (some (.ref f9))) (l9 : K.lookup f9 = some ⟨oc9, od9, .func (PySem.W.fnOf "_law_mix" "_law_mix" (defArgs s_law_mix) (defBody s_law_mix) (defScope s_law_mix) .none kV9 dc9 pm9 an9 cd9 ct9), sl9⟩) (c9 : PySem.W.codeIn K cd9 "_law_mix" = true) (k9 : PySem.W.keepIn K (.ref f9) = true)
    {f10 : Addr} {od10 an10 : Option Addr} {sl10 : Array (Option Value)} {oc10 kV10 dc10 pm10 cd10 ct10 : Value}
    (a10 : PySem.W.nsIn K mainGlobals "_law_stream" = some (some (.ref f10))) (l10 : K.lookup f10 = some ⟨oc10, od10, .func (PySem.W.fnOf "_law_stream" "_law_stream" (defArgs s_law_stream) (defBody s_law_stream) (defScope s_law_stream) .none kV10 dc10 pm10 an10 cd10 ct10), sl10⟩) (c10 : PySem.W.codeIn K cd10 "_law_stream" = true) (k10 : PySem.W.keepIn K (.ref f10) = true)
    {f11 : Addr} {od11 an11 : Option Addr} {sl11 : Array (Option Value)} {oc11 kV11 dc11 pm11 cd11 ct11 : Value}
    (a11 : PySem.W.nsIn K mainGlobals "_law_pick" = some (some (.ref f11))) (l11 : K.lookup f11 = some ⟨oc11, od11, .func (PySem.W.fnOf "_law_pick" "_law_pick" (defArgs s_law_pick) (defBody s_law_pick) (defScope s_law_pick) .none kV11 dc11 pm11 an11 cd11 ct11), sl11⟩) (c11 : PySem.W.codeIn K cd11 "_law_pick" = true) (k11 : PySem.W.keepIn K (.ref f11) = true)
    {f12 : Addr} {od12 an12 : Option Addr} {sl12 : Array (Option Value)} {oc12 kV12 dc12 pm12 cd12 ct12 : Value}
    (a12 : PySem.W.nsIn K mainGlobals "_law_string" = some (some (.ref f12))) (l12 : K.lookup f12 = some ⟨oc12, od12, .func (PySem.W.fnOf "_law_string" "_law_string" (defArgs s_law_string) (defBody s_law_string) (defScope s_law_string) .none kV12 dc12 pm12 an12 cd12 ct12), sl12⟩) (c12 : PySem.W.codeIn K cd12 "_law_string" = true) (k12 : PySem.W.keepIn K (.ref f12) = true)
    {f13 : Addr} {od13 an13 : Option Addr} {sl13 : Array (Option Value)} {oc13 kV13 dc13 pm13 cd13 ct13 : Value}
    (a13 : PySem.W.nsIn K mainGlobals "_law_row" = some (some (.ref f13))) (l13 : K.lookup f13 = some ⟨oc13, od13, .func (PySem.W.fnOf "_law_row" "_law_row" (defArgs s_law_row) (defBody s_law_row) (defScope s_law_row) .none kV13 dc13 pm13 an13 cd13 ct13), sl13⟩) (c13 : PySem.W.codeIn K cd13 "_law_row" = true) (k13 : PySem.W.keepIn K (.ref f13) = true)
    {f14 : Addr} {od14 an14 : Option Addr} {sl14 : Array (Option Value)} {oc14 kV14 dc14 pm14 cd14 ct14 : Value}
    (a14 : PySem.W.nsIn K mainGlobals "_law_news" = some (some (.ref f14))) (l14 : K.lookup f14 = some ⟨oc14, od14, .func (PySem.W.fnOf "_law_news" "_law_news" (defArgs s_law_news) (defBody s_law_news) (defScope s_law_news) .none kV14 dc14 pm14 an14 cd14 ct14), sl14⟩) (c14 : PySem.W.codeIn K cd14 "_law_news" = true) (k14 : PySem.W.keepIn K (.ref f14) = true)
    {f15 : Addr} {od15 an15 : Option Addr} {sl15 : Array (Option Value)} {oc15 kV15 dc15 pm15 cd15 ct15 : Value}
    (a15 : PySem.W.nsIn K mainGlobals "_law_end" = some (some (.ref f15))) (l15 : K.lookup f15 = some ⟨oc15, od15, .func (PySem.W.fnOf "_law_end" "_law_end" (defArgs s_law_end) (defBody s_law_end) (defScope s_law_end) .none kV15 dc15 pm15 an15 cd15 ct15), sl15⟩) (c15 : PySem.W.codeIn K cd15 "_law_end" = true) (k15 : PySem.W.keepIn K (.ref f15) = true)
    {f16 : Addr} {od16 an16 : Option Addr} {sl16 : Array (Option Value)} {oc16 kV16 dc16 pm16 cd16 ct16 : Value}
    (a16 : PySem.W.nsIn K mainGlobals "_law_number" = some (some (.ref f16))) (l16 : K.lookup f16 = some ⟨oc16, od16, .func (PySem.W.fnOf "_law_number" "_law_number" (defArgs s_law_number) (defBody s_law_number) (defScope s_law_number) .none kV16 dc16 pm16 an16 cd16 ct16), sl16⟩) (c16 : PySem.W.codeIn K cd16 "_law_number" = true) (k16 : PySem.W.keepIn K (.ref f16) = true)
    {f17 : Addr} {od17 an17 : Option Addr} {sl17 : Array (Option Value)} {oc17 kV17 dc17 pm17 cd17 ct17 : Value}
    (a17 : PySem.W.nsIn K mainGlobals "_law_weight" = some (some (.ref f17))) (l17 : K.lookup f17 = some ⟨oc17, od17, .func (PySem.W.fnOf "_law_weight" "_law_weight" (defArgs s_law_weight) (defBody s_law_weight) (defScope s_law_weight) .none kV17 dc17 pm17 an17 cd17 ct17), sl17⟩) (c17 : PySem.W.codeIn K cd17 "_law_weight" = true) (k17 : PySem.W.keepIn K (.ref f17) = true)
    {f18 : Addr} {od18 an18 : Option Addr} {sl18 : Array (Option Value)} {oc18 kV18 dc18 pm18 cd18 ct18 : Value}
    (a18 : PySem.W.nsIn K mainGlobals "_law_power" = some (some (.ref f18))) (l18 : K.lookup f18 = some ⟨oc18, od18, .func (PySem.W.fnOf "_law_power" "_law_power" (defArgs s_law_power) (defBody s_law_power) (defScope s_law_power) .none kV18 dc18 pm18 an18 cd18 ct18), sl18⟩) (c18 : PySem.W.codeIn K cd18 "_law_power" = true) (k18 : PySem.W.keepIn K (.ref f18) = true)
    {f19 : Addr} {od19 an19 : Option Addr} {sl19 : Array (Option Value)} {oc19 kV19 dc19 pm19 cd19 ct19 : Value}
    (a19 : PySem.W.nsIn K mainGlobals "_law_takes" = some (some (.ref f19))) (l19 : K.lookup f19 = some ⟨oc19, od19, .func (PySem.W.fnOf "_law_takes" "_law_takes" (defArgs s_law_takes) (defBody s_law_takes) (defScope s_law_takes) .none kV19 dc19 pm19 an19 cd19 ct19), sl19⟩) (c19 : PySem.W.codeIn K cd19 "_law_takes" = true) (k19 : PySem.W.keepIn K (.ref f19) = true)
    {f20 : Addr} {od20 an20 : Option Addr} {sl20 : Array (Option Value)} {oc20 kV20 dc20 pm20 cd20 ct20 : Value}
    (a20 : PySem.W.nsIn K mainGlobals "_law_times" = some (some (.ref f20))) (l20 : K.lookup f20 = some ⟨oc20, od20, .func (PySem.W.fnOf "_law_times" "_law_times" (defArgs s_law_times) (defBody s_law_times) (defScope s_law_times) .none kV20 dc20 pm20 an20 cd20 ct20), sl20⟩) (c20 : PySem.W.codeIn K cd20 "_law_times" = true) (k20 : PySem.W.keepIn K (.ref f20) = true)
    {f21 : Addr} {od21 an21 : Option Addr} {sl21 : Array (Option Value)} {oc21 kV21 dc21 pm21 cd21 ct21 : Value}
    (a21 : PySem.W.nsIn K mainGlobals "_law_sum" = some (some (.ref f21))) (l21 : K.lookup f21 = some ⟨oc21, od21, .func (PySem.W.fnOf "_law_sum" "_law_sum" (defArgs s_law_sum) (defBody s_law_sum) (defScope s_law_sum) .none kV21 dc21 pm21 an21 cd21 ct21), sl21⟩) (c21 : PySem.W.codeIn K cd21 "_law_sum" = true) (k21 : PySem.W.keepIn K (.ref f21) = true)
    {f22 : Addr} {od22 an22 : Option Addr} {sl22 : Array (Option Value)} {oc22 kV22 dc22 pm22 cd22 ct22 : Value}
    (a22 : PySem.W.nsIn K mainGlobals "_law_image" = some (some (.ref f22))) (l22 : K.lookup f22 = some ⟨oc22, od22, .func (PySem.W.fnOf "_law_image" "_law_image" (defArgs s_law_image) (defBody s_law_image) (defScope s_law_image) .none kV22 dc22 pm22 an22 cd22 ct22), sl22⟩) (c22 : PySem.W.codeIn K cd22 "_law_image" = true) (k22 : PySem.W.keepIn K (.ref f22) = true)
    {f23 : Addr} {od23 an23 : Option Addr} {sl23 : Array (Option Value)} {oc23 kV23 dc23 pm23 cd23 ct23 : Value}
    (a23 : PySem.W.nsIn K mainGlobals "_law_members" = some (some (.ref f23))) (l23 : K.lookup f23 = some ⟨oc23, od23, .func (PySem.W.fnOf "_law_members" "_law_members" (defArgs s_law_members) (defBody s_law_members) (defScope s_law_members) .none kV23 dc23 pm23 an23 cd23 ct23), sl23⟩) (c23 : PySem.W.codeIn K cd23 "_law_members" = true) (k23 : PySem.W.keepIn K (.ref f23) = true)
    {f24 : Addr} {od24 an24 : Option Addr} {sl24 : Array (Option Value)} {oc24 kV24 dc24 pm24 cd24 ct24 : Value}
    (a24 : PySem.W.nsIn K mainGlobals "_law_mixed" = some (some (.ref f24))) (l24 : K.lookup f24 = some ⟨oc24, od24, .func (PySem.W.fnOf "_law_mixed" "_law_mixed" (defArgs s_law_mixed) (defBody s_law_mixed) (defScope s_law_mixed) .none kV24 dc24 pm24 an24 cd24 ct24), sl24⟩) (c24 : PySem.W.codeIn K cd24 "_law_mixed" = true) (k24 : PySem.W.keepIn K (.ref f24) = true)
    {f25 : Addr} {od25 an25 : Option Addr} {sl25 : Array (Option Value)} {oc25 kV25 dc25 pm25 cd25 ct25 : Value}
    (a25 : PySem.W.nsIn K mainGlobals "_law_is_plain_row" = some (some (.ref f25))) (l25 : K.lookup f25 = some ⟨oc25, od25, .func (PySem.W.fnOf "_law_is_plain_row" "_law_is_plain_row" (defArgs s_law_is_plain_row) (defBody s_law_is_plain_row) (defScope s_law_is_plain_row) .none kV25 dc25 pm25 an25 cd25 ct25), sl25⟩) (c25 : PySem.W.codeIn K cd25 "_law_is_plain_row" = true) (k25 : PySem.W.keepIn K (.ref f25) = true)
    {f26 : Addr} {od26 an26 : Option Addr} {sl26 : Array (Option Value)} {oc26 kV26 dc26 pm26 cd26 ct26 : Value}
    (a26 : PySem.W.nsIn K mainGlobals "law" = some (some (.ref f26))) (l26 : K.lookup f26 = some ⟨oc26, od26, .func (PySem.W.fnOf "law" "law" (defArgs s_law) (defBody s_law) (defScope s_law) .none kV26 dc26 pm26 an26 cd26 ct26), sl26⟩) (c26 : PySem.W.codeIn K cd26 "law" = true) (k26 : PySem.W.keepIn K (.ref f26) = true)
    (z0 : PySem.W.nsIn K mainGlobals "bool" = some none) (z1 : PySem.W.nsIn K mainGlobals "int" = some none) (z2 : PySem.W.nsIn K mainGlobals "isinstance" = some none) (z3 : PySem.W.nsIn K mainGlobals "len" = some none) (z4 : PySem.W.nsIn K mainGlobals "min" = some none) (z5 : PySem.W.nsIn K mainGlobals "ord" = some none) (z6 : PySem.W.nsIn K mainGlobals "range" = some none) (z7 : PySem.W.nsIn K mainGlobals "str" = some none) (z8 : PySem.W.nsIn K mainGlobals "sum" = some none) (z9 : PySem.W.nsIn K mainGlobals "tuple" = some none) (y0 : ∃ t, PySem.W.nsIn K mainGlobals "BASE" = some (some (.int 27 t))) :
    ∃ fd : FuncData, (∀ (s : Shared) (v : Value), BindsTo s fd ⟨[v], []⟩ [("script", v)]) ∧ ∀ base : Heap, K.In base → base.Ns mainGlobals mg → FnOk P w K mg base CX0 21 fa fd ["script"] (spOf K 1 m_law) := by
  have e := hfa.symm.trans (PySem.W.mg_of X G a26)
  cases e
  have F0 := fun_mk (st := s_number_of) l0 c0 k0
  have b0 := F0.binds (ps := ["value"]) fun _ _ _ _ _ _ us hl => match us, hl with | [_], _ => rfl
  have F1 := fun_mk (st := s_weight_of) l1 c1 k1
  have b1 := F1.binds (ps := ["value"]) fun _ _ _ _ _ _ us hl => match us, hl with | [_], _ => rfl
  have F2 := fun_mk (st := s_powers_of_three) l2 c2 k2
  have b2 := F2.binds (ps := ["many"]) fun _ _ _ _ _ _ us hl => match us, hl with | [_], _ => rfl
  have F3 := fun_mk (st := s_weight_terms) l3 c3 k3
  have b3 := F3.binds (ps := ["row", "powers"]) fun _ _ _ _ _ _ us hl => match us, hl with | [_, _], _ => rfl
  have F4 := fun_mk (st := s_number_terms) l4 c4 k4
  have b4 := F4.binds (ps := ["row", "powers"]) fun _ _ _ _ _ _ us hl => match us, hl with | [_, _], _ => rfl
  have F5 := fun_mk (st := s_step_terms) l5 c5 k5
  have b5 := F5.binds (ps := ["news"]) fun _ _ _ _ _ _ us hl => match us, hl with | [_], _ => rfl
  have F6 := fun_mk (st := s_image) l6 c6 k6
  have b6 := F6.binds (ps := ["vector", "all_terms"]) fun _ _ _ _ _ _ us hl => match us, hl with | [_, _], _ => rfl
  have F7 := fun_mk (st := s_step_vector) l7 c7 k7
  have b7 := F7.binds (ps := ["vector", "news"]) fun _ _ _ _ _ _ us hl => match us, hl with | [_, _], _ => rfl
  have F8 := fun_mk (st := s_end_number) l8 c8 k8
  have b8 := F8.binds (ps := ["vector", "row"]) fun _ _ _ _ _ _ us hl => match us, hl with | [_, _], _ => rfl
  have F9 := fun_mk (st := s_law_mix) l9 c9 k9
  have b9 := F9.binds (ps := ["cell", "k"]) fun _ _ _ _ _ _ us hl => match us, hl with | [_, _], _ => rfl
  have F10 := fun_mk (st := s_law_stream) l10 c10 k10
  have b10 := F10.binds (ps := ["script", "most"]) fun _ _ _ _ _ _ us hl => match us, hl with | [_, _], _ => rfl
  have F11 := fun_mk (st := s_law_pick) l11 c11 k11
  have b11 := F11.binds (ps := ["draws", "many"]) fun _ _ _ _ _ _ us hl => match us, hl with | [_, _], _ => rfl
  have F12 := fun_mk (st := s_law_string) l12 c12 k12
  have b12 := F12.binds (ps := ["draws", "signs"]) fun _ _ _ _ _ _ us hl => match us, hl with | [_, _], _ => rfl
  have F13 := fun_mk (st := s_law_row) l13 c13 k13
  have b13 := F13.binds (ps := ["draws", "boxes", "signs"]) fun _ _ _ _ _ _ us hl => match us, hl with | [_, _, _], _ => rfl
  have F14 := fun_mk (st := s_law_news) l14 c14 k14
  have b14 := F14.binds (ps := ["draws", "many", "signs"]) fun _ _ _ _ _ _ us hl => match us, hl with | [_, _, _], _ => rfl
  have F15 := fun_mk (st := s_law_end) l15 c15 k15
  have b15 := F15.binds (ps := ["draws", "many", "signs", "stops"]) fun _ _ _ _ _ _ us hl => match us, hl with | [_, _, _, _], _ => rfl
  have F16 := fun_mk (st := s_law_number) l16 c16 k16
  have b16 := F16.binds (ps := ["value"]) fun _ _ _ _ _ _ us hl => match us, hl with | [_], _ => rfl
  have F17 := fun_mk (st := s_law_weight) l17 c17 k17
  have b17 := F17.binds (ps := ["value"]) fun _ _ _ _ _ _ us hl => match us, hl with | [_], _ => rfl
  have F18 := fun_mk (st := s_law_power) l18 c18 k18
  have b18 := F18.binds (ps := ["many"]) fun _ _ _ _ _ _ us hl => match us, hl with | [_], _ => rfl
  have F19 := fun_mk (st := s_law_takes) l19 c19 k19
  have b19 := F19.binds (ps := ["row", "many"]) fun _ _ _ _ _ _ us hl => match us, hl with | [_, _], _ => rfl
  have F20 := fun_mk (st := s_law_times) l20 c20 k20
  have b20 := F20.binds (ps := ["old", "take"]) fun _ _ _ _ _ _ us hl => match us, hl with | [_, _], _ => rfl
  have F21 := fun_mk (st := s_law_sum) l21 c21 k21
  have b21 := F21.binds (ps := ["vector", "terms"]) fun _ _ _ _ _ _ us hl => match us, hl with | [_, _], _ => rfl
  have F22 := fun_mk (st := s_law_image) l22 c22 k22
  have b22 := F22.binds (ps := ["vector", "news"]) fun _ _ _ _ _ _ us hl => match us, hl with | [_, _], _ => rfl
  have F23 := fun_mk (st := s_law_members) l23 c23 k23
  have b23 := F23.binds (ps := ["draws", "size"]) fun _ _ _ _ _ _ us hl => match us, hl with | [_, _], _ => rfl
  have F24 := fun_mk (st := s_law_mixed) l24 c24 k24
  have b24 := F24.binds (ps := ["one", "other", "factors"]) fun _ _ _ _ _ _ us hl => match us, hl with | [_, _, _], _ => rfl
  have F25 := fun_mk (st := s_law_is_plain_row) l25 c25 k25
  have b25 := F25.binds (ps := ["thing"]) fun _ _ _ _ _ _ us hl => match us, hl with | [_], _ => rfl
  have F26 := fun_mk (st := s_law) l26 c26 k26
  have b26 := F26.binds (ps := ["script"]) fun _ _ _ _ _ _ us hl => match us, hl with | [_], _ => rfl
  refine ⟨PySem.W.fnOf "law" "law" (defArgs s_law) (defBody s_law) (defScope s_law) .none kV26 dc26 pm26 an26 cd26 ct26, fun s v => .of_eq rfl, fun base KB GB => ?_⟩
  have M : GF mg := ⟨PySem.W.mg_none_of X G z0, PySem.W.mg_none_of X G z1, PySem.W.mg_none_of X G z2, PySem.W.mg_none_of X G z3, PySem.W.mg_none_of X G z4, PySem.W.mg_none_of X G z5, PySem.W.mg_none_of X G z6, PySem.W.mg_none_of X G z7, PySem.W.mg_none_of X G z8, PySem.W.mg_none_of X G z9, (let ⟨t, e⟩ := y0; ⟨t, PySem.W.mg_of X G e⟩)⟩
  have C_number_of : Callee P w K mg base "number_of" _ _ _ m_number_of := ⟨_, _, ok_number_of M F0, PySem.W.mg_of X G a0, F0.kp, b0⟩
  have C_weight_of : Callee P w K mg base "weight_of" _ _ _ m_weight_of := ⟨_, _, ok_weight_of M F1, PySem.W.mg_of X G a1, F1.kp, b1⟩
  have C_powers_of_three : Callee P w K mg base "powers_of_three" _ _ _ m_powers_of_three := ⟨_, _, ok_powers_of_three M F2, PySem.W.mg_of X G a2, F2.kp, b2⟩
  have C_weight_terms : Callee P w K mg base "weight_terms" _ _ _ m_weight_terms := ⟨_, _, ok_weight_terms M C_weight_of F3, PySem.W.mg_of X G a3, F3.kp, b3⟩
  have C_number_terms : Callee P w K mg base "number_terms" _ _ _ m_number_terms := ⟨_, _, ok_number_terms M C_number_of C_weight_of F4, PySem.W.mg_of X G a4, F4.kp, b4⟩
  have C_step_terms : Callee P w K mg base "step_terms" _ _ _ m_step_terms := ⟨_, _, ok_step_terms M C_number_terms C_powers_of_three C_weight_terms F5, PySem.W.mg_of X G a5, F5.kp, b5⟩
  have C_image : Callee P w K mg base "image" _ _ _ m_image := ⟨_, _, ok_image M F6, PySem.W.mg_of X G a6, F6.kp, b6⟩
  have C_step_vector : Callee P w K mg base "step_vector" _ _ _ m_step_vector := ⟨_, _, ok_step_vector M C_image C_step_terms F7, PySem.W.mg_of X G a7, F7.kp, b7⟩
  have C_end_number : Callee P w K mg base "end_number" _ _ _ m_end_number := ⟨_, _, ok_end_number M C_number_terms C_powers_of_three F8, PySem.W.mg_of X G a8, F8.kp, b8⟩
  have C_law_mix : Callee P w K mg base "_law_mix" _ _ _ m_law_mix := ⟨_, _, ok_law_mix M F9, PySem.W.mg_of X G a9, F9.kp, b9⟩
  have C_law_stream : Callee P w K mg base "_law_stream" _ _ _ m_law_stream := ⟨_, _, ok_law_stream M C_law_mix F10, PySem.W.mg_of X G a10, F10.kp, b10⟩
  have C_law_pick : Callee P w K mg base "_law_pick" _ _ _ m_law_pick := ⟨_, _, ok_law_pick M C_law_mix F11, PySem.W.mg_of X G a11, F11.kp, b11⟩
  have C_law_string : Callee P w K mg base "_law_string" _ _ _ m_law_string := ⟨_, _, ok_law_string M C_law_pick F12, PySem.W.mg_of X G a12, F12.kp, b12⟩
  have C_law_row : Callee P w K mg base "_law_row" _ _ _ m_law_row := ⟨_, _, ok_law_row M C_law_string F13, PySem.W.mg_of X G a13, F13.kp, b13⟩
  have C_law_news : Callee P w K mg base "_law_news" _ _ _ m_law_news := ⟨_, _, ok_law_news M C_law_pick C_law_row F14, PySem.W.mg_of X G a14, F14.kp, b14⟩
  have C_law_end : Callee P w K mg base "_law_end" _ _ _ m_law_end := ⟨_, _, ok_law_end M C_law_pick C_law_row F15, PySem.W.mg_of X G a15, F15.kp, b15⟩
  have C_law_number : Callee P w K mg base "_law_number" _ _ _ m_law_number := ⟨_, _, ok_law_number M F16, PySem.W.mg_of X G a16, F16.kp, b16⟩
  have C_law_weight : Callee P w K mg base "_law_weight" _ _ _ m_law_weight := ⟨_, _, ok_law_weight M F17, PySem.W.mg_of X G a17, F17.kp, b17⟩
  have C_law_power : Callee P w K mg base "_law_power" _ _ _ m_law_power := ⟨_, _, ok_law_power M F18, PySem.W.mg_of X G a18, F18.kp, b18⟩
  have C_law_takes : Callee P w K mg base "_law_takes" _ _ _ m_law_takes := ⟨_, _, ok_law_takes M C_law_number C_law_power C_law_weight F19, PySem.W.mg_of X G a19, F19.kp, b19⟩
  have C_law_times : Callee P w K mg base "_law_times" _ _ _ m_law_times := ⟨_, _, ok_law_times M F20, PySem.W.mg_of X G a20, F20.kp, b20⟩
  have C_law_sum : Callee P w K mg base "_law_sum" _ _ _ m_law_sum := ⟨_, _, ok_law_sum M F21, PySem.W.mg_of X G a21, F21.kp, b21⟩
  have C_law_image : Callee P w K mg base "_law_image" _ _ _ m_law_image := ⟨_, _, ok_law_image M C_law_sum C_law_takes C_law_times F22, PySem.W.mg_of X G a22, F22.kp, b22⟩
  have C_law_members : Callee P w K mg base "_law_members" _ _ _ m_law_members := ⟨_, _, ok_law_members M C_law_pick F23, PySem.W.mg_of X G a23, F23.kp, b23⟩
  have C_law_mixed : Callee P w K mg base "_law_mixed" _ _ _ m_law_mixed := ⟨_, _, ok_law_mixed M F24, PySem.W.mg_of X G a24, F24.kp, b24⟩
  have R_law_is_plain_row := circle_law_is_plain_row (P := P) (w := w) (base := base) M F25 (PySem.W.mg_of X G a25) b25 20
  have C_law_is_plain_row : Callee P w K mg base "_law_is_plain_row" _ _ _ m_law_is_plain_row := ⟨_, _, R_law_is_plain_row, PySem.W.mg_of X G a25, F25.kp, b25⟩
  exact ok_law M C_law_end C_law_image C_law_is_plain_row C_law_members C_law_mixed C_law_news C_law_pick C_law_power C_law_stream C_law_sum C_law_takes C_end_number C_step_vector F26
end TS
set_option Elab.async false
set_option linter.all false
set_option maxRecDepth 100000
namespace TS
open PySem PySem.Spec PyProof.Rows L2
local macro_rules | `(tactic| walk_at "w") => `(tactic| simp only [w_body, env0, w_seq, w_asg, w_sret, w_retN, w_drop, w_sIf, w_for, w_aug, w_nx, w_brk, w_cnt, w_gN, w_gTup, w_gsCons, w_gsNil, w_gSub, w_var, w_c, w_op, w_un, w_call, w_eMt, w_tup, w_lst, w_aNil, w_aCons, w_asB, w_asT, w_bAnd, w_bOr, w_bNot, w_eAnd, w_eOr, w_eNot, w_eIf, w_eSl, w_pNo, w_pSome, w_chain,
  w_add, w_addT, w_sub, w_mul, w_mod, w_fdiv, w_pow, w_lt, w_le, w_gt, w_ge, w_int, w_min, w_max, w_lenT, w_lenF, w_truB, w_isB, w_notB, w_tyS, w_slT, w_tupT, w_eqI, w_neI, w_eqBl, w_neBl, w_find, w_rg1, w_rg2, w_anyI, w_ixT, w_ixF, w_ixS, w_lenS, w_slS, w_addS, w_disp, w_kNil, w_kCons, w_yes, w_zip, w_ltS1, w_ninS, w_notN, w_isN, w_neg,
  List.map_cons, List.map_nil, List.length_cons, List.length_nil, List.replicate, List.cons_append, List.nil_append, List.getElem?_cons_zero, List.getElem?_cons_succ, List.set_cons_zero, List.set_cons_succ, Nat.reduceAdd, Nat.reduceSub, Nat.sub_self, Nat.sub_zero,
  Option.some.injEq, exists_eq_left', D.bl.injEq, D.int.injEq, rgOf_1, rgOf2_2, and_true, true_and])
def lowI (cell k : Int) : Int := (cell * 48271 + k * 69621 + 11) % 2147483647
def mixI (cell k : Int) : Int := (lowI cell k * lowI cell k + cell * 40692 + k * 7 + 3) % 1000003 % 1000
theorem mix_w (cell k : Int) {S : Store} {Q : D → Store → Prop} : wp (m_law_mix [.int cell, .int k]) S Q ↔ Q (.int (mixI cell k)) S := by
  have s1 : smallI 48271 = true := by decide
  have s2 : smallI 69621 = true := by decide
  have s3 : smallI 40692 = true := by decide
  have s4 : smallI 7 = true := by decide
  have s5 : smallI ((cell * 48271 + k * 69621 + 11) % 2147483647) = true := small_mod (by decide) (by decide)
  unfold m_law_mix f_law_mix
  walk_at "w"
  simp only [s1, s2, s3, s4, s5, or_true, true_or, true_and, show (0 : Int) < 2147483647 from by decide, show (0 : Int) < 1000003 from by decide, show (0 : Int) < 1000 from by decide]
  rfl
theorem pick_ok {r q : Nat} {S : Store} {many : Int} {Q : D → Store → Prop} (h : Dr r q S) (hm : 0 < many) (k : ∀ n S', 0 ≤ n → n < many → Dr r q S' → Kp r S S' → S'.length = S.length → Q (.int n) S') : wp (m_law_pick [.ref r, .int many]) S Q := by
  obtain ⟨row, a, seed, h1, h2, h3⟩ := h.ex
  have hl := h.lt
  unfold m_law_pick f_law_pick
  have hz : (3 : Nat) < sizeLine := by decide
  walk_at "w"
  rw [w_ixD (k := .inr "at") (d := .int a) h1 rfl (drw_at q a seed)]
  walk_at "w"
  rw [w_setD (k := .inr "at") h1 rfl hz, drw_put]
  have g1 : (S.set r (.dK (drw q ((a : Int) + 1) seed)))[r]? = some (.dK (drw q ((a : Int) + 1) seed)) := List.getElem?_set_self hl.1
  have g2 : (S.set r (.dK (drw q ((a : Int) + 1) seed)))[q]? = some (.lst (row.map .int)) := by rw [List.getElem?_set_ne h.ne]; exact h2
  rw [w_ixD (k := .inr "seed") (d := .int seed) g1 rfl (drw_seed _ _ _), mix_w, w_ixD (k := .inr "row") (d := .ref q) g1 rfl (drw_row _ _ _), w_lenL g2]
  walk_at "w"
  have D' : Dr r q (S.set r (.dK (drw q ((a : Int) + 1) seed))) := ⟨h.ne, row, a + 1, seed, by rw [g1]; rfl, g2, h3⟩
  have K' : Kp r S (S.set r (.dK (drw q ((a : Int) + 1) seed))) := ⟨by rw [List.length_set]; exact Nat.le_refl _, fun i _ hr => List.getElem?_set_ne (Ne.symm hr)⟩
  have fin : ∀ x : Int, 0 < many ∧ Q (.int (x % many)) (S.set r (.dK (drw q ((a : Int) + 1) seed))) := fun x => ⟨hm, k _ _ (Int.emod_nonneg x (Int.ne_of_gt hm)) (Int.emod_lt_of_pos x hm) D' K' (by rw [List.length_set])⟩
  split
  · rename_i c
    have c' : a < row.length := by
      have := of_decide_eq_true c
      rw [List.length_map] at this
      omega
    rw [w_ixD (k := .inr "row") (d := .ref q) g1 rfl (drw_row _ _ _), w_ixL g2]
    refine ⟨.int row[a], ints_get c', ?_⟩
    walk_at "w"
    exact fin _
  · exact fin _
theorem stream_ok {S : Store} {ns : List Int} {most : Int} {Q : D → Store → Prop} (hn : ns.length ≤ 63) (k : ∀ (row : List Int) (seed : Int), row.length ≤ 3780 → Q (.ref (S.length + 1)) (S ++ [.lst (row.map .int), .dK (drw S.length 0 seed)])) : wp (m_law_stream [.fl (ns.map .int), .int most]) S Q := by
  unfold m_law_stream f_law_stream
  have hs : (0 : Nat) ≤ sizeLine := Nat.zero_le _
  walk_at "w"
  refine ⟨hs, ⟨by split <;> omega, by rw [List.length_map]; split <;> omega⟩, ?_⟩
  have hm : (if (63 : Int) < ((ns.map D.int).length : Nat) then (63 : Int) else ((ns.map D.int).length : Nat)).toNat = ns.length := by
    rw [List.length_map]
    split <;> omega
  rw [hm]
  have gl : ∀ l, (S ++ [MO.lst l])[S.length]? = some (.lst l) := fun l => by rw [List.getElem?_append_right (Nat.le_refl _), Nat.sub_self]; rfl
  have sl : ∀ l l', (S ++ [MO.lst l]).set S.length (.lst l') = S ++ [.lst l'] := fun l l' => by rw [List.set_append_right _ _ (Nat.le_refl _), Nat.sub_self]; rfl
  refine wp_loop (fun i env S1 => ∃ (a b c : Option D) (row : List Int), env = [some (.fl (ns.map .int)), some (.int most), some (.ref S.length), a, b, c] ∧ S1 = S ++ [.lst (row.map .int)] ∧ row.length ≤ 60 * i) (fun _ _ _ _ => gdOk_nil _) ?_ ?_ ⟨none, none, none, [], rfl, rfl, Nat.zero_le _⟩
  · rintro i x env S1 hx ⟨a, b, c, row, rfl, rfl, hr⟩
    obtain ⟨hi, rfl⟩ := rng_get hx
    rw [Int.zero_add]
    walk_at "w"
    refine ⟨_, ints_get hi, ⟨by decide, by decide, by decide⟩, ?_⟩
    walk_at "w"
    split
    · refine ⟨by decide, wp_loop (fun j env S1 => ∃ (b : Int) (c : Option D) (row' : List Int), env = [some (.fl (ns.map .int)), some (.int most), some (.ref S.length), some (.int i), some (.int b), c] ∧ S1 = S ++ [.lst (row'.map .int)] ∧ row'.length ≤ 60 * i + j) (fun _ _ _ _ => gdOk_nil _) ?_ ?_ ⟨_, _, row, rfl, rfl, by omega⟩⟩
      · rintro j x env S1 hx ⟨b, c, row', rfl, rfl, hr'⟩
        obtain ⟨hj, rfl⟩ := rng_get hx
        have hj' : j < 60 := hj
        walk_at "w"
        have stay : ∃ (b' : Int) (c : Option D) (row'' : List Int), [some (D.fl (ns.map .int)), some (.int most), some (.ref S.length), some (.int (i : Int)), some (.int b), some (.int (0 + (j : Int)))] = [some (D.fl (ns.map .int)), some (.int most), some (.ref S.length), some (.int (i : Int)), some (.int b'), c] ∧ S ++ [MO.lst (row'.map .int)] = S ++ [.lst (row''.map .int)] ∧ row''.length ≤ 60 * i + (j + 1) := ⟨b, _, row', rfl, rfl, by omega⟩
        split
        · rw [w_lenL (gl _)]
          walk_at "w"
          split
          · rw [w_tyL (gl _)]
            refine ⟨by decide, ?_⟩
            rw [w_app (gl _) (sz_lt (by rw [List.length_map]; omega)), sl]
            refine ⟨by decide, b / 1000, _, row' ++ [b % 1000], rfl, by rw [List.map_append]; rfl, by rw [List.length_append, List.length_singleton]; omega⟩
          · exact stay
        · rw [if_neg Bool.false_ne_true]
          exact stay
      · rintro env S1 ⟨b, c, row', rfl, rfl, hr'⟩
        exact ⟨_, _, _, row', rfl, rfl, by have : (rng 0 (60 : Int).toNat).length = 60 := rfl; omega⟩
    · refine ⟨by decide, wp_loop (fun j env S1 => ∃ (c : Option D) (row' : List Int), env = [some (.fl (ns.map .int)), some (.int most), some (.ref S.length), some (.int i), some (.int ns[i]), c] ∧ S1 = S ++ [.lst (row'.map .int)] ∧ row'.length ≤ 60 * i + j) (fun _ _ _ _ => gdOk_nil _) ?_ ?_ ⟨_, row, rfl, rfl, by omega⟩⟩
      · rintro j x env S1 hx ⟨c, row', rfl, rfl, hr'⟩
        obtain ⟨hj, rfl⟩ := rng_get hx
        have hj' : j < 3 := hj
        walk_at "w"
        rw [w_lenL (gl _)]
        walk_at "w"
        split
        · rw [w_tyL (gl _)]
          refine ⟨.inl (by decide), ?_⟩
          rw [mix_w, w_app (gl _) (sz_lt (by rw [List.length_map]; omega)), sl]
          exact ⟨_, row' ++ [_], rfl, by rw [List.map_append]; rfl, by rw [List.length_append, List.length_singleton]; omega⟩
        · exact ⟨_, row', rfl, rfl, by omega⟩
      · rintro env S1 ⟨c, row', rfl, rfl, hr'⟩
        exact ⟨_, _, _, row', rfl, rfl, by have : (rng 0 (3 : Int).toNat).length = 3 := rfl; omega⟩
  · rintro env S1 ⟨a, b, c, row, rfl, rfl, hr⟩
    rw [rng_length] at hr
    have g2 : ∀ l, (S ++ [MO.lst l] ++ [MO.dK []])[S.length]? = some (.lst l) := fun l => by rw [List.append_assoc, List.getElem?_append_right (Nat.le_refl _), Nat.sub_self]; rfl
    have g3 : ∀ l, (S ++ [MO.lst l] ++ [MO.dK []])[(S ++ [MO.lst l]).length]? = some (.dK []) := fun l => by rw [List.getElem?_append_right (Nat.le_refl _), Nat.sub_self]; rfl
    walk_at "w"
    rw [w_sumL (g2 _), w_lenL (g2 _)]
    walk_at "w"
    refine ⟨_, rfl, _, rfl, _, rfl, ?_⟩
    rw [w_fill (g3 _) (by show 3 ≤ 15; decide)]
    have e := drw_made S.length 0 (row.sum + ((row.map D.int).length : Nat))
    have e2 : (S ++ [MO.lst (row.map .int)] ++ [MO.dK []]).set (S ++ [MO.lst (row.map .int)]).length (.dK (drw S.length 0 (row.sum + ((row.map D.int).length : Nat)))) = S ++ [.lst (row.map .int), .dK (drw S.length 0 (row.sum + ((row.map D.int).length : Nat)))] := by
      rw [List.set_append_right _ _ (Nat.le_refl _), Nat.sub_self, List.append_assoc]
      rfl
    have q := k row (row.sum + ((row.map D.int).length : Nat)) (by omega)
    rw [← e2] at q
    rw [List.length_append, List.length_singleton] at q ⊢
    rw [← e] at q
    exact q
end TS
set_option Elab.async false
set_option linter.all false
set_option maxRecDepth 100000
set_option maxHeartbeats 2000000
namespace TS
open PySem PySem.Spec PyProof.Rows L2
local macro_rules | `(tactic| walk_at "w") => `(tactic| simp only [w_mulX, w_mulXS, x_isiSS, x_isiIS, x_isiII, x_isiIB, x_isiTT, x_isiNS, x_isTN, x_isSN, x_isIN, x_notTN, x_notSN, x_notIN, x_revX, x_revV, x_revVT, w_ord, w_asBl, w_body, env0, w_seq, w_asg, w_sret, w_retN, w_drop, w_sIf, w_for, w_aug, w_nx, w_brk, w_cnt, w_gN, w_gTup, w_gsCons, w_gsNil, w_gSub, w_var, w_c, w_op, w_un, w_call, w_eMt, w_tup, w_lst, w_aNil, w_aCons, w_asB, w_asT, w_bAnd, w_bOr, w_bNot, w_eAnd, w_eOr, w_eNot, w_eIf, w_eSl, w_pNo, w_pSome, w_chain,
  w_add, w_addT, w_sub, w_mul, w_mod, w_fdiv, w_pow, w_lt, w_le, w_gt, w_ge, w_int, w_min, w_max, w_lenT, w_lenF, w_truB, w_isB, w_notB, w_tyS, w_slT, w_tupT, w_eqI, w_neI, w_eqBl, w_neBl, w_find, w_rg1, w_rg2, w_anyI, w_ixT, w_ixF, w_ixS, w_lenS, w_slS, w_addS, w_disp, w_kNil, w_kCons, w_yes, w_zip, w_ltS1, w_ninS, x_enum, x_geS1, w_par2, w_eLenSet, w_intB, w_notN, w_isN, w_neg,
  List.map_cons, List.map_nil, List.length_cons, List.length_nil, List.replicate, List.cons_append, List.nil_append, List.getElem?_cons_zero, List.getElem?_cons_succ, List.set_cons_zero, List.set_cons_succ, Nat.reduceAdd, Nat.reduceSub, Nat.sub_self, Nat.sub_zero,
  Option.some.injEq, exists_eq_left', D.bl.injEq, D.int.injEq, rgOf_1, rgOf2_2, and_true, true_and])
local macro_rules | `(tactic| walk_at "v") => `(tactic| simp only [w_mulX, w_mulXS, x_isiSS, x_isiIS, x_isiII, x_isiIB, x_isiTT, x_isiNS, x_isTN, x_isSN, x_isIN, x_notTN, x_notSN, x_notIN, x_revX, x_revV, x_revVT, w_ord, w_asBl, env0, w_asg, w_sret, w_retN, w_drop, w_for, w_aug, w_nx, w_brk, w_cnt, w_gN, w_gTup, w_gsCons, w_gsNil, w_gSub, w_var, w_c, w_op, w_un, w_call, w_eMt, w_tup, w_lst, w_aNil, w_aCons, w_asB, w_asT, w_bAnd, w_bOr, w_bNot, w_eAnd, w_eOr, w_eNot, w_eIf, w_eSl, w_pNo, w_pSome, w_chain,
  w_add, w_addT, w_sub, w_mul, w_mod, w_fdiv, w_pow, w_lt, w_le, w_gt, w_ge, w_int, w_min, w_max, w_lenT, w_lenF, w_truB, w_isB, w_notB, w_tyS, w_slT, w_tupT, w_eqI, w_neI, w_eqBl, w_neBl, w_find, w_rg1, w_rg2, w_anyI, w_ixT, w_ixF, w_ixS, w_lenS, w_slS, w_addS, w_disp, w_kNil, w_kCons, w_yes, w_zip, w_ltS1, w_ninS, x_enum, x_geS1, w_par2, w_eLenSet, w_intB, w_notN, w_isN, w_neg,
  List.map_cons, List.map_nil, List.length_cons, List.length_nil, List.replicate, List.cons_append, List.nil_append, List.getElem?_cons_zero, List.getElem?_cons_succ, List.set_cons_zero, List.set_cons_succ, Nat.reduceAdd, Nat.reduceSub, Nat.sub_self, Nat.sub_zero,
  Option.some.injEq, exists_eq_left', D.bl.injEq, D.int.injEq, rgOf_1, rgOf2_2, and_true, true_and])
def isStr (s : Str) : D → Bool
  | .str z => z == s
  | _ => false
theorem gd_grow {S S1 : Store} {r : Nat} {xs : List D} (h : S[r]? = some (.lst xs)) (g : Grow S S1) : gdOk S1 [(r, xs)] := fun p hp => by
  rw [List.mem_singleton.mp hp]
  exact g.get h
theorem srcOf_ref {S : Store} {r : Nat} {xs : List D} (h : S[r]? = some (.lst xs)) : srcOf S (.ref r) = some (xs, [(r, xs)]) := by
  unfold srcOf
  simp only [h]
theorem any_ref {S : Store} {env : SEnv} {i r : Nat} {xs : List D} (he : env[i]? = some (some (.ref r))) (h : S[r]? = some (.lst xs)) : iAnyM (eVar i) env S = some ((xs, [(r, xs)]), S) := by
  refine (bnd_eq (show eVar i env S = some (.ref r, S) by unfold eVar; rw [he])).trans ?_
  show (match srcOf S (.ref r) with | some p => some (p, S) | none => none) = _
  rw [srcOf_ref h]
def srcT : D → List D
  | .tup xs => xs
  | _ => []
def intsD : List D → List Int
  | [] => []
  | .int i :: r => i :: intsD r
  | _ :: r => intsD r
def usedOf (rs : List D) : List Int := rs.flatMap fun x => intsD (srcT x)
/-- a comprehension that draws, over what may be a list of the store -/
theorem w_lcDg {fi : SEnv → M (List D × Gd)} {tgt : D → SEnv → M SEnv} {te : SEnv → M D} {vs : List Nat} {env : SEnv} {S : Store} {Q : D → Store → Prop} {xs : List D} {g : Gd} {r q : Nat} (P : Nat → D → Prop)
    (h0 : fi env S = some ((xs, g), S)) (hg : ∀ S', Kp r S S' → gdOk S' g) (hD : Dr r q S) (hz : xs.length < sizeLine)
    (step : ∀ (i : Nat) (x : D) (S1 : Store), xs[i]? = some x → Dr r q S1 → Kp r S S1 → wp (tgt x (wipeE env vs)) S1 fun env1 S2 => wp (te env1) S2 fun d S3 => P i d ∧ Dr r q S3 ∧ Kp r S1 S3)
    (k : ∀ (ds : List D) S', ds.length = xs.length → (∀ (i : Nat) (d : D), ds[i]? = some d → P i d) → Dr r q S' → Kp r S S' → S'[S.length]? = some (.lst ds) → Q (.ref S.length) S') : wp (eLc fi tgt bYes te vs env) S Q := by
  have hr : S.length ≠ r := Nat.ne_of_gt hD.lt.1
  have hq : S.length ≠ q := Nat.ne_of_gt hD.lt.2
  refine wp_lc (xs := xs) (g := g) (S1 := S) h0 (fun j acc S3 => acc.length = j ∧ (∀ (i : Nat) (d : D), acc[i]? = some d → P i d) ∧ S3[S.length]? = some (.lst acc) ∧ Dr r q S3 ∧ Kp r S S3)
    ⟨rfl, (fun i d h => by simp at h), get_new, hD.app, Kp.app⟩ (fun _ _ _ ⟨_, _, e, _⟩ => e) (fun _ _ S3 ⟨_, _, _, _, e⟩ => hg S3 e) (fun j acc S3 ⟨e, _⟩ => by rw [e]; exact Nat.le_refl _) hz ?_ ?_
  · rintro i x acc S3 hx ⟨rfl, hp, hk, hD3, hK3⟩
    refine (step acc.length x S3 hx hD3 hK3).mono fun env1 S4 h => ?_
    rw [w_yes, if_pos rfl]
    refine h.mono fun d S5 ⟨hd, hD5, hK5⟩ => ?_
    have e5 : S5[S.length]? = some (.lst acc) := by rw [hK5.get _ (lt_of_get hk) hr]; exact hk
    refine ⟨e5, by rw [List.length_append]; rfl, fun i d' h' => ?_, by rw [List.getElem?_set_self (lt_of_get e5)], hD5.set hr hq, (hK3.trans hK5).set (Nat.le_refl _)⟩
    by_cases c : i < acc.length
    · rw [List.getElem?_append_left c] at h'
      exact hp i d' h'
    · have hl := (List.getElem?_eq_some_iff.mp h').1
      rw [List.length_append, List.length_singleton] at hl
      have : i = acc.length := by omega
      subst this
      rw [List.getElem?_append_right (Nat.le_refl _), Nat.sub_self] at h'
      cases h'
      exact hd
  · rintro acc S3 ⟨e, hp, hk, hD3, hK3⟩
    exact k acc S3 e hp hD3 hK3 hk
/-- rows of boxes as they are drawn -/
structure Rows (L base : Nat) (as : List Nat) (cs : List (List Int)) (S : Store) : Prop where
  lst : S[L]? = some (.lst (as.map .ref))
  len : as.length = cs.length
  nd : as.Nodup
  ge : ∀ a ∈ as, base ≤ a ∧ a ≠ L
  at' : ∀ (i : Nat) (a : Nat) (c : List Int), as[i]? = some a → cs[i]? = some c → S[a]? = some (.lst (c.map .int))
theorem Rows.kp {L base r : Nat} {as : List Nat} {cs : List (List Int)} {S S' : Store} (h : Rows L base as cs S) (g : Kp r S S') (hL : L ≠ r) (hr : ∀ a ∈ as, a ≠ r) : Rows L base as cs S' :=
  ⟨by rw [g.get _ (lt_of_get h.lst) hL]; exact h.lst, h.len, h.nd, h.ge, fun i a c h1 h2 => by
    have e := h.at' i a c h1 h2
    rw [g.get _ (lt_of_get e) (hr a (List.mem_of_getElem? h1))]
    exact e⟩
theorem Rows.put {L base g a : Nat} {as : List Nat} {cs : List (List Int)} {S : Store} {c' : List Int} (h : Rows L base as cs S) (ha : as[g]? = some a) : Rows L base as (cs.set g c') (S.set a (.lst (c'.map .int))) := by
  have hm := List.mem_of_getElem? ha
  have hg : g < as.length := (List.getElem?_eq_some_iff.mp ha).1
  refine ⟨by rw [List.getElem?_set_ne (h.ge a hm).2]; exact h.lst, by rw [List.length_set]; exact h.len, h.nd, h.ge, fun i a2 c2 h1 h2 => ?_⟩
  by_cases e : i = g
  · subst e
    rw [ha] at h1
    cases h1
    rw [List.getElem?_set_self (by rw [← h.len]; exact hg)] at h2
    cases h2
    have hl : i < cs.length := by rw [← h.len]; exact hg
    exact List.getElem?_set_self (lt_of_get (h.at' i a _ ha (List.getElem?_eq_getElem hl)))
  · rw [List.getElem?_set_ne (Ne.symm e)] at h2
    have hne : a ≠ a2 := fun z => by
      subst z
      obtain ⟨l1, q1⟩ := List.getElem?_eq_some_iff.mp h1
      obtain ⟨l2, q2⟩ := List.getElem?_eq_some_iff.mp ha
      exact e (nodup_get h.nd l1 l2 (q1.trans q2.symm))
    rw [List.getElem?_set_ne hne]
    exact h.at' i a2 c2 h1 h2
theorem flat_set {v : Int} : ∀ {cs : List (List Int)} {g : Nat} {c c' : List Int}, cs[g]? = some c → c'.Perm (v :: c) → (cs.set g c').flatten.Perm (v :: cs.flatten)
  | [], _, _, _, h, _ => by simp at h
  | x :: r, 0, c, c', h, p => by
    rw [List.getElem?_cons_zero] at h
    cases h
    show (c' ++ r.flatten).Perm (v :: (x ++ r.flatten))
    exact p.append_right _
  | x :: r, g + 1, c, c', h, p => by
    rw [List.getElem?_cons_succ] at h
    show (x ++ (r.set g c').flatten).Perm (v :: (x ++ r.flatten))
    exact ((flat_set h p).append_left x).trans List.perm_middle
theorem nodup_bound : ∀ (n : Nat) {l : List Int}, l.Nodup → (∀ b ∈ l, 0 ≤ b ∧ b < n) → l.length ≤ n
  | 0, l, _, h => by
    cases l with
    | nil => exact Nat.le_refl _
    | cons x r =>
      have := h x (List.mem_cons_self ..)
      omega
  | n + 1, l, hn, h => by
    have h2 : (l.erase (n : Int)).length ≤ n := nodup_bound n (hn.erase _) fun b hb => by
      have h3 := (List.Nodup.mem_erase_iff hn).mp hb
      have h4 := h b h3.2
      have h5 := h3.1
      omega
    have h3 : l.length ≤ (l.erase (n : Int)).length + 1 := by
      rw [List.length_erase]
      split <;> omega
    omega
theorem part_bound {cs : List (List Int)} {n : Nat} {c : List Int} (hn : cs.flatten.Nodup) (hb : ∀ b ∈ cs.flatten, 0 ≤ b ∧ b < (n : Int)) (hc : c ∈ cs) : c.length ≤ n :=
  nodup_bound n ((List.pairwise_flatten.mp hn).1 c hc) fun b hb2 => hb b (List.mem_flatten.mpr ⟨c, hc, hb2⟩)

def textQ : D → Bool
  | .str z => z.cps.toList.all smallQ
  | _ => false
theorem emp_q (w : Str) : (w == Str.ofString "") = isStr "" (.str w) := rfl
theorem text_plain {w : Str} (h : textQ (.str w) = true) : Plain w := fun c hc => by
  have := List.all_eq_true.mp (show w.cps.toList.all smallQ = true from h) c hc
  unfold smallQ at this
  rw [Bool.and_eq_true, decide_eq_true_iff, decide_eq_true_iff] at this
  omega
theorem small_txt {w : Str} {z : Str} (h : ∀ c ∈ w.cps.toList, c ∈ z.cps.toList) (hz : z.cps.toList.all smallQ = true) : textQ (.str w) = true := List.all_eq_true.mpr fun c hc => List.all_eq_true.mp hz c (h c hc)
def numL5 : List D := [.int 0, .int 0, .int 1, .int 1, .int 2]
/-- a drawn string -/
theorem string_ok {r q : Nat} {S : Store} {z : Str} {Q : D → Store → Prop} (h : Dr r q S) (hz : z.cps.toList.all smallQ = true) (hzl : 1 ≤ z.length ∧ z.length ≤ 7) (k : ∀ w S', textQ (.str w) = true → w.length ≤ 2 → Dr r q S' → Kp r S S' → Q (.str w) S') : wp (m_law_string [.ref r, .str z]) S Q := by
  unfold m_law_string f_law_string
  have sz : z.length ≤ sizeLine := Nat.le_of_lt (sz_lt (by omega))
  have lzt := len_toList z
  walk_at "w"
  refine ⟨by decide, ?_⟩
  refine pick_ok h.app (by decide) fun n S1 n0 n1 hD1 hK1 hL1 => ?_
  have hr : S1[S.length]? = some (.lst numL5) := by
    rw [hK1.get S.length (by rw [List.length_append]; exact Nat.lt_succ_self _) (Nat.ne_of_gt h.lt.1)]
    exact get_new
  refine menu_at hr n0 (by exact n1) fun d hd => ?_
  obtain ⟨m, rfl, hm⟩ : ∃ m : Nat, d = .int (m : Nat) ∧ m ≤ 2 := by
    unfold numL5 at hd
    simp only [List.mem_cons, List.not_mem_nil, or_false] at hd
    rcases hd with rfl | rfl | rfl | rfl | rfl
    · exact ⟨0, rfl, by decide⟩
    · exact ⟨0, rfl, by decide⟩
    · exact ⟨1, rfl, by decide⟩
    · exact ⟨1, rfl, by decide⟩
    · exact ⟨2, rfl, by decide⟩
  refine w_lcD (r := r) (q := q) (xs := rng 0 m) (fun _ d => ∃ c, c ∈ z.cps.toList ∧ d = .str ⟨#[c]⟩) (rg1_eq rfl (by omega)) hD1 (by rw [rng_length]; exact sz_lt (by omega)) (fun j y S4 hy hD4 hK4 => ?_) fun es S4 he hp hD4 hK4 hk => ?_
  · simp only [wipeE]
    walk_at "w"
    refine ⟨sz, pick_ok hD4 (by omega) fun v S5 v0 v1 hD5 hK5 hL5 => ?_⟩
    rw [w_ixS]
    have hn : v.toNat < z.cps.toList.length := by omega
    refine ⟨sz, z.cps.toList[v.toNat], ?_, ⟨_, List.getElem_mem hn, rfl⟩, hD5, hK5⟩
    have e := atI_nat (List.getElem?_eq_getElem hn)
    rw [show ((v.toNat : Nat) : Int) = v by omega] at e
    exact e
  · rw [rng_length] at he
    refine x_joinCs (fun c => c ∈ z.cps.toList) hk (mem_idx hp) (by omega) fun w hw hc => ?_
    exact k w S4 (small_txt hc hz) (by omega) hD4 ((Kp.app.trans hK1).trans hK4)
/-- an item of a drawn row: a box, or a string -/
def ItP (n : Nat) (x : D) : Prop := (∃ b : Nat, x = .int (b : Nat) ∧ b < n) ∨ ∃ w, x = .str w ∧ isStr "" (.str w) = false ∧ textQ (.str w) = true ∧ w.length ≤ 2
def RowM (n : Nat) (is : List Int) (d : D) : Prop := ∃ xs, d = .tup xs ∧ (∀ x ∈ xs, ItP n x) ∧ intsD xs = is ∧ xs.length ≤ 2 * is.length + 1
theorem ints_snoc : ∀ (a : List D) (x : D), intsD (a ++ [x]) = intsD a ++ (match x with | .int i => [i] | _ => [])
  | [], x => by cases x <;> rfl
  | y :: r, x => by
    have ih := ints_snoc r x
    cases y with
    | int i => show i :: intsD (r ++ [x]) = i :: (intsD r ++ _); rw [ih]
    | _ => exact ih
theorem law_row_ok {r q b n : Nat} {is : List Int} {z : Str} {S : Store} {Q : D → Store → Prop} (h : Dr r q S) (hz : z.cps.toList.all smallQ = true) (hzl : 1 ≤ z.length ∧ z.length ≤ 7) (hb : S[b]? = some (.lst (is.map .int))) (hbr : b ≠ r) (hil : is.length ≤ 7) (hi : ∀ b ∈ is, 0 ≤ b ∧ b < n) (k : ∀ d S', RowM n is d → Dr r q S' → Kp r S S' → Q d S') : wp (m_law_row [.ref r, .ref b, .str z]) S Q := by
  unfold m_law_row f_law_row
  have e0 : PyData.strOk (Str.ofString "") = true := by decide +kernel
  have hSr : S.length ≠ r := Nat.ne_of_gt h.lt.1
  have hSq : S.length ≠ q := Nat.ne_of_gt h.lt.2
  have hbS := lt_of_get hb
  /- a string is put behind, if it is not empty -/
  have put : ∀ (R : SEnv → M (Fl × SEnv)) (QF : Fl × SEnv → Store → Prop) (a5 : Option D) (w : Str) (S1 : Store) (xs : List D) (js : List Int), textQ (.str w) = true → w.length ≤ 2 → Dr r q S1 → Kp r S S1 → S1[S.length]? = some (.lst xs) → (∀ x ∈ xs, ItP n x) → intsD xs = js → xs.length ≤ 100 →
      (∀ S2 xs', Dr r q S2 → Kp r S S2 → S2[S.length]? = some (.lst xs') → (∀ x ∈ xs', ItP n x) → intsD xs' = js → xs'.length ≤ xs.length + 1 → QF (.nx, [some (.ref r), some (.ref b), some (.str z), some (.ref S.length), some (.str w), a5]) S2) →
      wp (sIf (asB (eOp neD (eVar 4) (eC (.str "")))) (sDrop (eMt "list" mAppend (eVar 3) (aCons (eVar 4) (aNil)))) sNx [some (.ref r), some (.ref b), some (.str z), some (.ref S.length), some (.str w), a5]) S1 QF := by
    intro R QF a5 w S1 xs js w1 w2 hD1 hK1 hL1 hx hj hl kk
    walk_at "w"
    rw [w_neS (text_plain w1).ok e0, emp_q]
    refine ⟨_, rfl, ?_⟩
    cases qe : isStr "" (.str w) with
    | true =>
      rw [if_neg (by simp)]
      exact kk S1 xs hD1 hK1 hL1 hx hj (by omega)
    | false =>
      rw [if_pos (by simp), w_tyL hL1, w_app hL1 (sz_lt (by omega))]
      refine kk _ (xs ++ [.str w]) (hD1.set hSr hSq) (hK1.set (Nat.le_refl _)) (List.getElem?_set_self (lt_of_get hL1)) (fun x hx' => ?_) (by rw [ints_snoc, hj, List.append_nil]) (by rw [List.length_append]; exact Nat.le_refl _)
      rcases List.mem_append.mp hx' with hx' | hx'
      · exact hx x hx'
      · rw [List.mem_singleton.mp hx']
        exact .inr ⟨w, rfl, qe, w1, w2⟩
  rw [w_body]
  refine w_seqA ?_
  walk_at "v"
  refine ⟨by decide, ?_⟩
  refine w_seqA ?_
  walk_at "v"
  refine string_ok h.app hz hzl fun w S1 w1 w2 hD1 hK1 => ?_
  have hL1 : S1[S.length]? = some (.lst []) := by
    rw [hK1.get S.length (by rw [List.length_append]; exact Nat.lt_succ_self _) hSr]
    exact get_new
  refine w_seqA (put sNx _ _ w S1 [] [] w1 w2 hD1 (Kp.app.trans hK1) hL1 (fun _ h => nomatch h) rfl (by decide) fun S2 xs2 hD2 hK2 hL2 hx2 hj2 hl2 => ⟨rfl, ?_⟩)
  walk_at "w"
  have hb2 : S2[b]? = some (.lst (is.map .int)) := by rw [hK2.get _ hbS hbr]; exact hb
  refine ⟨_, srcOf_ref hb2, ?_⟩
  refine wp_loop (fun i env S3 => ∃ (xs : List D) (a4 a5 : Option D), env = [some (.ref r), some (.ref b), some (.str z), some (.ref S.length), a4, a5] ∧ Dr r q S3 ∧ Kp r S S3 ∧ S3[S.length]? = some (.lst xs) ∧ (∀ x ∈ xs, ItP n x) ∧ intsD xs = is.take i ∧ xs.length ≤ 2 * i + 1) (fun i _ S3 hI p hp => ?_) ?_ ?_ ⟨xs2, _, _, rfl, hD2, hK2, hL2, hx2, hj2, hl2⟩
  · obtain ⟨_, _, _, _, _, hK3, _⟩ := hI
    rw [List.mem_singleton.mp hp]
    show S3[b]? = _
    rw [hK3.get _ hbS hbr]
    exact hb
  · rintro i x env S3 hx ⟨xs, a4, a5, rfl, hD3, hK3, hL3, hx3, hj3, hl3⟩
    have hx' : (is.map D.int)[i]? = some x := hx
    rw [List.getElem?_map] at hx'
    obtain ⟨v, hv, rfl⟩ := Option.map_eq_some_iff.mp hx'
    have hil2 : i < is.length := (List.getElem?_eq_some_iff.mp hv).1
    have htk : is.take (i + 1) = is.take i ++ [v] := by rw [List.take_add_one, hv]; rfl
    have hvn := hi v (List.mem_of_getElem? hv)
    walk_at "v"
    refine w_seqA ?_
    walk_at "v"
    rw [w_tyL hL3, w_app hL3 (sz_lt (by omega))]
    refine w_seqA ?_
    walk_at "v"
    refine string_ok (hD3.set hSr hSq) hz hzl fun w' S4 y1 y2 hD4 hK4 => ?_
    have hK4' : Kp r S S4 := (hK3.set (Nat.le_refl _)).trans hK4
    have hL4 : S4[S.length]? = some (.lst (xs ++ [.int v])) := by
      rw [hK4.get _ (by rw [List.length_set]; exact lt_of_get hL3) hSr]
      exact List.getElem?_set_self (lt_of_get hL3)
    refine put sNx _ _ w' S4 (xs ++ [.int v]) (is.take (i + 1)) y1 y2 hD4 hK4' hL4 (fun x hx' => ?_) (by rw [ints_snoc, hj3, htk]) (by rw [List.length_append]; simp only [List.length_singleton]; omega) fun S5 xs5 hD5 hK5 hL5 hx5 hj5 hl5 => ?_
    · rcases List.mem_append.mp hx' with hx' | hx'
      · exact hx3 x hx'
      · rw [List.mem_singleton.mp hx']
        exact .inl ⟨v.toNat, by rw [Int.toNat_of_nonneg hvn.1], by omega⟩
    · rw [List.length_append] at hl5
      simp only [List.length_singleton] at hl5
      exact ⟨xs5, _, _, rfl, hD5, hK5, hL5, hx5, hj5, by omega⟩
  · rintro env S3 ⟨xs, a4, a5, rfl, hD3, hK3, hL3, hx3, hj3, hl3⟩
    have hj3 : intsD xs = is.take (is.map D.int).length := hj3
    have hl3 : xs.length ≤ 2 * (is.map D.int).length + 1 := hl3
    rw [List.length_map] at hj3 hl3
    rw [List.take_length] at hj3
    walk_at "w"
    rw [w_tupL hL3]
    exact k _ S3 ⟨xs, rfl, hx3, hj3, hl3⟩ hD3 hK3
end TS
set_option Elab.async false
set_option linter.all false
set_option maxRecDepth 100000
set_option maxHeartbeats 2000000
namespace TS
open PySem PySem.Spec PyProof.Rows L2
local macro_rules | `(tactic| walk_at "w") => `(tactic| simp only [w_mulX, w_mulXS, x_isiSS, x_isiIS, x_isiII, x_isiIB, x_isiTT, x_isiNS, x_isTN, x_isSN, x_isIN, x_notTN, x_notSN, x_notIN, x_revX, x_revV, x_revVT, w_ord, w_asBl, w_body, env0, w_seq, w_asg, w_sret, w_retN, w_drop, w_sIf, w_for, w_aug, w_nx, w_brk, w_cnt, w_gN, w_gTup, w_gsCons, w_gsNil, w_gSub, w_var, w_c, w_op, w_un, w_call, w_eMt, w_tup, w_lst, w_aNil, w_aCons, w_asB, w_asT, w_bAnd, w_bOr, w_bNot, w_eAnd, w_eOr, w_eNot, w_eIf, w_eSl, w_pNo, w_pSome, w_chain,
  w_add, w_addT, w_sub, w_mul, w_mod, w_fdiv, w_pow, w_lt, w_le, w_gt, w_ge, w_int, w_min, w_max, w_lenT, w_lenF, w_truB, w_isB, w_notB, w_tyS, w_slT, w_tupT, w_eqI, w_neI, w_eqBl, w_neBl, w_find, w_rg1, w_rg2, w_anyI, w_ixT, w_ixF, w_ixS, w_lenS, w_slS, w_addS, w_disp, w_kNil, w_kCons, w_yes, w_zip, w_ltS1, w_ninS, x_enum, x_geS1, w_par2, w_eLenSet, w_intB, w_notN, w_isN, w_neg,
  List.map_cons, List.map_nil, List.length_cons, List.length_nil, List.replicate, List.cons_append, List.nil_append, List.getElem?_cons_zero, List.getElem?_cons_succ, List.set_cons_zero, List.set_cons_succ, Nat.reduceAdd, Nat.reduceSub, Nat.sub_self, Nat.sub_zero,
  Option.some.injEq, exists_eq_left', D.bl.injEq, D.int.injEq, rgOf_1, rgOf2_2, and_true, true_and])
local macro_rules | `(tactic| walk_at "v") => `(tactic| simp only [w_mulX, w_mulXS, x_isiSS, x_isiIS, x_isiII, x_isiIB, x_isiTT, x_isiNS, x_isTN, x_isSN, x_isIN, x_notTN, x_notSN, x_notIN, x_revX, x_revV, x_revVT, w_ord, w_asBl, env0, w_asg, w_sret, w_retN, w_drop, w_for, w_aug, w_nx, w_brk, w_cnt, w_gN, w_gTup, w_gsCons, w_gsNil, w_gSub, w_var, w_c, w_op, w_un, w_call, w_eMt, w_tup, w_lst, w_aNil, w_aCons, w_asB, w_asT, w_bAnd, w_bOr, w_bNot, w_eAnd, w_eOr, w_eNot, w_eIf, w_eSl, w_pNo, w_pSome, w_chain,
  w_add, w_addT, w_sub, w_mul, w_mod, w_fdiv, w_pow, w_lt, w_le, w_gt, w_ge, w_int, w_min, w_max, w_lenT, w_lenF, w_truB, w_isB, w_notB, w_tyS, w_slT, w_tupT, w_eqI, w_neI, w_eqBl, w_neBl, w_find, w_rg1, w_rg2, w_anyI, w_ixT, w_ixF, w_ixS, w_lenS, w_slS, w_addS, w_disp, w_kNil, w_kCons, w_yes, w_zip, w_ltS1, w_ninS, x_enum, x_geS1, w_par2, w_eLenSet, w_intB, w_notN, w_isN, w_neg,
  List.map_cons, List.map_nil, List.length_cons, List.length_nil, List.replicate, List.cons_append, List.nil_append, List.getElem?_cons_zero, List.getElem?_cons_succ, List.set_cons_zero, List.set_cons_succ, Nat.reduceAdd, Nat.reduceSub, Nat.sub_self, Nat.sub_zero,
  Option.some.injEq, exists_eq_left', D.bl.injEq, D.int.injEq, rgOf_1, rgOf2_2, and_true, true_and])
def boxOf (many : Nat) (t : Bool) (k : Nat) : Int := if t = true then (many : Int) - 1 - (k : Nat) else (k : Nat)
def NewsM (many : Nat) (ds : List D) : Prop := ds.length = many ∧ (∀ d ∈ ds, ∃ is, RowM many is d) ∧ (usedOf ds).Nodup ∧ ∀ b ∈ usedOf ds, 0 ≤ b ∧ b < many
theorem law_news_ok {r q many : Nat} {z : Str} {S : Store} {Q : D → Store → Prop} (h : Dr r q S) (hz : z.cps.toList.all smallQ = true) (hzl : 1 ≤ z.length ∧ z.length ≤ 7) (hm : many ≤ 7) (k : ∀ (ds : List D) S', NewsM many ds → Dr r q S' → Kp r S S' → Q (.tup ds) S') : wp (m_law_news [.ref r, .int (many : Nat), .str z]) S Q := by
  unfold m_law_news f_law_news
  have hSr : S.length ≠ r := Nat.ne_of_gt h.lt.1
  have hSq : S.length ≠ q := Nat.ne_of_gt h.lt.2
  rw [w_body]
  refine w_seqA ?_
  walk_at "v"
  refine wp_lc (xs := rng 0 many) (g := []) (S1 := S) (rg1_eq rfl (by omega)) (fun j acc S3 => ∃ as : List Nat, acc = as.map .ref ∧ as.length = j ∧ as.Nodup ∧ (∀ a ∈ as, S.length < a ∧ a < S3.length ∧ S3[a]? = some (.lst [])) ∧ S3[S.length]? = some (.lst acc) ∧ Grow S S3)
    ⟨[], rfl, rfl, List.nodup_nil, (fun _ h => nomatch h), get_new, Grow.refl.app⟩ (fun _ _ _ ⟨_, _, _, _, _, e, _⟩ => e) (fun _ _ _ _ => gdOk_nil _) (fun j acc S3 ⟨as, e, l, _⟩ => by rw [e, List.length_map, l]; exact Nat.le_refl _) (by rw [rng_length]; exact sz_lt (by omega)) ?_ ?_
  · rintro j x acc S3 hx ⟨as, rfl, hl, hnd, has, hk, hG⟩
    simp only [wipeE]
    walk_at "w"
    have hlt := lt_of_get hk
    refine ⟨Nat.zero_le _, by rw [List.getElem?_append_left hlt]; exact hk, as ++ [S3.length], by rw [List.map_append]; rfl, by rw [List.length_append, hl]; rfl, ?_, fun a ha => ?_, ?_, (hG.app).set (Nat.le_refl _)⟩
    · refine List.nodup_append.mpr ⟨hnd, List.nodup_cons.mpr ⟨List.not_mem_nil, List.nodup_nil⟩, fun a ha b hb => ?_⟩
      rw [List.mem_singleton.mp hb]
      have := (has a ha).2.1
      omega
    · rw [List.length_set, List.length_append]
      rcases List.mem_append.mp ha with ha | ha
      · obtain ⟨h1, h2, h3⟩ := has a ha
        refine ⟨h1, by omega, ?_⟩
        rw [List.getElem?_set_ne (by omega), List.getElem?_append_left h2]
        exact h3
      · rw [List.mem_singleton.mp ha]
        refine ⟨by omega, by simp, ?_⟩
        rw [List.getElem?_set_ne (by omega)]
        exact get_new
    · rw [List.getElem?_set_self (by rw [List.length_append]; omega)]
  · rintro acc S3 ⟨as, rfl, hl, hnd, has, hk, hG⟩
    rw [rng_length] at hl
    have hR0 : Rows S.length (S.length + 1) as (List.replicate many []) S3 := ⟨hk, by rw [List.length_replicate]; exact hl, hnd, fun a ha => ⟨by have := (has a ha).1; omega, by have := (has a ha).1; omega⟩, fun i a c h1 h2 => by
      rw [List.getElem?_replicate] at h2
      split at h2
      · cases h2
        exact (has a (List.mem_of_getElem? h1)).2.2
      · cases h2⟩
    have har : ∀ a ∈ as, a ≠ r := fun a ha => by have := (has a ha).1; have := h.lt.1; omega
    have haq : ∀ a ∈ as, a ≠ q := fun a ha => by have := (has a ha).1; have := h.lt.2; omega
    refine w_cut (fun env S4 => ∃ t : Bool, env = [some (.ref r), some (.int (many : Nat)), some (.str z), some (.ref S.length), some (.bl t), none, none, none, none, none] ∧ Rows S.length (S.length + 1) as (List.replicate many []) S4 ∧ Dr r q S4 ∧ Kp r S S4) ?_ ?_
    · walk_at "w"
      refine pick_ok (hG.dr h) (by decide) fun n S4 n0 n1 hD4 hK4 hL4 => ?_
      walk_at "w"
      exact ⟨_, rfl, hR0.kp hK4 hSr har, hD4, hG.kp.trans hK4⟩
    rintro _ S4 ⟨t, rfl, hR4, hD4, hK4⟩
    refine w_cut (fun env S5 => ∃ (cs : List (List Int)) (a5 a6 a7 a8 : Option D), env = [some (.ref r), some (.int (many : Nat)), some (.str z), some (.ref S.length), some (.bl t), a5, a6, a7, a8, none] ∧ Rows S.length (S.length + 1) as cs S5 ∧ (∀ b ∈ cs.flatten, 0 ≤ b ∧ b < many) ∧ cs.flatten.Nodup ∧ Dr r q S5 ∧ Kp r S S5) ?_ ?_
    · walk_at "w"
      refine ⟨⟨by omega, by omega⟩, ?_⟩
      rw [show ((many : Nat) : Int).toNat = many from rfl]
      refine wp_loop (fun i env S5 => ∃ (cs : List (List Int)) (a5 a6 a7 a8 : Option D), env = [some (.ref r), some (.int (many : Nat)), some (.str z), some (.ref S.length), some (.bl t), a5, a6, a7, a8, none] ∧ Rows S.length (S.length + 1) as cs S5 ∧ (∀ b ∈ cs.flatten, ∃ j, j < i ∧ b = boxOf many t j) ∧ cs.flatten.Nodup ∧ Dr r q S5 ∧ Kp r S S5) (fun _ _ _ _ => gdOk_nil _) ?_ ?_ ⟨_, _, _, _, _, rfl, hR4, by simp, by simp, hD4, hK4⟩
      · rintro i x env S5 hx ⟨cs, a5, a6, a7, a8, rfl, hR, hb, hn, hD5, hK5⟩
        obtain ⟨hi, rfl⟩ := rng_get hx
        walk_at "v"
        refine w_cut (fun env S6 => S6 = S5 ∧ env = [some (.ref r), some (.int (many : Nat)), some (.str z), some (.ref S.length), some (.bl t), some (.int (0 + (i : Nat))), some (.int (boxOf many t i)), a7, a8, none]) ?_ ?_
        · walk_at "w"
          cases t with
          | true => unfold boxOf; simp [Int.zero_add]
          | false => unfold boxOf; simp [Int.zero_add]
        rintro _ S6 ⟨rfl, rfl⟩
        have hbx : 0 ≤ boxOf many t i ∧ boxOf many t i < many := by unfold boxOf; split <;> omega
        refine w_seqA ?_
        walk_at "v"
        refine pick_ok hD5 (by decide) fun v S7 v0 v1 hD7 hK7 hL7 => ?_
        have hR7 := hR.kp hK7 hSr har
        have hb' : ∀ b ∈ cs.flatten, ∃ j, j < i + 1 ∧ b = boxOf many t j := fun b h => by
          obtain ⟨j, h1, h2⟩ := hb b h
          exact ⟨j, by omega, h2⟩
        rw [w_sIf]
        walk_at "v"
        split
        · refine w_cut (fun env S8 => S8 = S7 ∧ ∃ g : Nat, g < many ∧ env = [some (.ref r), some (.int (many : Nat)), some (.str z), some (.ref S.length), some (.bl t), some (.int (0 + (i : Nat))), some (.int (boxOf many t i)), some (.int v), some (.int (g : Nat)), none]) ?_ ?_
          · walk_at "w"
            split
            · exact ⟨(boxOf many t i).toNat, by omega, by rw [Int.toNat_of_nonneg hbx.1]⟩
            · have h0 := Int.emod_nonneg (boxOf many t i + v) (show ((many : Nat) : Int) ≠ 0 by omega)
              have h1 := Int.emod_lt_of_pos (boxOf many t i + v) (show (0 : Int) < ((many : Nat) : Int) by omega)
              refine ⟨by omega, ((boxOf many t i + v) % ((many : Nat) : Int)).toNat, by omega, ?_⟩
              rw [Int.toNat_of_nonneg h0]
          rintro _ S8 ⟨rfl, g, hg, rfl⟩
          walk_at "w"
          rw [w_ixL hR7.lst]
          have hga : g < as.length := by omega
          refine ⟨.ref as[g], atI_nat (by rw [List.getElem?_map, List.getElem?_eq_getElem hga]; rfl), ?_⟩
          have hgc : g < cs.length := by rw [← hR.len]; exact hga
          have e7 := hR7.at' g as[g] cs[g] (List.getElem?_eq_getElem hga) (List.getElem?_eq_getElem hgc)
          have hcl : cs[g].length ≤ 7 := Nat.le_trans (part_bound (n := many) hn (fun b hb2 => by
            obtain ⟨j, h1, rfl⟩ := hb b hb2
            unfold boxOf
            split <;> omega) (List.getElem_mem hgc)) hm
          rw [w_tyL e7, w_app e7 (sz_lt (by rw [List.length_map]; omega))]
          have em : cs[g].map D.int ++ [D.int (boxOf many t i)] = (cs[g] ++ [boxOf many t i]).map .int := by rw [List.map_append]; rfl
          rw [em]
          have hp := flat_set (v := boxOf many t i) (c' := cs[g] ++ [boxOf many t i]) (List.getElem?_eq_getElem hgc) List.perm_append_comm
          refine ⟨cs.set g _, _, _, _, _, rfl, hR7.put (List.getElem?_eq_getElem hga), fun b hb2 => ?_, hp.nodup_iff.mpr ?_, hD7.set (har _ (List.getElem_mem hga)) (haq _ (List.getElem_mem hga)), ?_⟩
          · rcases List.mem_cons.mp (hp.mem_iff.mp hb2) with rfl | hb2
            · exact ⟨i, by omega, rfl⟩
            · exact hb' b hb2
          · refine List.nodup_cons.mpr ⟨fun hm => ?_, hn⟩
            obtain ⟨j, h1, h2⟩ := hb _ hm
            unfold boxOf at h2
            split at h2 <;> omega
          · exact (hK5.trans hK7).set (Nat.le_of_lt (has _ (List.getElem_mem hga)).1)
        · exact ⟨cs, _, _, _, _, rfl, hR7, hb', hn, hD7, hK5.trans hK7⟩
      · rintro env S5 ⟨cs, a5, a6, a7, a8, rfl, hR, hb, hn, hD5, hK5⟩
        rw [rng_length] at hb
        refine ⟨rfl, cs, _, _, _, _, rfl, hR, fun b hb2 => ?_, hn, hD5, hK5⟩
        obtain ⟨j, h1, rfl⟩ := hb b hb2
        unfold boxOf
        split <;> omega
    rintro _ S5 ⟨cs, a5, a6, a7, a8, rfl, hR, hb, hn, hD5, hK5⟩
    walk_at "w"
    refine w_lcDg (r := r) (q := q) (xs := as.map .ref) (g := [(S.length, as.map .ref)]) (fun i d => ∃ c, cs[i]? = some c ∧ RowM many c d) (any_ref rfl hR.lst) (fun S' g => fun p hp => by rw [List.mem_singleton.mp hp]; show S'[S.length]? = _; rw [g.get _ (lt_of_get hR.lst) hSr]; exact hR.lst) hD5 (sz_lt (by rw [List.length_map]; omega)) (fun j x S6 hx hD6 hK6 => ?_) fun ds S6 hdl hds hD6 hK6 hk6 => ?_
    · rw [List.getElem?_map] at hx
      obtain ⟨a, ha, rfl⟩ := Option.map_eq_some_iff.mp hx
      have hja : j < as.length := (List.getElem?_eq_some_iff.mp ha).1
      have hjc : j < cs.length := by rw [← hR.len]; exact hja
      have e6 := (hR.kp hK6 hSr har).at' j a cs[j] ha (List.getElem?_eq_getElem hjc)
      simp only [wipeE]
      walk_at "w"
      refine law_row_ok hD6 hz hzl e6 (har a (List.mem_of_getElem? ha)) ?_ (fun b hb2 => hb b (List.mem_flatten.mpr ⟨_, List.getElem_mem hjc, hb2⟩)) fun d S7 hd hD7 hK7 => ⟨⟨_, List.getElem?_eq_getElem hjc, hd⟩, hD7, hK7⟩
      exact Nat.le_trans (part_bound (n := many) hn hb (List.getElem_mem hjc)) hm
    · rw [List.length_map, hl] at hdl
      rw [w_tupL hk6]
      have hcl : cs.length = many := by rw [← hR.len]; exact hl
      have hused : usedOf ds = cs.flatten := by
        have e1 : ds.map (fun x => intsD (srcT x)) = cs := by
          refine List.ext_getElem? fun i => ?_
          rw [List.getElem?_map]
          by_cases c : i < ds.length
          · obtain ⟨c2, h1, xs, rfl2, _, h3, _⟩ := hds i _ (List.getElem?_eq_getElem c)
            rw [List.getElem?_eq_getElem c, h1, rfl2]
            show some (intsD xs) = _
            rw [h3]
          · rw [List.getElem?_eq_none (by omega), List.getElem?_eq_none (by omega)]
            rfl
        unfold usedOf
        rw [List.flatMap_def, e1]
      refine k ds S6 ⟨hdl, mem_idx fun i d hd => ?_, by rw [hused]; exact hn, by rw [hused]; exact hb⟩ hD6 (hK5.trans hK6)
      obtain ⟨c, _, h2⟩ := hds i d hd
      exact ⟨c, h2⟩
/-- boxes drawn for an end -/
theorem law_end_ok {r q many : Nat} {z : Str} {S : Store} {stops : Int} {Q : D → Store → Prop} (h : Dr r q S) (hz : z.cps.toList.all smallQ = true) (hzl : 1 ≤ z.length ∧ z.length ≤ 7) (hm : many ≤ 7) (k : ∀ (d : D) S', ((d = .non ∧ 0 < stops) ∨ ∃ is, RowM many is d ∧ is.Nodup ∧ ∀ b ∈ is, 0 ≤ b ∧ b < many) → Dr r q S' → Kp r S S' → Q d S') : wp (m_law_end [.ref r, .int (many : Nat), .str z, .int stops]) S Q := by
  unfold m_law_end f_law_end
  rw [w_body, w_seq, w_sIf]
  walk_at "v"
  refine pick_ok h (by decide) fun n S1 n0 n1 hD1 hK1 hL1 => ?_
  walk_at "v"
  split
  · rename_i c
    exact k _ S1 (.inl ⟨rfl, by have := of_decide_eq_true c; omega⟩) hD1 hK1
  · have hr1 : S1.length ≠ r := Nat.ne_of_gt hD1.lt.1
    have hq1 : S1.length ≠ q := Nat.ne_of_gt hD1.lt.2
    refine w_cut (fun env S2 => ∃ (is : List Int) (a5 : Option D), env = [some (.ref r), some (.int (many : Nat)), some (.str z), some (.int stops), some (.ref S1.length), a5] ∧ is.length ≤ many ∧ is.Nodup ∧ (∀ b ∈ is, 0 ≤ b ∧ b < many) ∧ S2[S1.length]? = some (.lst (is.map .int)) ∧ Dr r q S2 ∧ Kp r S S2) ?_ ?_
    · walk_at "w"
      refine wp_lc (xs := rng 0 many) (g := []) (S1 := S1) (rg1_eq rfl (by omega)) (fun j acc S3 => ∃ is : List Int, acc = is.map .int ∧ is.length ≤ j ∧ is.Nodup ∧ (∀ g ∈ is, 0 ≤ g ∧ g < j) ∧ S3[S1.length]? = some (.lst acc) ∧ Dr r q S3 ∧ Kp r S1 S3)
        ⟨[], rfl, Nat.le_refl _, List.nodup_nil, (fun _ h => nomatch h), get_new, hD1.app, Kp.app⟩ (fun _ _ _ ⟨_, _, _, _, _, e, _⟩ => e) (fun _ _ _ _ => gdOk_nil _) (fun j acc S3 ⟨is, e, l, _⟩ => by rw [e, List.length_map]; exact l) (by rw [rng_length]; exact sz_lt (by omega)) ?_ ?_
      · rintro j x acc S3 hx ⟨is, rfl, hl, hn, hi, hk, hD3, hK3⟩
        obtain ⟨hj, rfl⟩ := rng_get hx
        simp only [wipeE]
        walk_at "w"
        refine pick_ok hD3 (by decide) fun v S4 v0 v1 hD4 hK4 hL4 => ?_
        walk_at "w"
        have hk4 : S4[S1.length]? = some (.lst (is.map .int)) := by rw [hK4.get _ (lt_of_get hk) hr1]; exact hk
        have hi' : ∀ g ∈ is, 0 ≤ g ∧ g < ((j + 1 : Nat) : Int) := fun g hg => by have := hi g hg; omega
        split
        · refine ⟨hk4, is ++ [((0 : Int) + (j : Nat))], by rw [List.map_append]; rfl, by rw [List.length_append]; simp only [List.length_singleton]; omega, ?_, fun g hg => ?_, by rw [List.getElem?_set_self (lt_of_get hk4)], hD4.set hr1 hq1, (hK3.trans hK4).set (Nat.le_refl _)⟩
          · refine List.nodup_append.mpr ⟨hn, List.nodup_cons.mpr ⟨List.not_mem_nil, List.nodup_nil⟩, fun a ha b hb => ?_⟩
            rw [List.mem_singleton.mp hb]
            have := hi a ha
            omega
          · rcases List.mem_append.mp hg with hg | hg
            · exact hi' g hg
            · rw [List.mem_singleton.mp hg]
              omega
        · exact ⟨is, rfl, by omega, hn, hi', hk4, hD4, hK3.trans hK4⟩
      · rintro acc S3 ⟨is, rfl, hl, hn, hi, hk, hD3, hK3⟩
        rw [rng_length] at hl hi
        exact ⟨is, _, rfl, hl, hn, hi, hk, hD3, hK1.trans hK3⟩
    rintro _ S2 ⟨is, a5, rfl, hl, hn, hi, hk, hD2, hK2⟩
    have hr2 : S2.length ≠ r := Nat.ne_of_gt hD2.lt.1
    refine w_join (fun env S3 => ∃ (is : List Int) (L : Nat), L ≠ r ∧ env = [some (.ref r), some (.int (many : Nat)), some (.str z), some (.int stops), some (.ref L), a5] ∧ is.length ≤ many ∧ is.Nodup ∧ (∀ b ∈ is, 0 ≤ b ∧ b < many) ∧ S3[L]? = some (.lst (is.map .int)) ∧ Dr r q S3 ∧ Kp r S S3) ?_ ?_
    · walk_at "w"
      refine pick_ok hD2 (by decide) fun v S4 v0 v1 hD4 hK4 hL4 => ?_
      have hk4 : S4[S1.length]? = some (.lst (is.map .int)) := by rw [hK4.get _ (lt_of_get hk) hr1]; exact hk
      walk_at "w"
      split
      · rw [x_revL hk4]
        refine ⟨is.reverse, S4.length, Nat.ne_of_gt hD4.lt.1, rfl, by rw [List.length_reverse]; exact hl, List.pairwise_reverse.mpr (hn.imp Ne.symm), fun b hb => hi b (List.mem_reverse.mp hb), ?_, hD4.app, (hK2.trans hK4).trans Kp.app⟩
        rw [List.map_reverse]
        exact get_new
      · exact ⟨is, S1.length, hr1, rfl, hl, hn, hi, hk4, hD4, hK2.trans hK4⟩
    rintro _ S3 ⟨is, L, hLr, rfl, hl, hn, hi, hk, hD3, hK3⟩
    walk_at "w"
    exact law_row_ok hD3 hz hzl hk hLr (by omega) hi fun d S4 hd hD4 hK4 => k d S4 (.inr ⟨is, hd, hn, hi⟩) hD4 (hK3.trans hK4)
end TS
set_option Elab.async false
set_option linter.all false
set_option maxRecDepth 100000
set_option maxHeartbeats 2000000
namespace TS
open PySem PySem.Spec PyProof.Rows L2
local macro_rules | `(tactic| walk_at "w") => `(tactic| simp only [w_mulX, w_mulXS, x_isiSS, x_isiIS, x_isiII, x_isiIB, x_isiTT, x_isiNS, x_isTN, x_isSN, x_isIN, x_notTN, x_notSN, x_notIN, x_revX, x_revV, x_revVT, w_ord, w_asBl, w_body, env0, w_seq, w_asg, w_sret, w_retN, w_drop, w_sIf, w_for, w_aug, w_nx, w_brk, w_cnt, w_gN, w_gTup, w_gsCons, w_gsNil, w_gSub, w_var, w_c, w_op, w_un, w_call, w_eMt, w_tup, w_lst, w_aNil, w_aCons, w_asB, w_asT, w_bAnd, w_bOr, w_bNot, w_eAnd, w_eOr, w_eNot, w_eIf, w_eSl, w_pNo, w_pSome, w_chain,
  w_add, w_addT, w_sub, w_mul, w_mod, w_fdiv, w_pow, w_lt, w_le, w_gt, w_ge, w_int, w_min, w_max, w_lenT, w_lenF, w_truB, w_isB, w_notB, w_tyS, w_slT, w_tupT, w_eqI, w_neI, w_eqBl, w_neBl, w_find, w_rg1, w_rg2, w_anyI, w_ixT, w_ixF, w_ixS, w_lenS, w_slS, w_addS, w_disp, w_kNil, w_kCons, w_yes, w_zip, w_ltS1, w_ninS, x_enum, x_geS1, w_par2, w_eLenSet, w_intB, w_notN, w_isN, w_neg,
  List.map_cons, List.map_nil, List.length_cons, List.length_nil, List.replicate, List.cons_append, List.nil_append, List.getElem?_cons_zero, List.getElem?_cons_succ, List.set_cons_zero, List.set_cons_succ, Nat.reduceAdd, Nat.reduceSub, Nat.sub_self, Nat.sub_zero,
  Option.some.injEq, exists_eq_left', D.bl.injEq, D.int.injEq, rgOf_1, rgOf2_2, and_true, true_and])
local macro_rules | `(tactic| walk_at "v") => `(tactic| simp only [w_mulX, w_mulXS, x_isiSS, x_isiIS, x_isiII, x_isiIB, x_isiTT, x_isiNS, x_isTN, x_isSN, x_isIN, x_notTN, x_notSN, x_notIN, x_revX, x_revV, x_revVT, w_ord, w_asBl, env0, w_asg, w_sret, w_retN, w_drop, w_for, w_aug, w_nx, w_brk, w_cnt, w_gN, w_gTup, w_gsCons, w_gsNil, w_gSub, w_var, w_c, w_op, w_un, w_call, w_eMt, w_tup, w_lst, w_aNil, w_aCons, w_asB, w_asT, w_bAnd, w_bOr, w_bNot, w_eAnd, w_eOr, w_eNot, w_eIf, w_eSl, w_pNo, w_pSome, w_chain,
  w_add, w_addT, w_sub, w_mul, w_mod, w_fdiv, w_pow, w_lt, w_le, w_gt, w_ge, w_int, w_min, w_max, w_lenT, w_lenF, w_truB, w_isB, w_notB, w_tyS, w_slT, w_tupT, w_eqI, w_neI, w_eqBl, w_neBl, w_find, w_rg1, w_rg2, w_anyI, w_ixT, w_ixF, w_ixS, w_lenS, w_slS, w_addS, w_disp, w_kNil, w_kCons, w_yes, w_zip, w_ltS1, w_ninS, x_enum, x_geS1, w_par2, w_eLenSet, w_intB, w_notN, w_isN, w_neg,
  List.map_cons, List.map_nil, List.length_cons, List.length_nil, List.replicate, List.cons_append, List.nil_append, List.getElem?_cons_zero, List.getElem?_cons_succ, List.set_cons_zero, List.set_cons_succ, Nat.reduceAdd, Nat.reduceSub, Nat.sub_self, Nat.sub_zero,
  Option.some.injEq, exists_eq_left', D.bl.injEq, D.int.injEq, rgOf_1, rgOf2_2, and_true, true_and])
/-! ### numbers of values, as lists of signs -/
def numL (l : List Nat) : Int := l.foldl (fun (n : Int) (c : Nat) => 27 * n + (c : Int) - 97 + 1) 0
def Small (l : List Nat) : Prop := ∀ c ∈ l, 97 ≤ c ∧ c ≤ 122
theorem numL_snoc (l : List Nat) (c : Nat) : numL (l ++ [c]) = 27 * numL l + (c : Int) - 97 + 1 := by
  unfold numL
  rw [List.foldl_append]
  rfl
theorem snoc_ind {P : List Nat → Prop} (h0 : P []) (h1 : ∀ l c, P l → P (l ++ [c])) : ∀ l, P l := by
  intro l
  have : ∀ n (l : List Nat), l.length = n → P l := by
    intro n
    induction n with
    | zero => intro l hl; rw [List.eq_nil_of_length_eq_zero hl]; exact h0
    | succ n ih =>
      intro l hl
      have hne : l ≠ [] := fun e => by rw [e] at hl; cases hl
      rw [← List.dropLast_concat_getLast hne]
      exact h1 _ _ (ih _ (by rw [List.length_dropLast]; omega))
  exact this l.length l rfl
theorem Small.left {a b : List Nat} (h : Small (a ++ b)) : Small a := fun c hc => h c (List.mem_append.mpr (.inl hc))
theorem Small.last {a : List Nat} {c : Nat} (h : Small (a ++ [c])) : 97 ≤ c ∧ c ≤ 122 := h c (List.mem_append.mpr (.inr (List.mem_singleton.mpr rfl)))
theorem numL_bound : ∀ l : List Nat, Small l → 0 ≤ numL l ∧ numL l < 27 ^ l.length := by
  refine snoc_ind (fun _ => ⟨Int.le_refl _, by show (0 : Int) < 1; decide⟩) fun l c ih h => ?_
  obtain ⟨h1, h2⟩ := ih h.left
  obtain ⟨c1, c2⟩ := h.last
  rw [numL_snoc, List.length_append, List.length_singleton, Int.pow_succ]
  omega
theorem numL_app (a : List Nat) : ∀ b : List Nat, numL (a ++ b) = numL a * 27 ^ b.length + numL b := by
  refine snoc_ind (by simp [numL]) fun l c ih => ?_
  rw [← List.append_assoc, numL_snoc, numL_snoc, ih, List.length_append, List.length_singleton, Int.pow_succ, Int.mul_comm (27 ^ l.length) 27, ← Int.mul_assoc, Int.mul_comm (numL a) 27, Int.mul_assoc]
  omega
theorem numL_inj : ∀ a b : List Nat, Small a → Small b → numL a = numL b → a = b := by
  refine snoc_ind ?_ ?_
  · refine snoc_ind (fun _ _ _ => rfl) fun l c _ _ hb e => ?_
    have h1 := (numL_bound l hb.left).1
    obtain ⟨c1, c2⟩ := hb.last
    rw [numL_snoc, show numL [] = 0 from rfl] at e
    omega
  · intro l c ih
    refine snoc_ind ?_ ?_
    · intro ha _ e
      have h1 := (numL_bound l ha.left).1
      obtain ⟨c1, c2⟩ := ha.last
      rw [numL_snoc, show numL [] = 0 from rfl] at e
      omega
    · intro m d _ ha hb e
      obtain ⟨c1, c2⟩ := ha.last
      obtain ⟨d1, d2⟩ := hb.last
      rw [numL_snoc, numL_snoc] at e
      have e1 : numL l = numL m := by omega
      have e2 : c = d := by omega
      rw [ih m ha.left hb.left e1, e2]
theorem pow27 (n : Nat) : (27 : Int) ^ n ≤ 2 ^ (5 * n) := by
  rw [Int.pow_mul]
  exact_mod_cast Nat.pow_le_pow_left (show 27 ≤ 2 ^ 5 by decide) n
theorem pow27_pos (n : Nat) : (0 : Int) < 27 ^ n := Int.pow_pos (by decide)
theorem numL_bits {l : List Nat} (h : Small l) : (numL l).natAbs < 2 ^ (5 * l.length + 1) := by
  obtain ⟨h1, h2⟩ := numL_bound l h
  have h3 := pow27 l.length
  have h4 : (2 : Int) ^ (5 * l.length + 1) = 2 ^ (5 * l.length) * 2 := Int.pow_succ _ _
  have h5 : ((numL l).natAbs : Int) < ((2 ^ (5 * l.length + 1) : Nat) : Int) := by
    rw [Int.natAbs_of_nonneg h1]
    push_cast
    have : (0 : Int) < 2 ^ (5 * l.length) := Int.pow_pos (by decide)
    omega
  exact_mod_cast h5
theorem pow27_bits (n : Nat) : ((27 : Int) ^ n).natAbs < 2 ^ (5 * n + 1) := by
  have h1 := pow27_pos n
  have h3 := pow27 n
  have h4 : (2 : Int) ^ (5 * n + 1) = 2 ^ (5 * n) * 2 := Int.pow_succ _ _
  have h5 : (((27 : Int) ^ n).natAbs : Int) < ((2 ^ (5 * n + 1) : Nat) : Int) := by
    rw [Int.natAbs_of_nonneg (Int.le_of_lt h1)]
    push_cast
    have : (0 : Int) < 2 ^ (5 * n) := Int.pow_pos (by decide)
    omega
  exact_mod_cast h5
/-! ### the program -/
def SmallS (z : Str) : Prop := Small z.cps.toList
theorem small27 : smallI 27 = true := by decide
theorem number_ok {z : Str} {S : Store} {Q : D → Store → Prop} (k : Q (.int (numL z.cps.toList)) S) : wp (m_number_of [.str z]) S Q := by
  unfold m_number_of f_number_of
  walk_at "w"
  refine ⟨_, rfl, ?_⟩
  refine wp_loop (fun i env S1 => ∃ a, env = [some (.str z), some (.int (numL (z.cps.toList.take i))), a] ∧ S1 = S) (fun _ _ _ _ => gdOk_nil _) ?_ ?_ ⟨_, rfl, rfl⟩
  · rintro i x env S1 hx ⟨a, rfl, rfl⟩
    have hx' : (z.cps.toList.map fun c => D.str ⟨#[c]⟩)[i]? = some x := hx
    rw [List.getElem?_map] at hx'
    obtain ⟨c, hc, rfl⟩ := Option.map_eq_some_iff.mp hx'
    walk_at "w"
    refine ⟨.inl small27, ?_⟩
    rw [show (Str.ofString "a") = (⟨#[97]⟩ : Str) by decide +kernel]
    walk_at "w"
    have e : numL (z.cps.toList.take (i + 1)) = 27 * numL (z.cps.toList.take i) + (c : Int) - 97 + 1 := by
      rw [List.take_add_one, hc]
      exact numL_snoc _ _
    rw [e]
    exact ⟨_, rfl⟩
  · rintro env S1 ⟨a, rfl, rfl⟩
    rw [show (signs z).length = z.cps.toList.length from List.length_map _, List.take_length]
    walk_at "w"
    exact k
theorem weight_ok {z : Str} {S : Store} {Q : D → Store → Prop} (k : Q (.int (27 ^ z.length)) S) : wp (m_weight_of [.str z]) S Q := by
  unfold m_weight_of f_weight_of
  walk_at "w"
  refine ⟨_, rfl, ?_⟩
  refine wp_loop (fun i env S1 => ∃ a, env = [some (.str z), some (.int (27 ^ i)), a] ∧ S1 = S) (fun _ _ _ _ => gdOk_nil _) ?_ ?_ ⟨_, rfl, rfl⟩
  · rintro i x env S1 hx ⟨a, rfl, rfl⟩
    walk_at "w"
    exact ⟨.inr (.inl small27), _, by rw [Int.pow_succ]⟩
  · rintro env S1 ⟨a, rfl, rfl⟩
    rw [show (signs z).length = z.length from (List.length_map _).trans (len_toList z)]
    walk_at "w"
    exact k
end TS
set_option Elab.async false
set_option linter.all false
set_option maxRecDepth 100000
set_option maxHeartbeats 2000000
namespace TS
open PySem PySem.Spec PyProof.Rows L2
local macro_rules | `(tactic| walk_at "w") => `(tactic| simp only [w_mulX, w_mulXS, x_isiSS, x_isiIS, x_isiII, x_isiIB, x_isiTT, x_isiNS, x_isTN, x_isSN, x_isIN, x_notTN, x_notSN, x_notIN, x_revX, x_revV, x_revVT, w_ord, w_asBl, w_body, env0, w_seq, w_asg, w_sret, w_retN, w_drop, w_sIf, w_for, w_aug, w_nx, w_brk, w_cnt, w_gN, w_gTup, w_gsCons, w_gsNil, w_gSub, w_var, w_c, w_op, w_un, w_call, w_eMt, w_tup, w_lst, w_aNil, w_aCons, w_asB, w_asT, w_bAnd, w_bOr, w_bNot, w_eAnd, w_eOr, w_eNot, w_eIf, w_eSl, w_pNo, w_pSome, w_chain,
  w_add, w_addT, w_sub, w_mul, w_mod, w_fdiv, w_pow, w_lt, w_le, w_gt, w_ge, w_int, w_min, w_max, w_lenT, w_lenF, w_truB, w_isB, w_notB, w_tyS, w_slT, w_tupT, w_eqI, w_neI, w_eqBl, w_neBl, w_find, w_rg1, w_rg2, w_anyI, w_ixT, w_ixF, w_ixS, w_lenS, w_slS, w_addS, w_disp, w_kNil, w_kCons, w_yes, w_zip, w_ltS1, w_ninS, x_enum, x_geS1, w_par2, w_eLenSet, w_intB, w_notN, w_isN, w_neg,
  List.map_cons, List.map_nil, List.length_cons, List.length_nil, List.replicate, List.cons_append, List.nil_append, List.getElem?_cons_zero, List.getElem?_cons_succ, List.set_cons_zero, List.set_cons_succ, Nat.reduceAdd, Nat.reduceSub, Nat.sub_self, Nat.sub_zero,
  Option.some.injEq, exists_eq_left', D.bl.injEq, D.int.injEq, rgOf_1, rgOf2_2, and_true, true_and])
local macro_rules | `(tactic| walk_at "v") => `(tactic| simp only [w_mulX, w_mulXS, x_isiSS, x_isiIS, x_isiII, x_isiIB, x_isiTT, x_isiNS, x_isTN, x_isSN, x_isIN, x_notTN, x_notSN, x_notIN, x_revX, x_revV, x_revVT, w_ord, w_asBl, env0, w_asg, w_sret, w_retN, w_drop, w_for, w_aug, w_nx, w_brk, w_cnt, w_gN, w_gTup, w_gsCons, w_gsNil, w_gSub, w_var, w_c, w_op, w_un, w_call, w_eMt, w_tup, w_lst, w_aNil, w_aCons, w_asB, w_asT, w_bAnd, w_bOr, w_bNot, w_eAnd, w_eOr, w_eNot, w_eIf, w_eSl, w_pNo, w_pSome, w_chain,
  w_add, w_addT, w_sub, w_mul, w_mod, w_fdiv, w_pow, w_lt, w_le, w_gt, w_ge, w_int, w_min, w_max, w_lenT, w_lenF, w_truB, w_isB, w_notB, w_tyS, w_slT, w_tupT, w_eqI, w_neI, w_eqBl, w_neBl, w_find, w_rg1, w_rg2, w_anyI, w_ixT, w_ixF, w_ixS, w_lenS, w_slS, w_addS, w_disp, w_kNil, w_kCons, w_yes, w_zip, w_ltS1, w_ninS, x_enum, x_geS1, w_par2, w_eLenSet, w_intB, w_notN, w_isN, w_neg,
  List.map_cons, List.map_nil, List.length_cons, List.length_nil, List.replicate, List.cons_append, List.nil_append, List.getElem?_cons_zero, List.getElem?_cons_succ, List.set_cons_zero, List.set_cons_succ, Nat.reduceAdd, Nat.reduceSub, Nat.sub_self, Nat.sub_zero,
  Option.some.injEq, exists_eq_left', D.bl.injEq, D.int.injEq, rgOf_1, rgOf2_2, and_true, true_and])
/-! ### terms: a factor and an index -/
abbrev Tm := Int × Nat
def tD (t : Tm) : D := .tup [.int t.1, .int (t.2 : Nat)]
def pw (m : Nat) (b : Nat) : Nat := 3 ^ (m - 1 - b)
def lenI : D → Nat
  | .str s => s.length
  | _ => 0
def idxI (m : Nat) : D → Nat
  | .int b => pw m b.toNat
  | _ => 0
def lenS (xs : List D) : Nat := (xs.map lenI).sum
def idxS (m : Nat) (xs : List D) : Nat := (xs.map (idxI m)).sum
theorem lenS_snoc (xs : List D) (x : D) : lenS (xs ++ [x]) = lenS xs + lenI x := by
  unfold lenS
  rw [List.map_append, List.sum_append]
  show _ + (lenI x + 0) = _
  omega
theorem idxS_snoc (m : Nat) (xs : List D) (x : D) : idxS m (xs ++ [x]) = idxS m xs + idxI m x := by
  unfold idxS
  rw [List.map_append, List.sum_append]
  show _ + (idxI m x + 0) = _
  omega
theorem lenS_rev (xs : List D) : lenS xs.reverse = lenS xs := by
  unfold lenS
  rw [List.map_reverse, List.sum_reverse]
theorem idxS_rev (m : Nat) (xs : List D) : idxS m xs.reverse = idxS m xs := by
  unfold idxS
  rw [List.map_reverse, List.sum_reverse]
def tmAt (m : Nat) (pre : List D) : D → Tm
  | .str s => (27 ^ lenS pre * numL s.cps.toList, idxS m pre)
  | .int b => (27 ^ lenS pre, idxS m pre + 2 * pw m b.toNat)
  | _ => (0, 0)
/-- the terms of the number, the row from behind -/
def ntR (m : Nat) (rev : List D) (n : Nat) : List Tm := (List.range n).map fun j => tmAt m (rev.take j) (rev.getD j .non)
theorem ntR_succ {m : Nat} {rev : List D} {j : Nat} {x : D} (h : rev[j]? = some x) : ntR m rev (j + 1) = ntR m rev j ++ [tmAt m (rev.take j) x] := by
  unfold ntR
  rw [List.range_succ, List.map_append, List.map_cons, List.map_nil, List.getD_eq_getElem?_getD, h]
  rfl
def wtOf (m : Nat) (xs : List D) : Tm := (27 ^ lenS xs, idxS m xs)
def ntOf (m : Nat) (xs : List D) : List Tm := ntR m xs.reverse xs.length
theorem ItP.small {n : Nat} {w : Str} (h : textQ (.str w) = true) : Small w.cps.toList := fun c hc => by
  have := List.all_eq_true.mp (show w.cps.toList.all smallQ = true from h) c hc
  unfold smallQ at this
  rw [Bool.and_eq_true, decide_eq_true_iff, decide_eq_true_iff] at this
  exact this
def pwL (m : Nat) (n : Nat) : List Nat := (List.range n).map fun i => 3 ^ i
theorem powers_ok {m : Nat} {S : Store} {Q : D → Store → Prop} (hm : m ≤ 100) (k : ∀ L S', Grow S S' → S.length ≤ L → S'[L]? = some (.lst ((List.range m).map fun b => D.int (pw m b : Nat))) → Q (.ref L) S') : wp (m_powers_of_three [.int (m : Nat)]) S Q := by
  unfold m_powers_of_three f_powers_of_three
  rw [w_body]
  refine w_seqA ?_
  walk_at "v"
  refine ⟨by decide, ?_⟩
  refine w_seqA ?_
  walk_at "v"
  walk_at "w"
  refine ⟨⟨by omega, by omega⟩, ?_⟩
  rw [show ((m : Nat) : Int).toNat = m from rfl]
  have s3 : smallI 3 = true := by decide
  refine wp_loop (fun i env S1 => ∃ a3, env = [some (.int (m : Nat)), some (.ref S.length), some (.int ((3 ^ i : Nat) : Int)), a3] ∧ S1 = S ++ [.lst ((pwL m i).map fun n => D.int (n : Nat))]) (fun _ _ _ _ => gdOk_nil _) ?_ ?_ ⟨none, rfl, rfl⟩
  · rintro i x env S1 hx ⟨a3, rfl, rfl⟩
    obtain ⟨hi, rfl⟩ := rng_get hx
    walk_at "w"
    rw [w_tyL get_new, w_app get_new (sz_lt (by unfold pwL; rw [List.length_map, List.length_map, List.length_range]; omega))]
    have e3 : ((3 ^ (i + 1) : Nat) : Int) = 3 * ((3 ^ i : Nat) : Int) := by
      rw [Nat.pow_succ]
      push_cast
      rw [Int.mul_comm]
    rw [e3]
    refine ⟨.inl s3, _, rfl, ?_⟩
    rw [List.set_append_right _ _ (Nat.le_refl _), Nat.sub_self, List.set_cons_zero]
    unfold pwL
    rw [List.range_succ, List.map_append, List.map_append]
    rfl
  · rintro env S1 ⟨a3, rfl, rfl⟩
    rw [rng_length]
    walk_at "w"
    rw [x_revL get_new]
    refine k _ _ Grow.refl.app.app (by rw [List.length_append]; omega) ?_
    rw [get_new]
    congr 2
    unfold pwL pw
    rw [List.map_map]
    refine List.ext_getElem (by simp) fun i h1 h2 => ?_
    simp at h1 h2
    simp

/-! ### the program's terms of a row -/
theorem w_iadd {i j : Int} {S : Store} {Q : D → Store → Prop} : wp (iaddD (.int i) (.int j)) S Q ↔ Q (.int (i + j)) S := wp_some rfl
theorem pows_at {m b L : Nat} {S : Store} (h : S[L]? = some (.lst ((List.range m).map fun b => D.int (pw m b : Nat)))) (hb : b < m) {Q : D → Store → Prop} (k : Q (.int (pw m b : Nat)) S) : wp (ixU (.ref L) (.int (b : Nat))) S Q := by
  rw [w_ixL h]
  exact ⟨_, atI_nat (by rw [List.getElem?_map, List.getElem?_range hb]; rfl), k⟩
theorem pow27_small {n : Nat} (h : n ≤ 12) : smallI ((27 : Int) ^ n) = true := by
  have : ∀ n, n ≤ 12 → smallI ((27 : Int) ^ n) = true := by decide
  exact this n h
theorem num_small {w : Str} (h : textQ (.str w) = true) (hl : w.length ≤ 12) : smallI (numL w.cps.toList) = true := by
  have hb := numL_bound _ (ItP.small (n := 0) h)
  rw [len_toList] at hb
  have : ∀ n, n ≤ 12 → (27 : Int) ^ n < 2 ^ 64 := by decide
  have h2 := this w.length hl
  exact decide_eq_true ⟨by omega, by omega⟩
theorem weight_terms_ok {m L : Nat} {xs : List D} {S : Store} {Q : D → Store → Prop} (hx : ∀ x ∈ xs, ItP m x) (hl : xs.length ≤ 1000) (hL : S[L]? = some (.lst ((List.range m).map fun b => D.int (pw m b : Nat)))) (k : Q (.ref S.length) (S ++ [.lst [tD (wtOf m xs)]])) : wp (m_weight_terms [.tup xs, .ref L]) S Q := by
  unfold m_weight_terms f_weight_terms
  rw [w_body]
  refine w_seqA ?_
  walk_at "v"
  refine w_seqA ?_
  walk_at "v"
  walk_at "w"
  refine ⟨_, rfl, ?_⟩
  refine wp_loop (fun i env S1 => ∃ a4, env = [some (.tup xs), some (.ref L), some (.int (27 ^ lenS (xs.take i))), some (.int (idxS m (xs.take i) : Nat)), a4] ∧ S1 = S) (fun _ _ _ _ => gdOk_nil _) ?_ ?_ ⟨none, rfl, rfl⟩
  · rintro i x env S1 hi ⟨a4, rfl, rfl⟩
    have hi' : xs[i]? = some x := hi
    have htk : xs.take (i + 1) = xs.take i ++ [x] := by rw [List.take_add_one, hi']; rfl
    rw [htk, lenS_snoc, idxS_snoc]
    rcases hx x (List.mem_of_getElem? hi') with ⟨b, rfl, hb⟩ | ⟨w, rfl, _, w1, w2⟩
    · walk_at "w"
      simp only [if_false, Bool.false_eq_true]
      refine pows_at hL hb ?_
      rw [w_iadd]
      exact ⟨some (.int (b : Nat)), by simp [lenI, idxI], rfl⟩
    · walk_at "w"
      simp only [if_true]
      refine weight_ok ?_
      rw [w_mulX]
      exact ⟨.inr (.inl (pow27_small (by omega))), some (.str w), by simp [lenI, idxI, Int.pow_add], rfl⟩
  · rintro env S1 ⟨a4, rfl, rfl⟩
    rw [List.take_length]
    walk_at "w"
    exact ⟨by decide, by decide, k⟩
theorem number_terms_ok {m L : Nat} {xs : List D} {S : Store} {Q : D → Store → Prop} (hx : ∀ x ∈ xs, ItP m x) (hl : xs.length ≤ 1000) (hL : S[L]? = some (.lst ((List.range m).map fun b => D.int (pw m b : Nat)))) (k : Q (.ref S.length) (S ++ [.lst ((ntOf m xs).map tD)])) : wp (m_number_terms [.tup xs, .ref L]) S Q := by
  unfold m_number_terms f_number_terms
  rw [w_body]
  refine w_seqA ?_
  walk_at "v"
  refine ⟨by decide, ?_⟩
  refine w_seqA ?_
  walk_at "v"
  refine w_seqA ?_
  walk_at "v"
  walk_at "w"
  refine ⟨_, rfl, ?_⟩
  have hL0 : ∀ o, (S ++ [MO.lst o])[L]? = some (.lst ((List.range m).map fun b => D.int (pw m b : Nat))) := fun o => by rw [List.getElem?_append_left (lt_of_get hL)]; exact hL
  have s2 : smallI 2 = true := by decide
  refine wp_loop (fun i env S1 => ∃ a5, env = [some (.tup xs), some (.ref L), some (.ref S.length), some (.int (27 ^ lenS (xs.reverse.take i))), some (.int (idxS m (xs.reverse.take i) : Nat)), a5] ∧ S1 = S ++ [.lst ((ntR m xs.reverse i).map tD)]) (fun _ _ _ _ => gdOk_nil _) ?_ ?_ ⟨none, rfl, rfl⟩
  · rintro i x env S1 hi ⟨a5, rfl, rfl⟩
    have hi' : xs.reverse[i]? = some x := hi
    have hil := (List.getElem?_eq_some_iff.mp hi').1
    rw [List.length_reverse] at hil
    have htk : xs.reverse.take (i + 1) = xs.reverse.take i ++ [x] := by rw [List.take_add_one, hi']; rfl
    rw [htk, lenS_snoc, idxS_snoc, ntR_succ hi']
    have hz : ((ntR m xs.reverse i).map tD).length < sizeLine := sz_lt (by unfold ntR; rw [List.length_map, List.length_map, List.length_range]; omega)
    rcases hx x (List.mem_reverse.mp (List.mem_of_getElem? hi')) with ⟨b, rfl, hb⟩ | ⟨w, rfl, _, w1, w2⟩
    · walk_at "w"
      simp only [if_false, Bool.false_eq_true]
      rw [w_tyL get_new]
      refine pows_at (hL0 _) hb ?_
      walk_at "w"
      refine ⟨.inl s2, by decide, ?_⟩
      rw [w_app get_new hz, List.set_append_right _ _ (Nat.le_refl _), Nat.sub_self, List.set_cons_zero]
      refine pows_at (hL0 _) hb ?_
      rw [w_iadd]
      refine ⟨some (.int (b : Nat)), by simp [lenI, idxI], ?_⟩
      rw [List.map_append]
      simp [tmAt, tD]
    · walk_at "w"
      simp only [if_true]
      rw [w_tyL get_new]
      refine number_ok ?_
      walk_at "w"
      refine ⟨.inr (.inl (num_small w1 (by omega))), by decide, ?_⟩
      rw [w_app get_new hz, List.set_append_right _ _ (Nat.le_refl _), Nat.sub_self, List.set_cons_zero]
      refine weight_ok ?_
      rw [w_mulX]
      refine ⟨.inr (.inl (pow27_small (by omega))), some (.str w), by simp [lenI, idxI, Int.pow_add], ?_⟩
      rw [List.map_append]
      rfl
  · rintro env S1 ⟨a5, rfl, rfl⟩
    walk_at "w"
    have e : xs.reverse.length = xs.length := List.length_reverse
    rw [show ((xs.reverse, ([] : Gd)).fst.length) = xs.length from e]
    exact k
end TS
set_option Elab.async false
set_option linter.all false
set_option maxRecDepth 100000
set_option maxHeartbeats 2000000
namespace TS
open PySem PySem.Spec PyProof.Rows L2
local macro_rules | `(tactic| walk_at "w") => `(tactic| simp only [w_mulX, w_mulXS, x_isiSS, x_isiIS, x_isiII, x_isiIB, x_isiTT, x_isiNS, x_isTN, x_isSN, x_isIN, x_notTN, x_notSN, x_notIN, x_revX, x_revV, x_revVT, w_ord, w_asBl, w_body, env0, w_seq, w_asg, w_sret, w_retN, w_drop, w_sIf, w_for, w_aug, w_nx, w_brk, w_cnt, w_gN, w_gTup, w_gsCons, w_gsNil, w_gSub, w_var, w_c, w_op, w_un, w_call, w_eMt, w_tup, w_lst, w_aNil, w_aCons, w_asB, w_asT, w_bAnd, w_bOr, w_bNot, w_eAnd, w_eOr, w_eNot, w_eIf, w_eSl, w_pNo, w_pSome, w_chain,
  w_add, w_addT, w_sub, w_mul, w_mod, w_fdiv, w_pow, w_lt, w_le, w_gt, w_ge, w_int, w_min, w_max, w_lenT, w_lenF, w_truB, w_isB, w_notB, w_tyS, w_slT, w_tupT, w_eqI, w_neI, w_eqBl, w_neBl, w_find, w_rg1, w_rg2, w_anyI, w_ixT, w_ixF, w_ixS, w_lenS, w_slS, w_addS, w_disp, w_kNil, w_kCons, w_yes, w_zip, w_ltS1, w_ninS, x_enum, x_geS1, w_par2, w_eLenSet, w_intB, w_notN, w_isN, w_neg,
  List.map_cons, List.map_nil, List.length_cons, List.length_nil, List.replicate, List.cons_append, List.nil_append, List.getElem?_cons_zero, List.getElem?_cons_succ, List.set_cons_zero, List.set_cons_succ, Nat.reduceAdd, Nat.reduceSub, Nat.sub_self, Nat.sub_zero,
  Option.some.injEq, exists_eq_left', D.bl.injEq, D.int.injEq, rgOf_1, rgOf2_2, and_true, true_and])
local macro_rules | `(tactic| walk_at "v") => `(tactic| simp only [w_mulX, w_mulXS, x_isiSS, x_isiIS, x_isiII, x_isiIB, x_isiTT, x_isiNS, x_isTN, x_isSN, x_isIN, x_notTN, x_notSN, x_notIN, x_revX, x_revV, x_revVT, w_ord, w_asBl, env0, w_asg, w_sret, w_retN, w_drop, w_for, w_aug, w_nx, w_brk, w_cnt, w_gN, w_gTup, w_gsCons, w_gsNil, w_gSub, w_var, w_c, w_op, w_un, w_call, w_eMt, w_tup, w_lst, w_aNil, w_aCons, w_asB, w_asT, w_bAnd, w_bOr, w_bNot, w_eAnd, w_eOr, w_eNot, w_eIf, w_eSl, w_pNo, w_pSome, w_chain,
  w_add, w_addT, w_sub, w_mul, w_mod, w_fdiv, w_pow, w_lt, w_le, w_gt, w_ge, w_int, w_min, w_max, w_lenT, w_lenF, w_truB, w_isB, w_notB, w_tyS, w_slT, w_tupT, w_eqI, w_neI, w_eqBl, w_neBl, w_find, w_rg1, w_rg2, w_anyI, w_ixT, w_ixF, w_ixS, w_lenS, w_slS, w_addS, w_disp, w_kNil, w_kCons, w_yes, w_zip, w_ltS1, w_ninS, x_enum, x_geS1, w_par2, w_eLenSet, w_intB, w_notN, w_isN, w_neg,
  List.map_cons, List.map_nil, List.length_cons, List.length_nil, List.replicate, List.cons_append, List.nil_append, List.getElem?_cons_zero, List.getElem?_cons_succ, List.set_cons_zero, List.set_cons_succ, Nat.reduceAdd, Nat.reduceSub, Nat.sub_self, Nat.sub_zero,
  Option.some.injEq, exists_eq_left', D.bl.injEq, D.int.injEq, rgOf_1, rgOf2_2, and_true, true_and])
def tm2 (a b : Tm) : Tm := (a.1 * b.1, a.2 + b.2)
def tmul (l1 l2 : List Tm) : List Tm := l1.flatMap fun a => l2.map (tm2 a)
def choices (m : Nat) (xs : List D) : List (List Tm) := [[(1, 0)], [wtOf m xs], ntOf m xs]
def nextT (m : Nat) (f : List (List Tm)) (row : D) : List (List Tm) := f.flatMap fun ts => (choices m (srcT row)).map (tmul ts)
def stT (m : Nat) (rows : List D) : List (List Tm) := rows.foldl (nextT m) [[(1, 0)]]
/-- a row as it is right -/
def RowOk (m : Nat) (d : D) : Prop := ∃ xs, d = .tup xs ∧ (∀ x ∈ xs, ItP m x) ∧ xs.length ≤ 9 ∧ lenS xs ≤ 10
theorem lenS_le {m : Nat} : ∀ {xs : List D}, (∀ x ∈ xs, ItP m x) → lenS xs + 2 * (intsD xs).length ≤ 2 * xs.length
  | [], _ => Nat.le_refl _
  | x :: r, h => by
    have ih := lenS_le (xs := r) fun y hy => h y (List.mem_cons_of_mem _ hy)
    have e : lenS (x :: r) = lenI x + lenS r := rfl
    rw [e, List.length_cons]
    rcases h x (List.mem_cons_self ..) with ⟨b, rfl, _⟩ | ⟨w, rfl, _, _, hw⟩
    · show 0 + _ + 2 * (((b : Nat) : Int) :: intsD r).length ≤ _
      rw [List.length_cons]
      omega
    · show w.length + _ + 2 * (intsD r).length ≤ _
      omega
theorem RowM.ok {m : Nat} {is : List Int} {d : D} (h : RowM m is d) (hn : is.Nodup) (hb : ∀ b ∈ is, 0 ≤ b ∧ b < m) (hm : m ≤ 4) : RowOk m d := by
  obtain ⟨xs, rfl, h1, h2, h3⟩ := h
  have hl := nodup_bound m hn hb
  have h4 := lenS_le h1
  rw [h2] at h4
  exact ⟨xs, rfl, h1, by omega, by omega⟩
theorem NewsM.ok {m : Nat} {ds : List D} (h : NewsM m ds) (hm : m ≤ 4) : ∀ d ∈ ds, RowOk m d := fun d hd => by
  obtain ⟨h1, h2, h3, h4⟩ := h
  obtain ⟨is, h5⟩ := h2 d hd
  obtain ⟨xs, rfl, g1, g2, g3⟩ := id h5
  have hu : (usedOf ds) = ds.flatMap fun x => intsD (srcT x) := rfl
  rw [hu, List.flatMap_def] at h3
  have hn : (intsD xs).Nodup := (List.pairwise_flatten.mp h3).1 _ (List.mem_map.mpr ⟨_, hd, rfl⟩)
  rw [g2] at hn
  refine h5.ok hn (fun b hb => h4 b ?_) hm
  rw [hu]
  exact List.mem_flatMap.mpr ⟨_, hd, by show b ∈ intsD xs; rw [g2]; exact hb⟩
theorem tmAt_small {m : Nat} {xs : List D} (hx : ∀ x ∈ xs, ItP m x) (hl : lenS xs ≤ 10) : ∀ t ∈ ntOf m xs, 0 ≤ t.1 ∧ t.1 ≤ 27 ^ lenS xs := fun t ht => by
  unfold ntOf ntR at ht
  obtain ⟨j, hj, rfl⟩ := List.mem_map.mp ht
  have hj := List.mem_range.mp hj
  have hjr : j < xs.reverse.length := by rw [List.length_reverse]; exact hj
  have e := List.getElem?_eq_getElem hjr
  have hxm : xs.reverse[j] ∈ xs := List.mem_reverse.mp (List.getElem_mem hjr)
  have hle : lenS (xs.reverse.take j ++ [xs.reverse[j]]) ≤ lenS xs := by
    have e1 : xs.reverse.take j ++ [xs.reverse[j]] = xs.reverse.take (j + 1) := by rw [List.take_add_one, e]; rfl
    have e2 : lenS xs = lenS (xs.reverse.take (j + 1)) + lenS (xs.reverse.drop (j + 1)) := by
      rw [← lenS_rev]
      have : xs.reverse = xs.reverse.take (j + 1) ++ xs.reverse.drop (j + 1) := (List.take_append_drop _ _).symm
      unfold lenS
      rw [← List.sum_append, ← List.map_append, List.take_append_drop]
    rw [e1]
    omega
  rw [List.getD_eq_getElem?_getD, e]
  rw [lenS_snoc] at hle
  have mono : ∀ {a b : Nat}, a ≤ b → (27 : Int) ^ a ≤ 27 ^ b := fun h => by exact_mod_cast Nat.pow_le_pow_right (by decide) h
  rcases hx _ hxm with ⟨b, h, _⟩ | ⟨w, h, _, w1, w2⟩
  · rw [h] at hle ⊢
    exact ⟨Int.le_of_lt (pow27_pos _), mono (by show lenS (xs.reverse.take j) ≤ _; omega)⟩
  · rw [h] at hle ⊢
    have hb := numL_bound _ (ItP.small (n := 0) w1)
    rw [len_toList] at hb
    refine ⟨Int.mul_nonneg (Int.le_of_lt (pow27_pos _)) hb.1, ?_⟩
    refine Int.le_trans (Int.mul_le_mul_of_nonneg_left (Int.le_of_lt hb.2) (Int.le_of_lt (pow27_pos _))) ?_
    rw [← Int.pow_add]
    exact mono hle
theorem choice_small {m : Nat} {xs : List D} (hx : ∀ x ∈ xs, ItP m x) (hl : lenS xs ≤ 10) : ∀ l ∈ choices m xs, ∀ t ∈ l, smallI t.1 = true := fun l hm t ht => by
  have big : (27 : Int) ^ lenS xs < 2 ^ 64 := by
    have : ∀ n, n ≤ 10 → (27 : Int) ^ n < 2 ^ 64 := by decide
    exact this _ hl
  have pos := pow27_pos (lenS xs)
  unfold choices at hm
  simp only [List.mem_cons, List.not_mem_nil, or_false] at hm
  rcases hm with rfl | rfl | rfl
  · rw [List.mem_singleton.mp ht]
    decide
  · rw [List.mem_singleton.mp ht]
    exact decide_eq_true ⟨by show _ < (27 : Int) ^ lenS xs; omega, big⟩
  · have := tmAt_small hx hl t ht
    exact decide_eq_true ⟨by omega, by omega⟩
/-! ### lists of lists of terms in the store -/
def RT (S : Store) : List D → List (List Tm) → Prop
  | [], [] => True
  | .ref r :: ds, l :: ls => S[r]? = some (.lst (l.map tD)) ∧ RT S ds ls
  | _, _ => False
theorem RT.cases {S : Store} {d : D} {ds : List D} {ls : List (List Tm)} (h : RT S (d :: ds) ls) : ∃ r l ls', d = .ref r ∧ ls = l :: ls' ∧ S[r]? = some (.lst (l.map tD)) ∧ RT S ds ls' := by
  cases d with
  | ref r =>
    cases ls with
    | nil => exact h.elim
    | cons l ls => exact ⟨r, l, ls, rfl, rfl, h.1, h.2⟩
  | _ => cases ls <;> exact h.elim
theorem RT.length {S : Store} : ∀ {ds : List D} {ls : List (List Tm)}, RT S ds ls → ds.length = ls.length
  | [], [], _ => rfl
  | [], _ :: _, h => h.elim
  | d :: ds, ls, h => by
    obtain ⟨r, l, ls', rfl, rfl, _, h2⟩ := h.cases
    rw [List.length_cons, List.length_cons, RT.length h2]
theorem RT.grow {S S' : Store} (g : ∀ (r : Nat) (o : MO), S[r]? = some o → (∃ l : List Tm, o = .lst (l.map tD)) → S'[r]? = some o) : ∀ {ds : List D} {ls : List (List Tm)}, RT S ds ls → RT S' ds ls
  | [], [], _ => trivial
  | [], _ :: _, h => h.elim
  | d :: ds, ls, h => by
    obtain ⟨r, l, ls', rfl, rfl, h1, h2⟩ := h.cases
    exact ⟨g r _ h1 ⟨l, rfl⟩, RT.grow g h2⟩
theorem RT.snoc {S : Store} {r : Nat} {l : List Tm} (h1 : S[r]? = some (.lst (l.map tD))) : ∀ {ds : List D} {ls : List (List Tm)}, RT S ds ls → RT S (ds ++ [.ref r]) (ls ++ [l])
  | [], [], _ => ⟨h1, trivial⟩
  | [], _ :: _, h => h.elim
  | d :: ds, ls, h => by
    obtain ⟨r', l', ls', rfl, rfl, g1, g2⟩ := h.cases
    exact ⟨g1, RT.snoc h1 g2⟩
theorem RT.get {S : Store} : ∀ {ds : List D} {ls : List (List Tm)} {i : Nat} {d : D}, RT S ds ls → ds[i]? = some d → ∃ r l, d = .ref r ∧ ls[i]? = some l ∧ S[r]? = some (.lst (l.map tD))
  | [], _, _, _, _, e => by simp at e
  | d :: ds, ls, i, x, h, e => by
    obtain ⟨r, l, ls', rfl, rfl, g1, g2⟩ := h.cases
    cases i with
    | zero =>
      rw [List.getElem?_cons_zero] at e
      cases e
      exact ⟨r, l, rfl, rfl, g1⟩
    | succ i =>
      rw [List.getElem?_cons_succ] at e ⊢
      exact RT.get g2 e
theorem tmul_len {l1 l2 : List Tm} {a b : Nat} (h1 : l1.length ≤ a) (h2 : l2.length ≤ b) : (tmul l1 l2).length ≤ a * b := by
  have : ∀ l : List Tm, (l.flatMap fun a => l2.map (tm2 a)).length = l.length * l2.length := fun l => by
    induction l with
    | nil => simp
    | cons x r ih => rw [List.flatMap_cons, List.length_append, ih, List.length_map, List.length_cons, Nat.succ_mul, Nat.add_comm]
  unfold tmul
  rw [this]
  exact Nat.mul_le_mul h1 h2
def envM (env : SEnv) (p q : Option D) : SEnv := ((wipeE env [7, 8, 9, 10]).set 7 p).set 8 q
def envM2 (env : SEnv) (p q x y : Option D) : SEnv := ((wipeE (envM env p q) [9, 10]).set 9 x).set 10 y
/-- the product of two lists of terms, as the program makes it -/
theorem mul_lc {a b : Nat} {l1 l2 : List Tm} {env : SEnv} {S : Store} {Q : D → Store → Prop} (ha : S[a]? = some (.lst (l1.map tD))) (hb : S[b]? = some (.lst (l2.map tD))) (hl1 : l1.length ≤ 1000) (hl2 : l2.length ≤ 9) (hs : ∀ t ∈ l2, smallI t.1 = true)
    (h5 : env[5]? = some (some (.ref a))) (h6 : ∀ x y, (envM env x y)[6]? = some (some (.ref b)))
    (hv : ∀ (p q x y : Option D), (envM2 env p q x y)[7]? = some p ∧ (envM2 env p q x y)[8]? = some q ∧ (envM2 env p q x y)[9]? = some x ∧ (envM2 env p q x y)[10]? = some y)
    (k : ∀ S', Grow S S' → S'[S.length]? = some (.lst ((tmul l1 l2).map tD)) → Q (.ref S.length) S') :
    wp (eLc2 (iAnyM (eVar 5)) (gTupM 2 (gsCons (gN 7) (gsCons (gN 8) (gsNil)))) (bYes) (iAnyM (eVar 6)) (gTupM 2 (gsCons (gN 9) (gsCons (gN 10) (gsNil)))) (bYes) (eTup (aCons (eOp mulX (eVar 7) (eVar 9)) (aCons (eOp addD (eVar 8) (eVar 10)) (aNil)))) [7, 8, 9, 10] [9, 10] env) S Q := by
  have htl : ∀ i, ((l1.take i).flatMap fun a => l2.map (tm2 a)).length ≤ 9000 := fun i => by
    have := tmul_len (l1 := l1.take i) (l2 := l2) (a := 1000) (b := 9) (by rw [List.length_take]; omega) hl2
    exact this
  refine wp_lc2 (xs := l1.map tD) (g := [(a, l1.map tD)]) (S1 := S) (fun _ => l2.map tD) (fun _ => [(b, l2.map tD)]) (any_ref h5 ha) (fun i j acc S3 => acc = (((l1.take i).flatMap fun a => l2.map (tm2 a)) ++ (l2.take j).map (tm2 (l1.getD i (0, 0)))).map tD ∧ S3[S.length]? = some (.lst acc) ∧ Grow S S3) ⟨rfl, get_new, Grow.refl.app⟩ (fun _ _ _ _ h => h.2.1) (fun _ _ _ _ h => gd_grow ha h.2.2) (fun _ _ _ _ _ h => gd_grow hb h.2.2) ?_ ?_ ?_ ?_
  · rintro i j acc S3 ⟨rfl, _, _⟩
    rw [List.length_map, List.length_append, List.length_map]
    have := htl i
    exact sz_lt (by rw [List.length_take]; omega)
  · rintro i acc S3 hi ⟨rfl, hk, hG⟩
    rw [List.length_map] at hi hk ⊢
    refine ⟨?_, hk, hG⟩
    congr 1
    rw [List.take_length, List.take_zero, List.map_nil, List.append_nil, List.take_add_one, List.getElem?_eq_getElem hi, List.flatMap_append]
    rw [List.getD_eq_getElem?_getD, List.getElem?_eq_getElem hi]
    simp
  · rintro i x acc S3 hx ⟨rfl, hk, hG⟩
    rw [List.getElem?_map] at hx
    obtain ⟨t, ht, rfl⟩ := Option.map_eq_some_iff.mp hx
    obtain ⟨hi, ht'⟩ := List.getElem?_eq_some_iff.mp ht
    have hgd : l1.getD i (0, 0) = t := by rw [List.getD_eq_getElem?_getD, ht]; rfl
    rw [show tD t = D.tup [.int t.1, .int (t.2 : Nat)] from rfl, w_gTup, w_gsCons, w_gN, w_gsCons, w_gN, w_gsNil]
    refine ⟨rfl, ?_⟩
    rw [w_anyI, w_var]
    refine ⟨_, h6 _ _, ((l2.map tD), [(b, l2.map tD)]), srcOf_ref (hG.get hb), rfl, rfl, ?_⟩
    rintro j y acc S4 hy ⟨rfl, hk4, hG4⟩
    rw [List.getElem?_map] at hy
    obtain ⟨u, hu, rfl⟩ := Option.map_eq_some_iff.mp hy
    have htk : l2.take (j + 1) = l2.take j ++ [u] := by rw [List.take_add_one, hu]; rfl
    have hum := hs u (List.mem_of_getElem? hu)
    rw [show tD u = D.tup [.int u.1, .int (u.2 : Nat)] from rfl, w_gTup, w_gsCons, w_gN, w_gsCons, w_gN, w_gsNil]
    refine ⟨rfl, ?_⟩
    obtain ⟨v7, v8, v9, v10⟩ := hv (some (.int t.1)) (some (.int (t.2 : Nat))) (some (.int u.1)) (some (.int (u.2 : Nat)))
    rw [w_yes, if_pos rfl, w_tup, w_aCons, w_op, w_var]
    refine ⟨_, v7, ?_⟩
    rw [w_var]
    refine ⟨_, v9, ?_⟩
    rw [w_mulX]
    refine ⟨.inr (.inl hum), ?_⟩
    rw [w_aCons, w_op, w_var]
    refine ⟨_, v8, ?_⟩
    rw [w_var]
    refine ⟨_, v10, ?_⟩
    rw [w_add, w_aNil]
    refine ⟨(by decide : 2 ≤ sizeLine), hk4, ?_, by rw [List.getElem?_set_self (lt_of_get hk4)], hG4.set (Nat.le_refl _)⟩
    rw [htk, hgd, List.map_append (f := tm2 t), ← List.append_assoc, List.map_append (f := tD) (l₂ := [u].map (tm2 t))]
    show _ ++ [D.tup [.int (t.1 * u.1), .int ((t.2 : Int) + (u.2 : Nat))]] = _ ++ [tD (t.1 * u.1, t.2 + u.2)]
    congr 1
  · rintro acc S3 ⟨rfl, hk, hG⟩
    rw [List.length_map, List.take_length, List.take_zero, List.map_nil, List.append_nil] at hk
    exact k S3 hG hk
end TS
set_option Elab.async false
set_option linter.all false
set_option maxRecDepth 100000
set_option maxHeartbeats 2000000
namespace TS
open PySem PySem.Spec PyProof.Rows L2
local macro_rules | `(tactic| walk_at "w") => `(tactic| simp only [w_mulX, w_mulXS, x_isiSS, x_isiIS, x_isiII, x_isiIB, x_isiTT, x_isiNS, x_isTN, x_isSN, x_isIN, x_notTN, x_notSN, x_notIN, x_revX, x_revV, x_revVT, w_ord, w_asBl, w_body, env0, w_seq, w_asg, w_sret, w_retN, w_drop, w_sIf, w_for, w_aug, w_nx, w_brk, w_cnt, w_gN, w_gTup, w_gsCons, w_gsNil, w_gSub, w_var, w_c, w_op, w_un, w_call, w_eMt, w_tup, w_lst, w_aNil, w_aCons, w_asB, w_asT, w_bAnd, w_bOr, w_bNot, w_eAnd, w_eOr, w_eNot, w_eIf, w_eSl, w_pNo, w_pSome, w_chain,
  w_add, w_addT, w_sub, w_mul, w_mod, w_fdiv, w_pow, w_lt, w_le, w_gt, w_ge, w_int, w_min, w_max, w_lenT, w_lenF, w_truB, w_isB, w_notB, w_tyS, w_slT, w_tupT, w_eqI, w_neI, w_eqBl, w_neBl, w_find, w_rg1, w_rg2, w_anyI, w_ixT, w_ixF, w_ixS, w_lenS, w_slS, w_addS, w_disp, w_kNil, w_kCons, w_yes, w_zip, w_ltS1, w_ninS, x_enum, x_geS1, w_par2, w_eLenSet, w_intB, w_notN, w_isN, w_neg,
  List.map_cons, List.map_nil, List.length_cons, List.length_nil, List.replicate, List.cons_append, List.nil_append, List.getElem?_cons_zero, List.getElem?_cons_succ, List.set_cons_zero, List.set_cons_succ, Nat.reduceAdd, Nat.reduceSub, Nat.sub_self, Nat.sub_zero,
  Option.some.injEq, exists_eq_left', D.bl.injEq, D.int.injEq, rgOf_1, rgOf2_2, and_true, true_and])
local macro_rules | `(tactic| walk_at "v") => `(tactic| simp only [w_mulX, w_mulXS, x_isiSS, x_isiIS, x_isiII, x_isiIB, x_isiTT, x_isiNS, x_isTN, x_isSN, x_isIN, x_notTN, x_notSN, x_notIN, x_revX, x_revV, x_revVT, w_ord, w_asBl, env0, w_asg, w_sret, w_retN, w_drop, w_for, w_aug, w_nx, w_brk, w_cnt, w_gN, w_gTup, w_gsCons, w_gsNil, w_gSub, w_var, w_c, w_op, w_un, w_call, w_eMt, w_tup, w_lst, w_aNil, w_aCons, w_asB, w_asT, w_bAnd, w_bOr, w_bNot, w_eAnd, w_eOr, w_eNot, w_eIf, w_eSl, w_pNo, w_pSome, w_chain,
  w_add, w_addT, w_sub, w_mul, w_mod, w_fdiv, w_pow, w_lt, w_le, w_gt, w_ge, w_int, w_min, w_max, w_lenT, w_lenF, w_truB, w_isB, w_notB, w_tyS, w_slT, w_tupT, w_eqI, w_neI, w_eqBl, w_neBl, w_find, w_rg1, w_rg2, w_anyI, w_ixT, w_ixF, w_ixS, w_lenS, w_slS, w_addS, w_disp, w_kNil, w_kCons, w_yes, w_zip, w_ltS1, w_ninS, x_enum, x_geS1, w_par2, w_eLenSet, w_intB, w_notN, w_isN, w_neg,
  List.map_cons, List.map_nil, List.length_cons, List.length_nil, List.replicate, List.cons_append, List.nil_append, List.getElem?_cons_zero, List.getElem?_cons_succ, List.set_cons_zero, List.set_cons_succ, Nat.reduceAdd, Nat.reduceSub, Nat.sub_self, Nat.sub_zero,
  Option.some.injEq, exists_eq_left', D.bl.injEq, D.int.injEq, rgOf_1, rgOf2_2, and_true, true_and])
theorem RT.growG {S S' : Store} (g : Grow S S') {ds : List D} {ls : List (List Tm)} (h : RT S ds ls) : RT S' ds ls := RT.grow (fun r o e _ => g.get e) h
theorem RT.lt {S : Store} : ∀ {ds : List D} {ls : List (List Tm)}, RT S ds ls → ∀ r, .ref r ∈ ds → r < S.length
  | [], _, _, r, h => nomatch h
  | d :: ds, ls, h, r, hm => by
    obtain ⟨r', l, ls', rfl, rfl, h1, h2⟩ := h.cases
    rcases List.mem_cons.mp hm with e | hm
    · cases e
      exact lt_of_get h1
    · exact RT.lt h2 r hm
theorem RT.setk {S : Store} {k : Nat} {o : MO} : ∀ {ds : List D} {ls : List (List Tm)}, RT S ds ls → (∀ r, .ref r ∈ ds → r ≠ k) → RT (S.set k o) ds ls
  | [], [], _, _ => trivial
  | [], _ :: _, h, _ => h.elim
  | d :: ds, ls, h, hn => by
    obtain ⟨r', l, ls', rfl, rfl, h1, h2⟩ := h.cases
    refine ⟨?_, RT.setk h2 fun r hr => hn r (List.mem_cons_of_mem _ hr)⟩
    rw [List.getElem?_set_ne (Ne.symm (hn r' (List.mem_cons_self ..)))]
    exact h1
theorem flat3 {chs : List (List Tm)} {f : List Tm → List Tm → List Tm} : ∀ ls : List (List Tm), (ls.flatMap fun ts => chs.map (f ts)).length = ls.length * chs.length
  | [] => by simp
  | l :: ls => by rw [List.flatMap_cons, List.length_append, flat3 ls, List.length_map, List.length_cons, Nat.succ_mul, Nat.add_comm]
theorem next_len {m i : Nat} {ls : List (List Tm)} {row : D} (hr : RowOk m row) (h1 : ls.length ≤ 3 ^ i) (h2 : ∀ l ∈ ls, l.length ≤ 9 ^ i) : (nextT m ls row).length ≤ 3 ^ (i + 1) ∧ ∀ l ∈ nextT m ls row, l.length ≤ 9 ^ (i + 1) := by
  obtain ⟨xs, rfl, _, h3, _⟩ := hr
  refine ⟨?_, fun l hl => ?_⟩
  · unfold nextT
    rw [flat3, Nat.pow_succ]
    exact Nat.mul_le_mul h1 (by show 3 ≤ 3; decide)
  · unfold nextT at hl
    obtain ⟨ts, ht, hl⟩ := List.mem_flatMap.mp hl
    obtain ⟨c, hc, rfl⟩ := List.mem_map.mp hl
    rw [Nat.pow_succ]
    refine tmul_len (h2 ts ht) ?_
    unfold choices at hc
    simp only [List.mem_cons, List.not_mem_nil, or_false] at hc
    rcases hc with rfl | rfl | rfl
    · show 1 ≤ 9
      decide
    · show 1 ≤ 9
      decide
    · unfold ntOf ntR
      rw [List.length_map, List.length_range]
      exact h3
theorem step_terms_ok {m : Nat} {rows : List D} {S : Store} {Q : D → Store → Prop} (hr : ∀ d ∈ rows, RowOk m d) (hl : rows.length = m) (hm : m ≤ 4) (k : ∀ F ds S', Grow S S' → S'[F]? = some (.lst ds) → RT S' ds (stT m rows) → Q (.ref F) S') : wp (m_step_terms [.tup rows]) S Q := by
  unfold m_step_terms f_step_terms
  rw [w_body]
  refine w_seqA ?_
  walk_at "v"
  rw [hl]
  refine powers_ok (by omega) fun P S1 hG1 _ hP => ?_
  refine w_seqA ?_
  walk_at "v"
  refine ⟨by decide, by decide, by decide, ?_⟩
  have t0 : (S1 ++ [MO.lst [.tup [.int 1, .int 0]]])[S1.length]? = some (.lst ([((1, 0) : Tm)].map tD)) := get_new
  have hG2 : Grow S1 (S1 ++ [MO.lst [.tup [.int 1, .int 0]]]) := Grow.refl.app
  generalize S1 ++ [MO.lst [.tup [.int 1, .int 0]]] = S2 at t0 hG2 ⊢
  walk_at "w"
  refine ⟨_, rfl, ?_⟩
  refine wp_loop (fun i env S3 => ∃ (F : Nat) (ds : List D) (a3 a4 : Option D), env = [some (.tup rows), some (.ref P), some (.ref F), a3, a4, none, none, none, none, none, none] ∧ S3[F]? = some (.lst ds) ∧ RT S3 ds (stT m (rows.take i)) ∧ (stT m (rows.take i)).length ≤ 3 ^ i ∧ (∀ l ∈ stT m (rows.take i), l.length ≤ 9 ^ i) ∧ Grow S1 S3) (fun _ _ _ _ => gdOk_nil _) ?_ ?_ ⟨S2.length, [.ref S1.length], _, _, rfl, get_new, ⟨by rw [List.getElem?_append_left (lt_of_get t0)]; exact t0, trivial⟩, (by show 1 ≤ 1; decide), (fun l hl => by rw [List.mem_singleton.mp hl]; decide), hG2.app⟩
  · rintro i x env S3 hi ⟨F, ds, a3, a4, rfl, hF, hRT, hn1, hn2, hG3⟩
    have hi' : rows[i]? = some x := hi
    have hil := (List.getElem?_eq_some_iff.mp hi').1
    have hrow := hr x (List.mem_of_getElem? hi')
    have htk : rows.take (i + 1) = rows.take i ++ [x] := by rw [List.take_add_one, hi']; rfl
    have hst : stT m (rows.take (i + 1)) = nextT m (stT m (rows.take i)) x := by
      rw [htk]
      unfold stT
      rw [List.foldl_append]
      rfl
    have hnl := next_len hrow hn1 hn2
    rw [← hst] at hnl
    obtain ⟨xs, rfl, hx1, hx2, hx3⟩ := id hrow
    generalize hls : stT m (rows.take i) = ls at hst hn1 hn2 hRT
    have hi3 : 3 ^ i ≤ 27 := by
      have : ∀ i, i < 4 → 3 ^ i ≤ 27 := by decide
      exact this i (by omega)
    have hi9 : 9 ^ i ≤ 729 := by
      have : ∀ i, i < 4 → 9 ^ i ≤ 729 := by decide
      exact this i (by omega)
    walk_at "v"
    refine w_seqA ?_
    walk_at "v"
    refine ⟨by decide, by decide, ?_⟩
    have c1 : (S3 ++ [MO.lst [.tup [.int 1, .int 0]]])[S3.length]? = some (.lst ([((1, 0) : Tm)].map tD)) := get_new
    have g1 : Grow S3 (S3 ++ [MO.lst [.tup [.int 1, .int 0]]]) := Grow.refl.app
    generalize S3 ++ [MO.lst [.tup [.int 1, .int 0]]] = S4 at c1 g1 ⊢
    refine weight_terms_ok hx1 (by omega) (g1.get (hG3.get hP)) ?_
    have c2 : (S4 ++ [MO.lst [tD (wtOf m xs)]])[S4.length]? = some (.lst ([wtOf m xs].map tD)) := get_new
    have g2 : Grow S4 (S4 ++ [MO.lst [tD (wtOf m xs)]]) := Grow.refl.app
    generalize S4 ++ [MO.lst [tD (wtOf m xs)]] = S5 at c2 g2 ⊢
    refine number_terms_ok hx1 (by omega) (g2.get (g1.get (hG3.get hP))) ?_
    have c3 : (S5 ++ [MO.lst ((ntOf m xs).map tD)])[S5.length]? = some (.lst ((ntOf m xs).map tD)) := get_new
    have g3 : Grow S5 (S5 ++ [MO.lst ((ntOf m xs).map tD)]) := Grow.refl.app
    generalize S5 ++ [MO.lst ((ntOf m xs).map tD)] = S6 at c3 g3 ⊢
    have gS := g1.trans (g2.trans g3)
    have hch : RT S6 [.ref S3.length, .ref S4.length, .ref S5.length] (choices m xs) := ⟨g3.get (g2.get c1), g3.get c2, c3, trivial⟩
    have hRT6 := hRT.growG gS
    have hF6 := gS.get hF
    refine ⟨by decide, ?_⟩
    have hdl := hRT6.length
    refine wp_lc2 (xs := ds) (g := [(F, ds)]) (S1 := S6) (fun _ => [.ref S3.length, .ref S4.length, .ref S5.length]) (fun _ => []) (any_ref rfl hF6) (fun i j acc S7 => RT S7 acc (((ls.take i).flatMap fun ts => (choices m xs).map (tmul ts)) ++ ((choices m xs).take j).map (tmul (ls.getD i []))) ∧ S7[S6.length]? = some (.lst acc) ∧ Grow S6 S7 ∧ ∀ r, .ref r ∈ acc → r ≠ S6.length) ⟨trivial, get_new, Grow.refl.app, fun _ h => nomatch h⟩ (fun _ _ _ _ h => h.2.1) (fun _ _ _ _ h => gd_grow hF6 h.2.2.1) (fun _ _ _ _ _ _ => gdOk_nil _) ?_ ?_ ?_ ?_
    · rintro i j acc S7 ⟨h1, _⟩
      have := h1.length
      rw [List.length_append, List.length_map, flat3, List.length_take, List.length_take] at this
      have h3 : (choices m xs).length = 3 := rfl
      rw [h3] at this
      have : min i ls.length * 3 ≤ 27 * 3 := Nat.mul_le_mul (by omega) (Nat.le_refl _)
      exact sz_lt (by omega)
    · rintro i acc S7 hi ⟨h1, h2, h3, h4⟩
      refine ⟨?_, h2, h3, h4⟩
      have hi2 : i < ls.length := by omega
      have h3c : ([D.ref S3.length, .ref S4.length, .ref S5.length] : List D).length = (choices m xs).length := rfl
      rw [h3c, List.take_length] at h1
      rw [List.take_zero, List.map_nil, List.append_nil, List.take_add_one, List.getElem?_eq_getElem hi2, List.flatMap_append]
      rw [List.getD_eq_getElem?_getD, List.getElem?_eq_getElem hi2] at h1
      simpa using h1
    · rintro i' x acc S7 hx ⟨h1, h2, h3, h4⟩
      obtain ⟨r, l, rfl, hl1, hl2⟩ := hRT6.get hx
      have hgd : ls.getD i' [] = l := by rw [List.getD_eq_getElem?_getD, hl1]; rfl
      simp only [wipeE]
      walk_at "w"
      refine ⟨_, rfl, rfl, ?_⟩
      rintro j y acc S8 hy ⟨h5, h6, h7, h8⟩
      obtain ⟨c, l2, rfl, hc1, hc2⟩ := hch.get hy
      have hjl := (List.getElem?_eq_some_iff.mp hc1).1
      have hcm := List.mem_of_getElem? hc1
      have hl29 : l2.length ≤ 9 := by
        unfold choices at hcm
        simp only [List.mem_cons, List.not_mem_nil, or_false] at hcm
        rcases hcm with rfl | rfl | rfl
        · show 1 ≤ 9; decide
        · show 1 ≤ 9; decide
        · unfold ntOf ntR
          rw [List.length_map, List.length_range]
          exact hx2
      have htk2 : (choices m xs).take (j + 1) = (choices m xs).take j ++ [l2] := by rw [List.take_add_one, hc1]; rfl
      refine mul_lc (h7.get hl2) (h7.get hc2) (by have := hn2 l (List.mem_of_getElem? hl1); omega) hl29 (choice_small hx1 hx3 l2 hcm) rfl (fun _ _ => rfl) (fun _ _ _ _ => ⟨rfl, rfl, rfl, rfl⟩) fun S9 hG9 h9 => ?_
      have hlt := lt_of_get h6
      refine ⟨hG9.get h6, ?_, List.getElem?_set_self (lt_of_get (hG9.get h6)), (h7.trans hG9).set (Nat.le_refl _), fun r hr => ?_⟩
      · rw [htk2, hgd, List.map_append, ← List.append_assoc]
        rw [hgd] at h5
        refine RT.snoc ?_ ((h5.growG hG9).setk h8)
        rw [List.getElem?_set_ne (by omega)]
        exact h9
      · rcases List.mem_append.mp hr with hr | hr
        · exact h8 r hr
        · have := List.mem_singleton.mp hr
          cases this
          omega
    · rintro acc S7 ⟨h1, h2, h3, h4⟩
      have h1' : RT S7 acc (stT m (rows.take (i + 1))) := by
        rw [hst]
        unfold nextT
        rw [hdl, List.take_length, List.take_zero, List.map_nil, List.append_nil] at h1
        exact h1
      exact ⟨_, acc, _, _, rfl, h2, h1', hnl.1, hnl.2, hG3.trans (gS.trans h3)⟩
  · rintro env S3 ⟨F, ds, a3, a4, rfl, hF, hRT, hn1, hn2, hG3⟩
    rw [List.take_length] at hRT
    walk_at "w"
    exact k F ds S3 (hG1.trans hG3) hF hRT
end TS
set_option Elab.async false
set_option linter.all false
set_option maxRecDepth 100000
set_option maxHeartbeats 2000000
namespace TS
open PySem PySem.Spec PyProof.Rows L2
local macro_rules | `(tactic| walk_at "w") => `(tactic| simp only [w_mulX, w_mulXS, x_isiSS, x_isiIS, x_isiII, x_isiIB, x_isiTT, x_isiNS, x_isTN, x_isSN, x_isIN, x_notTN, x_notSN, x_notIN, x_revX, x_revV, x_revVT, w_ord, w_asBl, w_body, env0, w_seq, w_asg, w_sret, w_retN, w_drop, w_sIf, w_for, w_aug, w_nx, w_brk, w_cnt, w_gN, w_gTup, w_gsCons, w_gsNil, w_gSub, w_var, w_c, w_op, w_un, w_call, w_eMt, w_tup, w_lst, w_aNil, w_aCons, w_asB, w_asT, w_bAnd, w_bOr, w_bNot, w_eAnd, w_eOr, w_eNot, w_eIf, w_eSl, w_pNo, w_pSome, w_chain,
  w_add, w_addT, w_sub, w_mul, w_mod, w_fdiv, w_pow, w_lt, w_le, w_gt, w_ge, w_int, w_min, w_max, w_lenT, w_lenF, w_truB, w_isB, w_notB, w_tyS, w_slT, w_tupT, w_eqI, w_neI, w_eqBl, w_neBl, w_find, w_rg1, w_rg2, w_anyI, w_ixT, w_ixF, w_ixS, w_lenS, w_slS, w_addS, w_disp, w_kNil, w_kCons, w_yes, w_zip, w_ltS1, w_ninS, x_enum, x_geS1, w_par2, w_eLenSet, w_intB, w_notN, w_isN, w_neg,
  List.map_cons, List.map_nil, List.length_cons, List.length_nil, List.replicate, List.cons_append, List.nil_append, List.getElem?_cons_zero, List.getElem?_cons_succ, List.set_cons_zero, List.set_cons_succ, Nat.reduceAdd, Nat.reduceSub, Nat.sub_self, Nat.sub_zero,
  Option.some.injEq, exists_eq_left', D.bl.injEq, D.int.injEq, rgOf_1, rgOf2_2, and_true, true_and])
local macro_rules | `(tactic| walk_at "v") => `(tactic| simp only [w_mulX, w_mulXS, x_isiSS, x_isiIS, x_isiII, x_isiIB, x_isiTT, x_isiNS, x_isTN, x_isSN, x_isIN, x_notTN, x_notSN, x_notIN, x_revX, x_revV, x_revVT, w_ord, w_asBl, env0, w_asg, w_sret, w_retN, w_drop, w_for, w_aug, w_nx, w_brk, w_cnt, w_gN, w_gTup, w_gsCons, w_gsNil, w_gSub, w_var, w_c, w_op, w_un, w_call, w_eMt, w_tup, w_lst, w_aNil, w_aCons, w_asB, w_asT, w_bAnd, w_bOr, w_bNot, w_eAnd, w_eOr, w_eNot, w_eIf, w_eSl, w_pNo, w_pSome, w_chain,
  w_add, w_addT, w_sub, w_mul, w_mod, w_fdiv, w_pow, w_lt, w_le, w_gt, w_ge, w_int, w_min, w_max, w_lenT, w_lenF, w_truB, w_isB, w_notB, w_tyS, w_slT, w_tupT, w_eqI, w_neI, w_eqBl, w_neBl, w_find, w_rg1, w_rg2, w_anyI, w_ixT, w_ixF, w_ixS, w_lenS, w_slS, w_addS, w_disp, w_kNil, w_kCons, w_yes, w_zip, w_ltS1, w_ninS, x_enum, x_geS1, w_par2, w_eLenSet, w_intB, w_notN, w_isN, w_neg,
  List.map_cons, List.map_nil, List.length_cons, List.length_nil, List.replicate, List.cons_append, List.nil_append, List.getElem?_cons_zero, List.getElem?_cons_succ, List.set_cons_zero, List.set_cons_succ, Nat.reduceAdd, Nat.reduceSub, Nat.sub_self, Nat.sub_zero,
  Option.some.injEq, exists_eq_left', D.bl.injEq, D.int.injEq, rgOf_1, rgOf2_2, and_true, true_and])
/-! ### the image of a vector -/
def vsum (v : List Int) (ts : List Tm) : Int := (ts.map fun t => t.1 * v.getD t.2 0).sum
def imgL (v : List Int) (ls : List (List Tm)) : List Int := ls.map (vsum v)
/-- what a sum over terms asks: indices in range, factors or members that may be multiplied -/
def FitT (v : List Int) (ts : List Tm) : Prop := ts.length ≤ 90000 ∧ ∀ t ∈ ts, t.2 < v.length ∧ (smallI t.1 = true ∨ smallI (v.getD t.2 0) = true ∨ wideI t.1 (v.getD t.2 0) = true)
theorem sum_lc {fi : SEnv → M (List D × Gd)} {sv s1 s2 : Nat} {v : List Int} {ts : List Tm} {g : Gd} {env : SEnv} {S : Store} {Q : D → Store → Prop} (hfit : FitT v ts) (hfi : fi env S = some ((ts.map tD, g), S)) (hg : ∀ S', Grow S S' → gdOk S' g)
    (hv : ∀ p q, (((wipeE env [s1, s2]).set s1 p).set s2 q)[sv]? = some (some (.tup (v.map .int))) ∧ (((wipeE env [s1, s2]).set s1 p).set s2 q)[s1]? = some p ∧ (((wipeE env [s1, s2]).set s1 p).set s2 q)[s2]? = some q)
    (k : ∀ S', Grow S S' → Q (.int (vsum v ts)) S') : wp (eCall nSum (aCons (eLc fi (gTupM 2 (gsCons (gN s1) (gsCons (gN s2) (gsNil)))) (bYes) (eOp mulX (eVar s1) (eOp ixU (eVar sv) (eVar s2))) [s1, s2]) (aNil)) env) S Q := by
  rw [w_call, w_aCons]
  refine w_lcG (xs := ts.map tD) (g := g) (fun d => match d with | .tup [.int a, .int b] => .int (a * v.getD b.toNat 0) | d => d) hfi hg (sz_lt (by rw [List.length_map]; have := hfit.1; omega)) (fun i x S1 hi hG => ?_) fun S1 hG1 hS1 => ?_
  · rw [List.getElem?_map] at hi
    obtain ⟨t, ht, rfl⟩ := Option.map_eq_some_iff.mp hi
    obtain ⟨h1, h2⟩ := hfit.2 t (List.mem_of_getElem? ht)
    obtain ⟨v1, v2, v3⟩ := hv (some (.int t.1)) (some (.int (t.2 : Nat)))
    rw [show tD t = D.tup [.int t.1, .int (t.2 : Nat)] from rfl, w_gTup, w_gsCons, w_gN, w_gsCons, w_gN, w_gsNil]
    refine ⟨rfl, ?_⟩
    rw [w_op, w_var]
    refine ⟨_, v2, ?_⟩
    rw [w_op, w_var]
    refine ⟨_, v1, ?_⟩
    rw [w_var]
    refine ⟨_, v3, ?_⟩
    rw [w_ixT]
    refine ⟨.int (v.getD t.2 0), atI_nat (by rw [List.getElem?_map, List.getElem?_eq_getElem h1, List.getD_eq_getElem?_getD, List.getElem?_eq_getElem h1]; rfl), ?_⟩
    rw [w_mulX]
    exact ⟨h2, rfl, .refl⟩
  · have e : (ts.map tD).map (fun d => match d with | .tup [.int a, .int b] => D.int (a * v.getD b.toNat 0) | d => d) = (ts.map fun t => t.1 * v.getD t.2 0).map .int := by
      rw [List.map_map, List.map_map]
      rfl
    rw [e] at hS1
    rw [w_aNil, w_sumL hS1]
    exact k S1 hG1
theorem image_ok {F : Nat} {v : List Int} {ds : List D} {ls : List (List Tm)} {S : Store} {Q : D → Store → Prop} (hF : S[F]? = some (.lst ds)) (hRT : RT S ds ls) (hl : ls.length ≤ 1000) (hfit : ∀ l ∈ ls, FitT v l) (k : ∀ S', Grow S S' → Q (.tup ((imgL v ls).map .int)) S') : wp (m_image [.tup (v.map .int), .ref F]) S Q := by
  unfold m_image f_image
  have hdl := hRT.length
  rw [w_body, w_sret, w_call, w_aCons]
  refine wp_lc (xs := ds) (g := [(F, ds)]) (S1 := S) (any_ref rfl hF) (fun j acc S3 => acc = ((ls.take j).map (vsum v)).map .int ∧ S3[S.length]? = some (.lst acc) ∧ Grow S S3) ⟨rfl, get_new, Grow.refl.app⟩ (fun _ _ _ h => h.2.1) (fun _ _ _ h => gd_grow hF h.2.2) (fun j acc S3 h => by rw [h.1, List.length_map, List.length_map]; exact List.length_take_le _ _) (sz_lt (by omega)) ?_ ?_
  · rintro i x acc S3 hx ⟨rfl, hk, hG⟩
    obtain ⟨r, l, rfl, hl1, hl2⟩ := hRT.get hx
    have htk : ls.take (i + 1) = ls.take i ++ [l] := by rw [List.take_add_one, hl1]; rfl
    simp only [wipeE]
    rw [w_gN, w_yes, if_pos rfl]
    refine sum_lc (hfit l (List.mem_of_getElem? hl1)) (any_ref rfl (hG.get hl2)) (fun S' g => gd_grow (hG.get hl2) g) (fun _ _ => ⟨rfl, rfl, rfl⟩) fun S4 hG4 => ?_
    refine ⟨hG4.get hk, ?_, List.getElem?_set_self (lt_of_get (hG4.get hk)), (hG.trans hG4).set (Nat.le_refl _)⟩
    rw [htk, List.map_append, List.map_append]
    rfl
  · rintro acc S3 ⟨rfl, hk, hG⟩
    rw [hdl, List.take_length] at hk
    rw [w_aNil, w_tupL hk]
    exact k S3 hG
theorem step_vector_ok {m : Nat} {v : List Int} {rows : List D} {S : Store} {Q : D → Store → Prop} (hr : ∀ d ∈ rows, RowOk m d) (hl : rows.length = m) (hm : m ≤ 4) (hll : (stT m rows).length ≤ 1000) (hfit : ∀ l ∈ stT m rows, FitT v l) (k : ∀ S', Grow S S' → Q (.tup ((imgL v (stT m rows)).map .int)) S') : wp (m_step_vector [.tup (v.map .int), .tup rows]) S Q := by
  unfold m_step_vector f_step_vector
  walk_at "w"
  refine step_terms_ok hr hl hm fun F ds S1 hG1 hF hRT => ?_
  exact image_ok hF hRT hll hfit fun S2 hG2 => k S2 (hG1.trans hG2)
theorem end_number_ok {m : Nat} {v : List Int} {xs : List D} {S : Store} {Q : D → Store → Prop} (hx : ∀ x ∈ xs, ItP m x) (hl : xs.length ≤ 1000) (hv : v.length = 3 ^ m) (hm : m ≤ 4) (hfit : FitT v (ntOf m xs)) (k : ∀ S', Grow S S' → Q (.int (vsum v (ntOf m xs))) S') : wp (m_end_number [.tup (v.map .int), .tup xs]) S Q := by
  unfold m_end_number f_end_number
  rw [w_body]
  refine w_seqA ?_
  walk_at "v"
  refine w_seqA ?_
  walk_at "v"
  refine w_cut (fun env S1 => S1 = S ∧ env = [some (.tup (v.map .int)), some (.tup xs), some (.int (m : Nat)), some (.int ((3 ^ m : Nat) : Int)), none, none]) ?_ ?_
  · rw [w_while]
    have s3 : smallI 3 = true := by decide
    refine wp_while (fun f env S1 => ∃ j, j ≤ m ∧ f = m - j ∧ S1 = S ∧ env = [some (.tup (v.map .int)), some (.tup xs), some (.int (j : Nat)), some (.int ((3 ^ j : Nat) : Int)), none, none]) ?_ 1000000 m _ _ (by omega) ⟨0, Nat.zero_le _, rfl, rfl, rfl⟩
    rintro f env S1 ⟨j, hj, rfl, rfl, rfl⟩
    have hvl : ((v.map D.int).length : Nat) = 3 ^ m := by rw [List.length_map]; exact hv
    walk_at "w"
    rw [hvl]
    by_cases c : j = m
    · subst c
      rw [if_neg (by simp)]
    · have hlt : 3 ^ j < 3 ^ m := Nat.pow_lt_pow_right (by decide) (by omega)
      rw [if_pos (decide_eq_true (by omega))]
      rw [w_iadd]
      walk_at "w"
      have e3 : ((3 ^ (j + 1) : Nat) : Int) = 3 * ((3 ^ j : Nat) : Int) := by
        rw [Nat.pow_succ]
        push_cast
        rw [Int.mul_comm]
      refine ⟨.inl s3, m - (j + 1), by omega, j + 1, by omega, rfl, ?_⟩
      rw [e3]
      rfl
  rintro _ S1 ⟨rfl, rfl⟩
  rw [w_sret, w_call, w_aCons, w_lcF]
  walk_at "w"
  refine powers_ok (by omega) fun P S2 hG2 _ hP => ?_
  refine number_terms_ok hx hl hP ?_
  have hn : (S2 ++ [MO.lst ((ntOf m xs).map tD)])[S2.length]? = some (.lst ((ntOf m xs).map tD)) := get_new
  refine ⟨_, srcOf_ref hn, ?_⟩
  have q := sum_lc (fi := fun _ => ret ((ntOf m xs).map tD, [(S2.length, (ntOf m xs).map tD)])) (sv := 0) (s1 := 4) (s2 := 5) (env := [some (.tup (v.map .int)), some (.tup xs), some (.int (m : Nat)), some (.int ((3 ^ m : Nat) : Int)), none, none]) (Q := Q) hfit rfl (fun S' g => gd_grow hn g) (fun _ _ => ⟨rfl, rfl, rfl⟩) fun S' g => k S' (hG2.app.trans g)
  rw [w_call, w_aCons] at q
  simp only [w_aNil] at q
  exact q
end TS
set_option Elab.async false
set_option linter.all false
set_option maxRecDepth 100000
set_option maxHeartbeats 2000000
namespace TS
open PySem PySem.Spec PyProof.Rows L2
local macro_rules | `(tactic| walk_at "w") => `(tactic| simp only [w_mulX, w_mulXS, x_isiSS, x_isiIS, x_isiII, x_isiIB, x_isiTT, x_isiNS, x_isTN, x_isSN, x_isIN, x_notTN, x_notSN, x_notIN, x_revX, x_revV, x_revVT, w_ord, w_asBl, w_body, env0, w_seq, w_asg, w_sret, w_retN, w_drop, w_sIf, w_for, w_aug, w_nx, w_brk, w_cnt, w_gN, w_gTup, w_gsCons, w_gsNil, w_gSub, w_var, w_c, w_op, w_un, w_call, w_eMt, w_tup, w_lst, w_aNil, w_aCons, w_asB, w_asT, w_bAnd, w_bOr, w_bNot, w_eAnd, w_eOr, w_eNot, w_eIf, w_eSl, w_pNo, w_pSome, w_chain,
  w_add, w_addT, w_sub, w_mul, w_mod, w_fdiv, w_pow, w_lt, w_le, w_gt, w_ge, w_int, w_min, w_max, w_lenT, w_lenF, w_truB, w_isB, w_notB, w_tyS, w_slT, w_tupT, w_eqI, w_neI, w_eqBl, w_neBl, w_find, w_rg1, w_rg2, w_anyI, w_ixT, w_ixF, w_ixS, w_lenS, w_slS, w_addS, w_disp, w_kNil, w_kCons, w_yes, w_zip, w_ltS1, w_ninS, x_enum, x_geS1, w_par2, w_eLenSet, w_intB, w_notN, w_isN, w_neg,
  List.map_cons, List.map_nil, List.length_cons, List.length_nil, List.replicate, List.cons_append, List.nil_append, List.getElem?_cons_zero, List.getElem?_cons_succ, List.set_cons_zero, List.set_cons_succ, Nat.reduceAdd, Nat.reduceSub, Nat.sub_self, Nat.sub_zero,
  Option.some.injEq, exists_eq_left', D.bl.injEq, D.int.injEq, rgOf_1, rgOf2_2, and_true, true_and])
local macro_rules | `(tactic| walk_at "v") => `(tactic| simp only [w_mulX, w_mulXS, x_isiSS, x_isiIS, x_isiII, x_isiIB, x_isiTT, x_isiNS, x_isTN, x_isSN, x_isIN, x_notTN, x_notSN, x_notIN, x_revX, x_revV, x_revVT, w_ord, w_asBl, env0, w_asg, w_sret, w_retN, w_drop, w_for, w_aug, w_nx, w_brk, w_cnt, w_gN, w_gTup, w_gsCons, w_gsNil, w_gSub, w_var, w_c, w_op, w_un, w_call, w_eMt, w_tup, w_lst, w_aNil, w_aCons, w_asB, w_asT, w_bAnd, w_bOr, w_bNot, w_eAnd, w_eOr, w_eNot, w_eIf, w_eSl, w_pNo, w_pSome, w_chain,
  w_add, w_addT, w_sub, w_mul, w_mod, w_fdiv, w_pow, w_lt, w_le, w_gt, w_ge, w_int, w_min, w_max, w_lenT, w_lenF, w_truB, w_isB, w_notB, w_tyS, w_slT, w_tupT, w_eqI, w_neI, w_eqBl, w_neBl, w_find, w_rg1, w_rg2, w_anyI, w_ixT, w_ixF, w_ixS, w_lenS, w_slS, w_addS, w_disp, w_kNil, w_kCons, w_yes, w_zip, w_ltS1, w_ninS, x_enum, x_geS1, w_par2, w_eLenSet, w_intB, w_notN, w_isN, w_neg,
  List.map_cons, List.map_nil, List.length_cons, List.length_nil, List.replicate, List.cons_append, List.nil_append, List.getElem?_cons_zero, List.getElem?_cons_succ, List.set_cons_zero, List.set_cons_succ, Nat.reduceAdd, Nat.reduceSub, Nat.sub_self, Nat.sub_zero,
  Option.some.injEq, exists_eq_left', D.bl.injEq, D.int.injEq, rgOf_1, rgOf2_2, and_true, true_and])
theorem law_number_ok {z : Str} {S : Store} {Q : D → Store → Prop} (h : textQ (.str z) = true) (k : Q (.int (numL z.cps.toList)) S) : wp (m_law_number [.str z]) S Q := by
  unfold m_law_number f_law_number
  walk_at "w"
  refine ⟨_, rfl, ?_⟩
  refine wp_loop (fun i env S1 => ∃ a, env = [some (.str z), some (.int (numL (z.cps.toList.take i))), a] ∧ S1 = S) (fun _ _ _ _ => gdOk_nil _) ?_ ?_ ⟨_, rfl, rfl⟩
  · rintro i x env S1 hx ⟨a, rfl, rfl⟩
    have hx' : (z.cps.toList.map fun c => D.str ⟨#[c]⟩)[i]? = some x := hx
    rw [List.getElem?_map] at hx'
    obtain ⟨c, hc, rfl⟩ := Option.map_eq_some_iff.mp hx'
    have hs := List.all_eq_true.mp (show z.cps.toList.all smallQ = true from h) c (List.mem_of_getElem? hc)
    have hp : place c (Str.ofString "abcdefghijklmnopqrstuvwxyz").cps.toList = some (c - 97) := alpha_place hs
    unfold smallQ at hs
    rw [Bool.and_eq_true, decide_eq_true_iff, decide_eq_true_iff] at hs
    walk_at "w"
    refine ⟨.inl small27, ?_⟩
    rw [w_indexS hp]
    walk_at "w"
    have e : numL (z.cps.toList.take (i + 1)) = 27 * numL (z.cps.toList.take i) + ((c - 97 : Nat) : Int) + 1 := by
      rw [List.take_add_one, hc]
      have := numL_snoc (z.cps.toList.take i) c
      rw [show (some c).toList = [c] from rfl, this]
      omega
    rw [e]
    exact ⟨_, rfl⟩
  · rintro env S1 ⟨a, rfl, rfl⟩
    rw [show (signs z).length = z.cps.toList.length from List.length_map _, List.take_length]
    walk_at "w"
    exact k
theorem law_weight_ok {z : Str} {S : Store} {Q : D → Store → Prop} (k : Q (.int (27 ^ z.length)) S) : wp (m_law_weight [.str z]) S Q := by
  unfold m_law_weight f_law_weight
  walk_at "w"
  refine ⟨_, rfl, ?_⟩
  refine wp_loop (fun i env S1 => ∃ a, env = [some (.str z), some (.int (27 ^ i)), a] ∧ S1 = S) (fun _ _ _ _ => gdOk_nil _) ?_ ?_ ⟨_, rfl, rfl⟩
  · rintro i x env S1 hx ⟨a, rfl, rfl⟩
    walk_at "w"
    exact ⟨.inr (.inl small27), _, by rw [Int.pow_succ]⟩
  · rintro env S1 ⟨a, rfl, rfl⟩
    rw [show (signs z).length = z.length from (List.length_map _).trans (len_toList z)]
    walk_at "w"
    exact k
theorem law_power_ok {n : Nat} {S : Store} {Q : D → Store → Prop} (hn : n ≤ 1000) (k : Q (.int ((3 ^ n : Nat) : Int)) S) : wp (m_law_power [.int (n : Nat)]) S Q := by
  unfold m_law_power f_law_power
  have s3 : smallI 3 = true := by decide
  walk_at "w"
  refine ⟨⟨by omega, by omega⟩, ?_⟩
  rw [show ((n : Nat) : Int).toNat = n from rfl]
  refine wp_loop (fun i env S1 => ∃ a, env = [some (.int (n : Nat)), some (.int ((3 ^ i : Nat) : Int)), a] ∧ S1 = S) (fun _ _ _ _ => gdOk_nil _) ?_ ?_ ⟨_, rfl, rfl⟩
  · rintro i x env S1 hx ⟨a, rfl, rfl⟩
    walk_at "w"
    exact ⟨.inr (.inl s3), _, by rw [Nat.pow_succ]; push_cast; rfl⟩
  · rintro env S1 ⟨a, rfl, rfl⟩
    rw [rng_length]
    walk_at "w"
    exact k
theorem law_takes_ok {m : Nat} {xs : List D} {S : Store} {Q : D → Store → Prop} (hx : ∀ x ∈ xs, ItP m x) (hl : xs.length ≤ 1000) (hm : m ≤ 100) (k : ∀ L S' ds, Grow S S' → S'[L]? = some (.lst ds) → RT S' ds (choices m xs) → S.length ≤ L → (∀ r, .ref r ∈ ds → S.length ≤ r) → Q (.ref L) S') : wp (m_law_takes [.tup xs, .int (m : Nat)]) S Q := by
  unfold m_law_takes f_law_takes
  have s2 : smallI 2 = true := by decide
  rw [w_body]
  refine w_seqA ?_
  walk_at "v"
  refine ⟨by decide, ?_⟩
  refine w_seqA ?_
  walk_at "v"
  refine ⟨by decide, ?_⟩
  refine w_cut (fun env S1 => ∃ (L : Nat) (a4 a5 : Option D), env = [some (.tup xs), some (.int (m : Nat)), some (tD (wtOf m xs)), some (.ref L), a4, a5] ∧ S1[L]? = some (.lst ((ntOf m xs).map tD)) ∧ Grow S S1 ∧ S.length ≤ L) ?_ ?_
  · walk_at "w"
    refine ⟨_, rfl, ?_⟩
    refine wp_loop (fun i env S1 => ∃ (L : Nat) (a4 a5 : Option D), env = [some (.tup xs), some (.int (m : Nat)), some (tD (27 ^ lenS (xs.reverse.take i), idxS m (xs.reverse.take i))), some (.ref L), a4, a5] ∧ S1[L]? = some (.lst ((ntR m xs.reverse i).map tD)) ∧ Grow S S1 ∧ S.length ≤ L) (fun _ _ _ _ => gdOk_nil _) ?_ ?_ ⟨_, _, _, rfl, get_new, Grow.refl.app, Nat.le_refl _⟩
    · rintro i x env S1 hi ⟨L, a4, a5, rfl, hL, hG, hge⟩
      have hi' : xs.reverse[i]? = some x := hi
      have hil := (List.getElem?_eq_some_iff.mp hi').1
      rw [List.length_reverse] at hil
      have htk : xs.reverse.take (i + 1) = xs.reverse.take i ++ [x] := by rw [List.take_add_one, hi']; rfl
      rw [htk, lenS_snoc, idxS_snoc, ntR_succ hi']
      have hz : ((ntR m xs.reverse i).map tD).length + 1 ≤ sizeLine := Nat.le_of_lt (sz_lt (by unfold ntR; rw [List.length_map, List.length_map, List.length_range]; omega))
      have hL1 : ∀ o, (S1 ++ [MO.lst o])[L]? = some (.lst ((ntR m xs.reverse i).map tD)) := fun o => by rw [List.getElem?_append_left (lt_of_get hL)]; exact hL
      rw [show tD (27 ^ lenS (xs.reverse.take i), idxS m (xs.reverse.take i)) = .tup [.int (27 ^ lenS (xs.reverse.take i)), .int (idxS m (xs.reverse.take i) : Nat)] from rfl]
      rcases hx x (List.mem_reverse.mp (List.mem_of_getElem? hi')) with ⟨b, rfl, hb⟩ | ⟨w, rfl, _, w1, w2⟩
      · walk_at "w"
        simp only [if_false, Bool.false_eq_true]
        rw [show ((m : Nat) : Int) - 1 - (b : Nat) = ((m - 1 - b : Nat) : Int) by omega]
        refine law_power_ok (by omega) ?_
        refine ⟨_, rfl, _, rfl, ?_⟩
        rw [w_mulX]
        refine ⟨.inl s2, ?_⟩
        walk_at "w"
        refine ⟨by decide, by decide, ?_⟩
        rw [w_addL (hL1 _) get_new (by exact hz)]
        refine ⟨_, rfl, _, rfl, ?_⟩
        rw [w_add]
        have et : tD (27 ^ (lenS (xs.reverse.take i) + lenI (.int (b : Nat))), idxS m (xs.reverse.take i) + idxI m (.int (b : Nat))) = .tup [.int (27 ^ lenS (xs.reverse.take i)), .int ((idxS m (xs.reverse.take i) : Nat) + ((3 ^ (m - 1 - b) : Nat) : Int))] := by simp [lenI, idxI, tD, pw]
        rw [et]
        refine ⟨by decide, _, _, _, rfl, ?_, hG.app.app, by have := hG.le; rw [List.length_append]; omega⟩
        · rw [get_new, List.map_append]
          simp [tmAt, tD, pw]
      · walk_at "w"
        simp only [if_true]
        refine ⟨_, rfl, ?_⟩
        refine law_number_ok w1 ?_
        rw [w_mulX]
        refine ⟨.inr (.inl (num_small w1 (by omega))), _, rfl, by decide, by decide, ?_⟩
        rw [w_addL (hL1 _) get_new (by exact hz)]
        refine ⟨_, rfl, ?_⟩
        refine law_weight_ok ?_
        rw [w_mulX]
        have et : tD (27 ^ (lenS (xs.reverse.take i) + lenI (.str w)), idxS m (xs.reverse.take i) + idxI m (.str w)) = .tup [.int (27 ^ lenS (xs.reverse.take i) * 27 ^ w.length), .int (idxS m (xs.reverse.take i) : Nat)] := by simp [lenI, idxI, Int.pow_add, tD]
        rw [et]
        refine ⟨.inr (.inl (pow27_small (by omega))), _, rfl, by decide, _, _, _, rfl, ?_, hG.app.app, by have := hG.le; rw [List.length_append]; omega⟩
        · rw [get_new, List.map_append]
          rfl
    · rintro env S1 ⟨L, a4, a5, rfl, hL, hG, hge⟩
      have e : xs.reverse.length = xs.length := List.length_reverse
      rw [show ((xs.reverse, ([] : Gd)).fst.length) = xs.reverse.length from rfl, List.take_length, lenS_rev, idxS_rev]
      rw [show ((xs.reverse, ([] : Gd)).fst.length) = xs.length from e] at hL
      exact ⟨rfl, L, _, _, rfl, hL, hG, hge⟩
  rintro _ S1 ⟨L, a4, a5, rfl, hL, hG, hge⟩
  walk_at "w"
  refine ⟨by decide, by decide, by decide, by decide, ?_⟩
  have t0 : (S1 ++ [MO.lst [.tup [.int 1, .int 0]]])[S1.length]? = some (.lst ([((1, 0) : Tm)].map tD)) := get_new
  have hG2 : Grow S1 (S1 ++ [MO.lst [.tup [.int 1, .int 0]]]) := Grow.refl.app
  generalize S1 ++ [MO.lst [.tup [.int 1, .int 0]]] = S2 at t0 hG2 ⊢
  have t1 : (S2 ++ [MO.lst [tD (wtOf m xs)]])[S2.length]? = some (.lst ([wtOf m xs].map tD)) := get_new
  have hG3 : Grow S2 (S2 ++ [MO.lst [tD (wtOf m xs)]]) := Grow.refl.app
  generalize S2 ++ [MO.lst [tD (wtOf m xs)]] = S3 at t1 hG3 ⊢
  have l1 := hG.le
  have l2 := hG2.le
  have l3 := hG3.le
  refine k _ _ _ (hG.trans (hG2.trans hG3.app)) get_new ?_ (by omega) fun r hr => ?_
  rotate_left
  · simp only [List.mem_cons, List.not_mem_nil, or_false, D.ref.injEq] at hr
    rcases hr with rfl | rfl | rfl <;> omega
  have g : Grow S3 (S3 ++ [MO.lst [D.ref S1.length, .ref S2.length, .ref L]]) := Grow.refl.app
  exact ⟨g.get (hG3.get t0), g.get t1, g.get (hG3.get (hG2.get hL)), trivial⟩
theorem law_times_ok {a b : Nat} {l1 l2 : List Tm} {S : Store} {Q : D → Store → Prop} (ha : S[a]? = some (.lst (l1.map tD))) (hb : S[b]? = some (.lst (l2.map tD))) (hl1 : l1.length ≤ 1000) (hl2 : l2.length ≤ 9) (hs : ∀ t ∈ l2, smallI t.1 = true) (k : ∀ S', Grow S S' → S'[S.length]? = some (.lst ((tmul l1 l2).map tD)) → Q (.ref S.length) S') : wp (m_law_times [.ref a, .ref b]) S Q := by
  unfold m_law_times f_law_times
  rw [w_body]
  refine w_seqA ?_
  walk_at "v"
  refine ⟨by decide, ?_⟩
  have hlen : ∀ i, ((l1.take i).flatMap fun a => l2.map (tm2 a)).length ≤ 9000 := fun i => tmul_len (l1 := l1.take i) (l2 := l2) (a := 1000) (b := 9) (by rw [List.length_take]; omega) hl2
  have ha1 : (S ++ [MO.lst []])[a]? = some (.lst (l1.map tD)) := by rw [List.getElem?_append_left (lt_of_get ha)]; exact ha
  have hb1 : (S ++ [MO.lst []])[b]? = some (.lst (l2.map tD)) := by rw [List.getElem?_append_left (lt_of_get hb)]; exact hb
  walk_at "w"
  refine ⟨_, srcOf_ref ha1, ?_⟩
  refine wp_loop (fun i env S1 => ∃ (a3 a4 a5 a6 : Option D), env = [some (.ref a), some (.ref b), some (.ref S.length), a3, a4, a5, a6] ∧ S1 = S ++ [.lst (((l1.take i).flatMap fun a => l2.map (tm2 a)).map tD)]) (fun i _ S1 hI p hp => ?_) ?_ ?_ ⟨_, _, _, _, rfl, rfl⟩
  · obtain ⟨_, _, _, _, _, rfl⟩ := hI
    rw [List.mem_singleton.mp hp]
    show (S ++ _)[a]? = _
    rw [List.getElem?_append_left (lt_of_get ha)]
    exact ha
  · rintro i x env S1 hi ⟨a3, a4, a5, a6, rfl, rfl⟩
    have hi' : (l1.map tD)[i]? = some x := hi
    rw [List.getElem?_map] at hi'
    obtain ⟨t, ht, rfl⟩ := Option.map_eq_some_iff.mp hi'
    have hb2 : ∀ o, (S ++ [MO.lst o])[b]? = some (.lst (l2.map tD)) := fun o => by rw [List.getElem?_append_left (lt_of_get hb)]; exact hb
    rw [show tD t = D.tup [.int t.1, .int (t.2 : Nat)] from rfl]
    walk_at "w"
    refine ⟨_, srcOf_ref (hb2 _), ?_⟩
    refine wp_loop (fun j env S1 => ∃ (a5 a6 : Option D), env = [some (.ref a), some (.ref b), some (.ref S.length), some (.int t.1), some (.int (t.2 : Nat)), a5, a6] ∧ S1 = S ++ [.lst ((((l1.take i).flatMap fun a => l2.map (tm2 a)) ++ (l2.take j).map (tm2 t)).map tD)]) (fun j _ S1 hI p hp => ?_) ?_ ?_ ⟨_, _, rfl, by rw [List.take_zero, List.map_nil, List.append_nil]⟩
    · obtain ⟨_, _, _, rfl⟩ := hI
      rw [List.mem_singleton.mp hp]
      exact hb2 _
    · rintro j y env S1 hj ⟨a5, a6, rfl, rfl⟩
      have hj' : (l2.map tD)[j]? = some y := hj
      rw [List.getElem?_map] at hj'
      obtain ⟨u, hu, rfl⟩ := Option.map_eq_some_iff.mp hj'
      have htk : l2.take (j + 1) = l2.take j ++ [u] := by rw [List.take_add_one, hu]; rfl
      have h1 := hlen i
      have h2 : (l2.take j).length ≤ 9 := by rw [List.length_take]; omega
      rw [show tD u = D.tup [.int u.1, .int (u.2 : Nat)] from rfl]
      walk_at "w"
      rw [w_tyL get_new]
      refine ⟨.inr (.inl (hs u (List.mem_of_getElem? hu))), by decide, ?_⟩
      rw [w_app get_new (sz_lt (by rw [List.length_map, List.length_append, List.length_map]; omega))]
      refine ⟨_, _, rfl, ?_⟩
      rw [List.set_append_right _ _ (Nat.le_refl _), Nat.sub_self, List.set_cons_zero, htk, List.map_append (f := tm2 t), ← List.append_assoc, List.map_append (f := tD) (l₂ := [u].map (tm2 t))]
      rfl
    · rintro env S1 ⟨a5, a6, rfl, rfl⟩
      refine ⟨_, _, _, _, rfl, ?_⟩
      rw [show (((l2.map tD, [(b, l2.map tD)]) : List D × Gd).fst.length) = l2.length from List.length_map _, List.take_length, List.take_add_one, ht, List.flatMap_append]
      simp
  · rintro env S1 ⟨a3, a4, a5, a6, rfl, rfl⟩
    rw [show (((l1.map tD, [(a, l1.map tD)]) : List D × Gd).fst.length) = l1.length from List.length_map _, List.take_length]
    walk_at "w"
    exact k _ Grow.refl.app get_new
theorem law_sum_ok {r : Nat} {v : List Int} {ts : List Tm} {S : Store} {Q : D → Store → Prop} (hr : S[r]? = some (.lst (ts.map tD))) (hfit : FitT v ts) (k : ∀ S', Grow S S' → Q (.int (vsum v ts)) S') : wp (m_law_sum [.tup (v.map .int), .ref r]) S Q := by
  unfold m_law_sum f_law_sum
  rw [w_body, w_sret]
  exact sum_lc hfit (any_ref rfl hr) (fun S' g => gd_grow hr g) (fun _ _ => ⟨rfl, rfl, rfl⟩) k
end TS
set_option Elab.async false
set_option linter.all false
set_option maxRecDepth 100000
set_option maxHeartbeats 2000000
namespace TS
open PySem PySem.Spec PyProof.Rows L2
local macro_rules | `(tactic| walk_at "w") => `(tactic| simp only [w_mulX, w_mulXS, x_isiSS, x_isiIS, x_isiII, x_isiIB, x_isiTT, x_isiNS, x_isTN, x_isSN, x_isIN, x_notTN, x_notSN, x_notIN, x_revX, x_revV, x_revVT, w_ord, w_asBl, w_body, env0, w_seq, w_asg, w_sret, w_retN, w_drop, w_sIf, w_for, w_aug, w_nx, w_brk, w_cnt, w_gN, w_gTup, w_gsCons, w_gsNil, w_gSub, w_var, w_c, w_op, w_un, w_call, w_eMt, w_tup, w_lst, w_aNil, w_aCons, w_asB, w_asT, w_bAnd, w_bOr, w_bNot, w_eAnd, w_eOr, w_eNot, w_eIf, w_eSl, w_pNo, w_pSome, w_chain,
  w_add, w_addT, w_sub, w_mul, w_mod, w_fdiv, w_pow, w_lt, w_le, w_gt, w_ge, w_int, w_min, w_max, w_lenT, w_lenF, w_truB, w_isB, w_notB, w_tyS, w_slT, w_tupT, w_eqI, w_neI, w_eqBl, w_neBl, w_find, w_rg1, w_rg2, w_anyI, w_ixT, w_ixF, w_ixS, w_lenS, w_slS, w_addS, w_disp, w_kNil, w_kCons, w_yes, w_zip, w_ltS1, w_ninS, x_enum, x_geS1, w_par2, w_eLenSet, w_intB, w_notN, w_isN, w_neg,
  List.map_cons, List.map_nil, List.length_cons, List.length_nil, List.replicate, List.cons_append, List.nil_append, List.getElem?_cons_zero, List.getElem?_cons_succ, List.set_cons_zero, List.set_cons_succ, Nat.reduceAdd, Nat.reduceSub, Nat.sub_self, Nat.sub_zero,
  Option.some.injEq, exists_eq_left', D.bl.injEq, D.int.injEq, rgOf_1, rgOf2_2, and_true, true_and])
local macro_rules | `(tactic| walk_at "v") => `(tactic| simp only [w_mulX, w_mulXS, x_isiSS, x_isiIS, x_isiII, x_isiIB, x_isiTT, x_isiNS, x_isTN, x_isSN, x_isIN, x_notTN, x_notSN, x_notIN, x_revX, x_revV, x_revVT, w_ord, w_asBl, env0, w_asg, w_sret, w_retN, w_drop, w_for, w_aug, w_nx, w_brk, w_cnt, w_gN, w_gTup, w_gsCons, w_gsNil, w_gSub, w_var, w_c, w_op, w_un, w_call, w_eMt, w_tup, w_lst, w_aNil, w_aCons, w_asB, w_asT, w_bAnd, w_bOr, w_bNot, w_eAnd, w_eOr, w_eNot, w_eIf, w_eSl, w_pNo, w_pSome, w_chain,
  w_add, w_addT, w_sub, w_mul, w_mod, w_fdiv, w_pow, w_lt, w_le, w_gt, w_ge, w_int, w_min, w_max, w_lenT, w_lenF, w_truB, w_isB, w_notB, w_tyS, w_slT, w_tupT, w_eqI, w_neI, w_eqBl, w_neBl, w_find, w_rg1, w_rg2, w_anyI, w_ixT, w_ixF, w_ixS, w_lenS, w_slS, w_addS, w_disp, w_kNil, w_kCons, w_yes, w_zip, w_ltS1, w_ninS, x_enum, x_geS1, w_par2, w_eLenSet, w_intB, w_notN, w_isN, w_neg,
  List.map_cons, List.map_nil, List.length_cons, List.length_nil, List.replicate, List.cons_append, List.nil_append, List.getElem?_cons_zero, List.getElem?_cons_succ, List.set_cons_zero, List.set_cons_succ, Nat.reduceAdd, Nat.reduceSub, Nat.sub_self, Nat.sub_zero,
  Option.some.injEq, exists_eq_left', D.bl.injEq, D.int.injEq, rgOf_1, rgOf2_2, and_true, true_and])
/-! ### indices stay below 3 ^ m -/
theorem idxS_ints (m : Nat) : ∀ {xs : List D} {n : Nat}, (∀ x ∈ xs, ItP n x) → idxS m xs = ((intsD xs).map fun b => pw m b.toNat).sum
  | [], _, _ => rfl
  | x :: r, n, h => by
    have ih := idxS_ints m (xs := r) (n := n) fun y hy => h y (List.mem_cons_of_mem _ hy)
    have e : idxS m (x :: r) = idxI m x + idxS m r := rfl
    rw [e, ih]
    rcases h x (List.mem_cons_self ..) with ⟨b, rfl, _⟩ | ⟨w, rfl, _⟩
    · rfl
    · show 0 + ((intsD r).map _).sum = _
      rw [Nat.zero_add]
      rfl
theorem sum_used {w : Nat → Nat} : ∀ (n : Nat) {l : List Int}, l.Nodup → (∀ b ∈ l, 0 ≤ b ∧ b < n) → (l.map fun b => w b.toNat).sum ≤ ((List.range n).map w).sum
  | 0, l, _, h => by
    cases l with
    | nil => exact Nat.le_refl _
    | cons x r =>
      have := h x (List.mem_cons_self ..)
      omega
  | n + 1, l, hn, h => by
    rw [List.range_succ, List.map_append, List.sum_append]
    have h2 : ((l.erase (n : Int)).map fun b => w b.toNat).sum ≤ ((List.range n).map w).sum := sum_used n (hn.erase _) fun b hb => by
      have h3 := (List.Nodup.mem_erase_iff hn).mp hb
      have h4 := h b h3.2
      have h5 := h3.1
      omega
    by_cases c : (n : Int) ∈ l
    · have h3 := ((List.perm_cons_erase c).map fun b => w b.toNat).sum_nat
      rw [h3, List.map_cons, List.sum_cons]
      show w n + _ ≤ _ + (w n + 0)
      omega
    · rw [List.erase_of_not_mem c] at h2
      exact Nat.le_trans h2 (Nat.le_add_right _ _)
theorem pows_sum {m : Nat} (h : m ≤ 4) : 2 * ((List.range m).map (pw m)).sum + 1 = 3 ^ m := by
  have : ∀ m, m ≤ 4 → 2 * ((List.range m).map (pw m)).sum + 1 = 3 ^ m := by decide
  exact this m h
theorem nt_idx {m : Nat} {xs : List D} (hx : ∀ x ∈ xs, ItP m x) : ∀ t ∈ ntOf m xs, t.2 ≤ 2 * idxS m xs := fun t ht => by
  unfold ntOf ntR at ht
  obtain ⟨j, hj, rfl⟩ := List.mem_map.mp ht
  have hj := List.mem_range.mp hj
  have hjr : j < xs.reverse.length := by rw [List.length_reverse]; exact hj
  have e := List.getElem?_eq_getElem hjr
  have hxm : xs.reverse[j] ∈ xs := List.mem_reverse.mp (List.getElem_mem hjr)
  have hle : idxS m (xs.reverse.take j ++ [xs.reverse[j]]) ≤ idxS m xs := by
    have e1 : xs.reverse.take j ++ [xs.reverse[j]] = xs.reverse.take (j + 1) := by rw [List.take_add_one, e]; rfl
    have e2 : idxS m xs = idxS m (xs.reverse.take (j + 1)) + idxS m (xs.reverse.drop (j + 1)) := by
      rw [← idxS_rev]
      unfold idxS
      rw [← List.sum_append, ← List.map_append, List.take_append_drop]
    rw [e1]
    omega
  rw [List.getD_eq_getElem?_getD, e]
  rw [idxS_snoc] at hle
  rcases hx _ hxm with ⟨b, h, _⟩ | ⟨w, h, _, _, _⟩
  · rw [h] at hle ⊢
    show idxS m (xs.reverse.take j) + 2 * pw m b ≤ _
    have : idxI m (.int (b : Nat)) = pw m b := rfl
    omega
  · rw [h] at hle ⊢
    show idxS m (xs.reverse.take j) ≤ _
    omega
theorem choice_idx {m : Nat} {xs : List D} (hx : ∀ x ∈ xs, ItP m x) : ∀ l ∈ choices m xs, ∀ t ∈ l, t.2 ≤ 2 * idxS m xs := fun l hm t ht => by
  unfold choices at hm
  simp only [List.mem_cons, List.not_mem_nil, or_false] at hm
  rcases hm with rfl | rfl | rfl
  · rw [List.mem_singleton.mp ht]
    exact Nat.zero_le _
  · rw [List.mem_singleton.mp ht]
    show idxS m xs ≤ _
    omega
  · exact nt_idx hx t ht
def idxAll (m : Nat) (rows : List D) : Nat := (rows.map fun d => idxS m (srcT d)).sum
theorem st_idx {m : Nat} : ∀ (rows : List D) (f : List (List Tm)) (c : Nat), (∀ d ∈ rows, RowOk m d) → (∀ l ∈ f, ∀ t ∈ l, t.2 ≤ c) → ∀ l ∈ rows.foldl (nextT m) f, ∀ t ∈ l, t.2 ≤ c + 2 * idxAll m rows
  | [], f, c, _, h => h
  | d :: r, f, c, hr, h => by
    have e : idxAll m (d :: r) = idxS m (srcT d) + idxAll m r := rfl
    rw [e]
    intro l hl t ht
    have := st_idx r (nextT m f d) (c + 2 * idxS m (srcT d)) (fun y hy => hr y (List.mem_cons_of_mem _ hy)) (fun l hl t ht => ?_) l hl t ht
    · omega
    · obtain ⟨xs, rfl, h1, _⟩ := hr d (List.mem_cons_self ..)
      unfold nextT at hl
      obtain ⟨ts, hts, hl⟩ := List.mem_flatMap.mp hl
      obtain ⟨ch, hch, rfl⟩ := List.mem_map.mp hl
      unfold tmul at ht
      obtain ⟨a, ha, ht⟩ := List.mem_flatMap.mp ht
      obtain ⟨b, hb, rfl⟩ := List.mem_map.mp ht
      have g1 := h ts hts a ha
      have g2 := choice_idx h1 ch hch b hb
      show a.2 + b.2 ≤ _
      have : srcT (D.tup xs) = xs := rfl
      rw [this]
      omega
theorem idxAll_used {m n : Nat} : ∀ {rows : List D}, (∀ d ∈ rows, ∃ xs, d = .tup xs ∧ ∀ x ∈ xs, ItP n x) → idxAll m rows = ((usedOf rows).map fun b => pw m b.toNat).sum
  | [], _ => rfl
  | d :: r, h => by
    have ih := idxAll_used (m := m) (rows := r) fun y hy => h y (List.mem_cons_of_mem _ hy)
    obtain ⟨xs, rfl, h1⟩ := h d (List.mem_cons_self ..)
    have e : idxAll m (.tup xs :: r) = idxS m xs + idxAll m r := rfl
    have eu : usedOf (.tup xs :: r) = intsD xs ++ usedOf r := by
      unfold usedOf
      rw [List.flatMap_cons]
      rfl
    rw [e, ih, eu, List.map_append, List.sum_append, idxS_ints m h1]
theorem NewsM.idx {m : Nat} {rows : List D} (h : NewsM m rows) (hm : m ≤ 4) : ∀ l ∈ stT m rows, ∀ t ∈ l, t.2 < 3 ^ m := fun l hl t ht => by
  have h1 := st_idx rows [[(1, 0)]] 0 (h.ok hm) (fun l hl t ht => by
    rw [List.mem_singleton.mp hl] at ht
    rw [List.mem_singleton.mp ht]
    exact Nat.le_refl _) l hl t ht
  have h2 := idxAll_used (m := m) (n := m) (rows := rows) fun d hd => by
    obtain ⟨xs, rfl, g1, _⟩ := h.ok hm d hd
    exact ⟨xs, rfl, g1⟩
  have h3 := sum_used (w := pw m) m h.2.2.1 h.2.2.2
  have h4 := pows_sum hm
  omega
theorem end_idx {m : Nat} {is : List Int} {xs : List D} (h : RowM m is (.tup xs)) (hn : is.Nodup) (hb : ∀ b ∈ is, 0 ≤ b ∧ b < m) (hm : m ≤ 4) : ∀ t ∈ ntOf m xs, t.2 < 3 ^ m := fun t ht => by
  obtain ⟨ys, e, h1, h2, _⟩ := h
  cases e
  have g1 := nt_idx h1 t ht
  have g2 := idxS_ints m h1
  rw [h2] at g2
  have h3 := sum_used (w := pw m) m hn hb
  have h4 := pows_sum hm
  omega
theorem st_len {m : Nat} {rows : List D} (hr : ∀ d ∈ rows, RowOk m d) : (stT m rows).length ≤ 3 ^ rows.length ∧ ∀ l ∈ stT m rows, l.length ≤ 9 ^ rows.length := by
  have key : ∀ (rows : List D) (f : List (List Tm)) (i : Nat), (∀ d ∈ rows, RowOk m d) → f.length ≤ 3 ^ i → (∀ l ∈ f, l.length ≤ 9 ^ i) → (rows.foldl (nextT m) f).length ≤ 3 ^ (i + rows.length) ∧ ∀ l ∈ rows.foldl (nextT m) f, l.length ≤ 9 ^ (i + rows.length) := by
    intro rows
    induction rows with
    | nil => intro f i _ h1 h2; exact ⟨h1, h2⟩
    | cons d r ih =>
      intro f i hr h1 h2
      obtain ⟨g1, g2⟩ := next_len (hr d (List.mem_cons_self ..)) h1 h2
      have := ih (nextT m f d) (i + 1) (fun y hy => hr y (List.mem_cons_of_mem _ hy)) g1 g2
      rw [show i + 1 + r.length = i + (d :: r).length by rw [List.length_cons]; omega] at this
      exact this
  have := key rows [[(1, 0)]] 0 hr (by decide) (fun l hl => by rw [List.mem_singleton.mp hl]; decide)
  rw [Nat.zero_add] at this
  exact this
/-! ### the law's image -/
theorem law_image_ok {m : Nat} {v : List Int} {rows : List D} {S : Store} {Q : D → Store → Prop} (hr : ∀ d ∈ rows, RowOk m d) (hl : rows.length = m) (hm : m ≤ 4) (hfit : ∀ l ∈ stT m rows, FitT v l) (k : ∀ S', Grow S S' → Q (.tup ((imgL v (stT m rows)).map .int)) S') : wp (m_law_image [.tup (v.map .int), .tup rows]) S Q := by
  unfold m_law_image f_law_image
  rw [w_body]
  refine w_seqA ?_
  walk_at "v"
  refine ⟨by decide, by decide, by decide, ?_⟩
  have t0 : (S ++ [MO.lst [.tup [.int 1, .int 0]]])[S.length]? = some (.lst ([((1, 0) : Tm)].map tD)) := get_new
  have hG2 : Grow S (S ++ [MO.lst [.tup [.int 1, .int 0]]]) := Grow.refl.app
  generalize S ++ [MO.lst [.tup [.int 1, .int 0]]] = S2 at t0 hG2 ⊢
  refine w_cut (fun env S3 => ∃ (F : Nat) (ds : List D) (a3 a4 a5 a6 : Option D), env = [some (.tup (v.map .int)), some (.tup rows), some (.ref F), a3, a4, a5, a6, none] ∧ S3[F]? = some (.lst ds) ∧ RT S3 ds (stT m rows) ∧ Grow S S3) ?_ ?_
  · walk_at "w"
    refine ⟨_, rfl, ?_⟩
    refine wp_loop (fun i env S3 => ∃ (F : Nat) (ds : List D) (a3 a4 a5 a6 : Option D), env = [some (.tup (v.map .int)), some (.tup rows), some (.ref F), a3, a4, a5, a6, none] ∧ S3[F]? = some (.lst ds) ∧ RT S3 ds (stT m (rows.take i)) ∧ (stT m (rows.take i)).length ≤ 3 ^ i ∧ (∀ l ∈ stT m (rows.take i), l.length ≤ 9 ^ i) ∧ Grow S S3) (fun _ _ _ _ => gdOk_nil _) ?_ ?_ ⟨S2.length, [.ref S.length], _, _, _, _, rfl, get_new, ⟨by rw [List.getElem?_append_left (lt_of_get t0)]; exact t0, trivial⟩, (by show 1 ≤ 1; decide), (fun l hl => by rw [List.mem_singleton.mp hl]; decide), hG2.app⟩
    · rintro i x env S3 hi ⟨F, ds, a3, a4, a5, a6, rfl, hF, hRT, hn1, hn2, hG3⟩
      have hi' : rows[i]? = some x := hi
      have hil := (List.getElem?_eq_some_iff.mp hi').1
      have hrow := hr x (List.mem_of_getElem? hi')
      have htk : rows.take (i + 1) = rows.take i ++ [x] := by rw [List.take_add_one, hi']; rfl
      have hst : stT m (rows.take (i + 1)) = nextT m (stT m (rows.take i)) x := by
        rw [htk]
        unfold stT
        rw [List.foldl_append]
        rfl
      have hnl := next_len hrow hn1 hn2
      rw [← hst] at hnl
      obtain ⟨xs, rfl, hx1, hx2, hx3⟩ := id hrow
      generalize hls : stT m (rows.take i) = ls at hst hn1 hn2 hRT
      have hi3 : 3 ^ i ≤ 27 := by
        have : ∀ i, i < 4 → 3 ^ i ≤ 27 := by decide
        exact this i (by omega)
      have hi9 : 9 ^ i ≤ 729 := by
        have : ∀ i, i < 4 → 9 ^ i ≤ 729 := by decide
        exact this i (by omega)
      have hdl := hRT.length
      have hch3 : (choices m xs).length = 3 := rfl
      walk_at "v"
      refine w_seqA ?_
      walk_at "v"
      refine ⟨by decide, ?_⟩
      have hF4 : (S3 ++ [MO.lst []])[F]? = some (.lst ds) := by rw [List.getElem?_append_left (lt_of_get hF)]; exact hF
      have hRT4 : RT (S3 ++ [MO.lst []]) ds ls := hRT.growG Grow.refl.app
      walk_at "w"
      refine ⟨_, srcOf_ref hF4, ?_⟩
      refine wp_loop (fun i' env S7 => ∃ (acc : List D) (a5 a6 : Option D), env = [some (.tup (v.map .int)), some (.tup rows), some (.ref F), some (.tup xs), some (.ref S3.length), a5, a6, none] ∧ RT S7 acc ((ls.take i').flatMap fun ts => (choices m xs).map (tmul ts)) ∧ S7[S3.length]? = some (.lst acc) ∧ Grow S3 S7 ∧ ∀ r, .ref r ∈ acc → r ≠ S3.length) (fun _ _ S7 hI => gd_grow hF (by obtain ⟨_, _, _, _, _, _, hG, _⟩ := hI; exact hG)) ?_ ?_ ⟨[], _, _, rfl, trivial, get_new, Grow.refl.app, fun _ h => nomatch h⟩
      · rintro i' x env S7 hx ⟨acc, a5, a6, rfl, h1, h2, h3, h4⟩
        obtain ⟨r, l, rfl, hl1, hl2⟩ := hRT.get hx
        have hil' := (List.getElem?_eq_some_iff.mp hl1).1
        have htk1 : ls.take (i' + 1) = ls.take i' ++ [l] := by rw [List.take_add_one, hl1]; rfl
        walk_at "w"
        rw [hl]
        refine law_takes_ok hx1 (by omega) (by omega) fun L S8 cds hG8 hL8 hRT8 hge1 hge2 => ?_
        refine ⟨_, srcOf_ref hL8, ?_⟩
        have hcl := hRT8.length
        refine wp_loop (fun j env S9 => ∃ (acc : List D) (a6 : Option D), env = [some (.tup (v.map .int)), some (.tup rows), some (.ref F), some (.tup xs), some (.ref S3.length), some (.ref r), a6, none] ∧ RT S9 acc (((ls.take i').flatMap fun ts => (choices m xs).map (tmul ts)) ++ ((choices m xs).take j).map (tmul l)) ∧ S9[S3.length]? = some (.lst acc) ∧ Grow S3 S9 ∧ (∀ r, .ref r ∈ acc → r ≠ S3.length) ∧ RT S9 cds (choices m xs) ∧ S9[L]? = some (.lst cds) ∧ (∀ r, .ref r ∈ cds → r ≠ S3.length) ∧ L ≠ S3.length) (fun _ _ S9 hI p hp => ?_) ?_ ?_ ⟨acc, _, rfl, by rw [List.take_zero, List.map_nil, List.append_nil]; exact h1.growG hG8, hG8.get h2, h3.trans hG8, h4, hRT8, hL8, ?_, ?_⟩
        · obtain ⟨_, _, _, _, _, _, _, _, h, _⟩ := hI
          rw [List.mem_singleton.mp hp]
          exact h
        · rintro j y env S9 hy ⟨acc, a6, rfl, g1, g2, g3, g4, g5, g6, g7, g8⟩
          obtain ⟨c, l2, rfl, hc1, hc2⟩ := g5.get hy
          have hcm := List.mem_of_getElem? hc1
          have hjl := (List.getElem?_eq_some_iff.mp hc1).1
          have hl29 : l2.length ≤ 9 := by
            unfold choices at hcm
            simp only [List.mem_cons, List.not_mem_nil, or_false] at hcm
            rcases hcm with rfl | rfl | rfl
            · show 1 ≤ 9; decide
            · show 1 ≤ 9; decide
            · unfold ntOf ntR
              rw [List.length_map, List.length_range]
              exact hx2
          have htk2 : (choices m xs).take (j + 1) = (choices m xs).take j ++ [l2] := by rw [List.take_add_one, hc1]; rfl
          have hal : acc.length < 100000 := by
            have := g1.length
            rw [List.length_append, List.length_map, flat3, List.length_take, List.length_take, hch3] at this
            have : min i' ls.length * 3 ≤ 27 * 3 := Nat.mul_le_mul (by omega) (Nat.le_refl _)
            omega
          walk_at "w"
          rw [w_tyL g2]
          refine law_times_ok (g3.get hl2) hc2 (by have := hn2 l (List.mem_of_getElem? hl1); omega) hl29 (choice_small hx1 hx3 l2 hcm) fun S10 hG10 h10 => ?_
          have g2' := hG10.get g2
          rw [w_app g2' (sz_lt hal)]
          have hlt := lt_of_get g2
          refine ⟨acc ++ [.ref S9.length], _, rfl, ?_, List.getElem?_set_self (lt_of_get g2'), (g3.trans hG10).set (Nat.le_refl _), fun r hr => ?_, (g5.growG hG10).setk g7, by rw [List.getElem?_set_ne (Ne.symm g8)]; exact hG10.get g6, g7, g8⟩
          · rw [htk2, List.map_append, ← List.append_assoc]
            refine RT.snoc ?_ ((g1.growG hG10).setk g4)
            rw [List.getElem?_set_ne (by omega)]
            exact h10
          · rcases List.mem_append.mp hr with hr | hr
            · exact g4 r hr
            · have := List.mem_singleton.mp hr
              cases this
              omega
        · rintro env S9 ⟨acc, a6, rfl, g1, g2, g3, g4, g5, g6, g7, g8⟩
          refine ⟨acc, _, _, rfl, ?_, g2, g3, g4⟩
          rw [show ((cds, [(L, cds)]) : List D × Gd).fst.length = (choices m xs).length from hcl, List.take_length] at g1
          rw [htk1, List.flatMap_append]
          simpa using g1
        · intro r hr
          have := hge2 r hr
          have := lt_of_get h2
          omega
        · have := lt_of_get h2
          omega
      · rintro env S7 ⟨acc, a5, a6, rfl, h1, h2, h3, h4⟩
        rw [show ((ds, [(F, ds)]) : List D × Gd).fst.length = ls.length from hdl, List.take_length] at h1
        walk_at "w"
        refine ⟨S3.length, acc, _, _, _, _, rfl, h2, ?_, hnl.1, hnl.2, hG3.trans h3⟩
        rw [hst]
        exact h1
    · rintro env S3 ⟨F, ds, a3, a4, a5, a6, rfl, hF, hRT, hn1, hn2, hG3⟩
      rw [show ((rows, ([] : Gd)).fst.length) = rows.length from rfl, List.take_length] at hRT
      exact ⟨rfl, F, ds, _, _, _, _, rfl, hF, hRT, hG3⟩
  rintro _ S3 ⟨F, ds, a3, a4, a5, a6, rfl, hF, hRT, hG3⟩
  have hdl := hRT.length
  have hln := (st_len hr).1
  rw [hl] at hln
  have hl3 : 3 ^ m ≤ 81 := by
    have : ∀ i, i ≤ 4 → 3 ^ i ≤ 81 := by decide
    exact this m hm
  walk_at "w"
  refine wp_lc (xs := ds) (g := [(F, ds)]) (S1 := S3) (any_ref rfl hF) (fun j acc S4 => acc = (((stT m rows).take j).map (vsum v)).map .int ∧ S4[S3.length]? = some (.lst acc) ∧ Grow S3 S4) ⟨rfl, get_new, Grow.refl.app⟩ (fun _ _ _ h => h.2.1) (fun _ _ _ h => gd_grow hF h.2.2) (fun j acc S3 h => by rw [h.1, List.length_map, List.length_map]; exact List.length_take_le _ _) (sz_lt (by omega)) ?_ ?_
  · rintro i x acc S4 hx ⟨rfl, hk, hG⟩
    obtain ⟨r, l, rfl, hl1, hl2⟩ := hRT.get hx
    have htk : (stT m rows).take (i + 1) = (stT m rows).take i ++ [l] := by rw [List.take_add_one, hl1]; rfl
    simp only [wipeE]
    walk_at "w"
    refine law_sum_ok (hG.get hl2) (hfit l (List.mem_of_getElem? hl1)) fun S5 hG5 => ?_
    refine ⟨hG5.get hk, ?_, List.getElem?_set_self (lt_of_get (hG5.get hk)), (hG.trans hG5).set (Nat.le_refl _)⟩
    rw [htk, List.map_append, List.map_append]
    rfl
  · rintro acc S4 ⟨rfl, hk, hG⟩
    rw [hdl, List.take_length] at hk
    rw [w_tupL hk]
    exact k S4 (hG3.trans hG)
end TS
set_option Elab.async false
set_option linter.all false
set_option maxRecDepth 100000
set_option maxHeartbeats 4000000
namespace TS
open PySem PySem.Spec PyProof.Rows L2
local macro_rules | `(tactic| walk_at "w") => `(tactic| simp only [w_mulX, w_mulXS, x_isiSS, x_isiIS, x_isiII, x_isiIB, x_isiTT, x_isiNS, x_isTN, x_isSN, x_isIN, x_notTN, x_notSN, x_notIN, x_revX, x_revV, x_revVT, w_ord, w_asBl, w_body, env0, w_seq, w_asg, w_sret, w_retN, w_drop, w_sIf, w_for, w_aug, w_nx, w_brk, w_cnt, w_gN, w_gTup, w_gsCons, w_gsNil, w_gSub, w_var, w_c, w_op, w_un, w_call, w_eMt, w_tup, w_lst, w_aNil, w_aCons, w_asB, w_asT, w_bAnd, w_bOr, w_bNot, w_eAnd, w_eOr, w_eNot, w_eIf, w_eSl, w_pNo, w_pSome, w_chain,
  w_add, w_addT, w_sub, w_mul, w_mod, w_fdiv, w_pow, w_lt, w_le, w_gt, w_ge, w_int, w_min, w_max, w_lenT, w_lenF, w_truB, w_isB, w_notB, w_tyS, w_slT, w_tupT, w_eqI, w_neI, w_eqBl, w_neBl, w_find, w_rg1, w_rg2, w_anyI, w_ixT, w_ixF, w_ixS, w_lenS, w_slS, w_addS, w_disp, w_kNil, w_kCons, w_yes, w_zip, w_ltS1, w_ninS, x_enum, x_geS1, w_par2, w_eLenSet, w_intB, w_notN, w_isN, w_neg,
  List.map_cons, List.map_nil, List.length_cons, List.length_nil, List.replicate, List.cons_append, List.nil_append, List.getElem?_cons_zero, List.getElem?_cons_succ, List.set_cons_zero, List.set_cons_succ, Nat.reduceAdd, Nat.reduceSub, Nat.sub_self, Nat.sub_zero,
  Option.some.injEq, exists_eq_left', D.bl.injEq, D.int.injEq, rgOf_1, rgOf2_2, and_true, true_and])
local macro_rules | `(tactic| walk_at "v") => `(tactic| simp only [w_mulX, w_mulXS, x_isiSS, x_isiIS, x_isiII, x_isiIB, x_isiTT, x_isiNS, x_isTN, x_isSN, x_isIN, x_notTN, x_notSN, x_notIN, x_revX, x_revV, x_revVT, w_ord, w_asBl, env0, w_asg, w_sret, w_retN, w_drop, w_for, w_aug, w_nx, w_brk, w_cnt, w_gN, w_gTup, w_gsCons, w_gsNil, w_gSub, w_var, w_c, w_op, w_un, w_call, w_eMt, w_tup, w_lst, w_aNil, w_aCons, w_asB, w_asT, w_bAnd, w_bOr, w_bNot, w_eAnd, w_eOr, w_eNot, w_eIf, w_eSl, w_pNo, w_pSome, w_chain,
  w_add, w_addT, w_sub, w_mul, w_mod, w_fdiv, w_pow, w_lt, w_le, w_gt, w_ge, w_int, w_min, w_max, w_lenT, w_lenF, w_truB, w_isB, w_notB, w_tyS, w_slT, w_tupT, w_eqI, w_neI, w_eqBl, w_neBl, w_find, w_rg1, w_rg2, w_anyI, w_ixT, w_ixF, w_ixS, w_lenS, w_slS, w_addS, w_disp, w_kNil, w_kCons, w_yes, w_zip, w_ltS1, w_ninS, x_enum, x_geS1, w_par2, w_eLenSet, w_intB, w_notN, w_isN, w_neg,
  List.map_cons, List.map_nil, List.length_cons, List.length_nil, List.replicate, List.cons_append, List.nil_append, List.getElem?_cons_zero, List.getElem?_cons_succ, List.set_cons_zero, List.set_cons_succ, Nat.reduceAdd, Nat.reduceSub, Nat.sub_self, Nat.sub_zero,
  Option.some.injEq, exists_eq_left', D.bl.injEq, D.int.injEq, rgOf_1, rgOf2_2, and_true, true_and])
def SmV (v : List Int) : Prop := ∀ x ∈ v, -(2 ^ 60) < x ∧ x < 2 ^ 60
theorem SmV.get {v : List Int} (h : SmV v) (i : Nat) : smallI (v.getD i 0) = true := by
  rw [List.getD_eq_getElem?_getD]
  by_cases c : i < v.length
  · rw [List.getElem?_eq_getElem c]
    have := h v[i] (List.getElem_mem c)
    exact decide_eq_true ⟨by show _ < v[i]; omega, by show v[i] < _; omega⟩
  · rw [List.getElem?_eq_none (by omega)]
    decide
theorem fit_st {m : Nat} {v : List Int} {rows : List D} (h : NewsM m rows) (hm : m ≤ 4) (hv : v.length = 3 ^ m) (hs : SmV v) : ∀ l ∈ stT m rows, FitT v l := fun l hl => by
  refine ⟨?_, fun t ht => ⟨?_, .inr (.inl (hs.get _))⟩⟩
  · have := (st_len (h.ok hm)).2 l hl
    rw [h.1] at this
    have h9 : ∀ i, i ≤ 4 → 9 ^ i ≤ 6561 := by decide
    have := h9 m hm
    omega
  · rw [hv]
    exact h.idx hm l hl t ht
theorem fit_nt {m : Nat} {v : List Int} {is : List Int} {xs : List D} (h : RowM m is (.tup xs)) (hn : is.Nodup) (hb : ∀ b ∈ is, 0 ≤ b ∧ b < m) (hm : m ≤ 4) (hv : v.length = 3 ^ m) (hs : SmV v) : FitT v (ntOf m xs) := by
  refine ⟨?_, fun t ht => ⟨?_, .inr (.inl (hs.get _))⟩⟩
  · obtain ⟨ys, e, _, h2, _⟩ := h.ok hn hb hm
    cases e
    unfold ntOf ntR
    rw [List.length_map, List.length_range]
    omega
  · rw [hv]
    exact end_idx h hn hb hm t ht
theorem members_ok {r q n : Nat} {S : Store} {Q : D → Store → Prop} (h : Dr r q S) (hn : n ≤ 1000) (k : ∀ (v : List Int) S', v.length = n → (∀ x ∈ v, -(2 ^ 50) < x ∧ x < 2 ^ 50) → Dr r q S' → Kp r S S' → Q (.tup (v.map .int)) S') : wp (m_law_members [.ref r, .int (n : Nat)]) S Q := by
  unfold m_law_members f_law_members
  have s9 : smallI 1000000000 = true := by decide
  rw [w_body]
  refine w_seqA ?_
  walk_at "v"
  refine pick_ok h (by decide) fun u S1 u0 u1 hD1 hK1 hL1 => ?_
  walk_at "v"
  generalize (u == 0) = large
  refine w_seqA ?_
  walk_at "v"
  refine ⟨by decide, ?_⟩
  have hr1 : S1.length ≠ r := Nat.ne_of_gt hD1.lt.1
  have hq1 : S1.length ≠ q := Nat.ne_of_gt hD1.lt.2
  walk_at "w"
  refine ⟨⟨by omega, by omega⟩, ?_⟩
  rw [show ((n : Nat) : Int).toNat = n from rfl]
  refine wp_appD (S0 := S1) (r := r) (q := q) (L := S1.length) (fun _ d => ∃ x : Int, d = .int x ∧ -(2 ^ 50) < x ∧ x < 2 ^ 50) (fun env => ∃ a4 a5, env = [some (.ref r), some (.int (n : Nat)), some (.bl large), some (.ref S1.length), a4, a5]) ⟨_, _, rfl⟩ Kp.app hD1.app get_new ?_ ?_
  · rintro i x env1 S2 ds hx ⟨a4, a5, rfl⟩ hK2 hD2 hL2 hl2
    obtain ⟨hi, rfl⟩ := rng_get hx
    walk_at "v"
    refine w_seqA ?_
    walk_at "v"
    refine pick_ok hD2 (by decide) fun v S3 v0 v1 hD3 hK3 hL3 => ?_
    walk_at "v"
    refine w_join (fun env S4 => ∃ x : Int, (-(2 ^ 50) < x ∧ x < 2 ^ 50) ∧ env = [some (.ref r), some (.int (n : Nat)), some (.bl large), some (.ref S1.length), some (.int (0 + (i : Nat))), some (.int x)] ∧ Dr r q S4 ∧ Kp r S1 S4 ∧ S4[S1.length]? = some (.lst ds)) ?_ ?_
    · have hL3' : S3[S1.length]? = some (.lst ds) := by rw [hK3.get _ (lt_of_get hL2) hr1]; exact hL2
      walk_at "w"
      cases large with
      | true =>
        rw [if_pos rfl]
        refine ⟨.inr (.inl s9), ?_⟩
        refine pick_ok hD3 (by decide) fun w S4 w0 w1 hD4 hK4 hL4 => ?_
        walk_at "w"
        exact ⟨_, by omega, rfl, hD4, (hK2.trans hK3).trans hK4, by rw [hK4.get _ (lt_of_get hL3') hr1]; exact hL3'⟩
      | false =>
        rw [if_neg Bool.false_ne_true]
        exact ⟨_, by omega, rfl, hD3, hK2.trans hK3, hL3'⟩
    rintro _ S4 ⟨x, hx, rfl, hD4, hK4, hL4⟩
    walk_at "w"
    rw [w_tyL hL4, w_app hL4 (sz_lt (by omega))]
    obtain ⟨b1, b2, b3⟩ := app_step (d := .int x) (Nat.le_refl _) hD4 hr1 hq1 hL4 hK4
    exact ⟨⟨_, _, rfl⟩, b1, b2, _, ⟨x, rfl, hx.1, hx.2⟩, b3⟩
  · rintro env' S2 ds ⟨a4, a5, rfl⟩ hK2 hD2 hl2 hp hL2
    rw [rng_length] at hl2
    have key : ∀ l : List D, (∀ d ∈ l, ∃ x : Int, d = .int x ∧ -(2 ^ 50) < x ∧ x < 2 ^ 50) → ∃ v : List Int, l = v.map .int ∧ ∀ x ∈ v, -(2 ^ 50) < x ∧ x < 2 ^ 50 := by
      intro l
      induction l with
      | nil => exact fun _ => ⟨[], rfl, fun _ h => nomatch h⟩
      | cons d l ih =>
        intro hx
        obtain ⟨x, rfl, hx1⟩ := hx d (List.mem_cons_self ..)
        obtain ⟨v, rfl, hv⟩ := ih fun y hy => hx y (List.mem_cons_of_mem _ hy)
        refine ⟨x :: v, rfl, fun y hy => ?_⟩
        rcases List.mem_cons.mp hy with rfl | hy
        · exact hx1
        · exact hv y hy
    obtain ⟨v, rfl, hv⟩ := key ds (mem_idx hp)
    walk_at "w"
    rw [w_tupL hL2]
    exact k v S2 (by rw [← hl2, List.length_map]) hv hD2 (hK1.trans hK2)
def mixL (a b : List Int) (f g : Int) : List Int := (List.range a.length).map fun i => f * a.getD i 0 + g * b.getD i 0
theorem mixed_ok {a b : List Int} {f g : Int} {S : Store} {Q : D → Store → Prop} (hl : b.length = a.length) (hn : a.length ≤ 1000) (hf : smallI f = true) (hg : smallI g = true) (k : ∀ S', Grow S S' → Q (.tup ((mixL a b f g).map .int)) S') : wp (m_law_mixed [.tup (a.map .int), .tup (b.map .int), .tup [.int f, .int g]]) S Q := by
  unfold m_law_mixed f_law_mixed
  rw [w_body, w_sret, w_call, w_aCons, w_lcF]
  walk_at "w"
  refine ⟨by rw [List.length_map]; omega, ?_⟩
  rw [List.length_map, show ((a.length : Nat) : Int).toNat = a.length from rfl]
  refine w_lcG (xs := rng 0 a.length) (g := []) (fun d => match d with | .int i => .int (f * a.getD i.toNat 0 + g * b.getD i.toNat 0) | d => d) rfl (fun _ _ => gdOk_nil _) (by rw [rng_length]; exact sz_lt (by omega)) (fun i x S1 hi hG => ?_) fun S1 hG1 hS1 => ?_
  · obtain ⟨hia, rfl⟩ := rng_get hi
    have at' : ∀ (v : List Int), i < v.length → atI (v.map D.int) ((0 : Int) + (i : Nat)) = some (.int (v.getD i 0)) := fun v hv => by
      rw [Int.zero_add]
      exact atI_nat (by rw [List.getElem?_map, List.getElem?_eq_getElem hv, List.getD_eq_getElem?_getD, List.getElem?_eq_getElem hv]; rfl)
    simp only [wipeE]
    walk_at "w"
    refine ⟨_, rfl, _, at' a hia, ?_⟩
    rw [w_mulX]
    refine ⟨.inl hf, ?_⟩
    refine ⟨_, rfl, _, at' b (by omega), ?_⟩
    rw [w_mulX]
    refine ⟨.inl hg, ?_⟩
    rw [w_add]
    simp
    exact Grow.refl
  · have e : (rng 0 a.length).map (fun d => match d with | .int i => D.int (f * a.getD i.toNat 0 + g * b.getD i.toNat 0) | d => d) = (mixL a b f g).map .int := by
      unfold rng mixL
      rw [List.map_map, List.map_map]
      refine List.map_congr_left fun i _ => ?_
      simp
    rw [e] at hS1
    rw [w_tupL hS1]
    exact k S1 hG1
theorem mix_sm {a b : List Int} {f g : Int} (ha : ∀ x ∈ a, -(2 ^ 50) < x ∧ x < 2 ^ 50) (hb : ∀ x ∈ b, -(2 ^ 50) < x ∧ x < 2 ^ 50) (hl : b.length = a.length) (hf : -20 ≤ f ∧ f ≤ 20) (hg : -20 ≤ g ∧ g ≤ 20) : SmV (mixL a b f g) := fun x hx => by
  unfold mixL at hx
  obtain ⟨i, hi, rfl⟩ := List.mem_map.mp hx
  have hi := List.mem_range.mp hi
  have h1 := ha a[i] (List.getElem_mem hi)
  have h2 := hb b[i] (List.getElem_mem (by omega))
  have e1 : a.getD i 0 = a[i] := by rw [List.getD_eq_getElem?_getD, List.getElem?_eq_getElem hi]; rfl
  have e2 : b.getD i 0 = b[i] := by rw [List.getD_eq_getElem?_getD, List.getElem?_eq_getElem (by omega)]; rfl
  show _ < f * a.getD i 0 + g * b.getD i 0 ∧ f * a.getD i 0 + g * b.getD i 0 < _
  rw [e1, e2]
  have key : ∀ (p u : Int), -20 ≤ p ∧ p ≤ 20 → -(2 ^ 50) < u ∧ u < 2 ^ 50 → -(2 ^ 55) < p * u ∧ p * u < 2 ^ 55 := by
    intro p u hp hu
    have hab : (p * u).natAbs = p.natAbs * u.natAbs := Int.natAbs_mul p u
    have h3 : p.natAbs ≤ 20 := by omega
    have h4 : u.natAbs ≤ 2 ^ 50 := by omega
    have h5 : p.natAbs * u.natAbs ≤ 20 * 2 ^ 50 := Nat.mul_le_mul h3 h4
    omega
  have k1 := key f a[i] hf h1
  have k2 := key g b[i] hg h2
  omega
/-! ### linear -/
theorem mix_get {a b : List Int} {f g : Int} (hl : b.length = a.length) (i : Nat) : (mixL a b f g).getD i 0 = f * a.getD i 0 + g * b.getD i 0 := by
  unfold mixL
  by_cases c : i < a.length
  · simp [List.getD_eq_getElem?_getD, List.getElem?_map, List.getElem?_range c]
  · rw [List.getD_eq_getElem?_getD, List.getD_eq_getElem?_getD, List.getD_eq_getElem?_getD, List.getElem?_eq_none (by simp; omega), List.getElem?_eq_none (by omega), List.getElem?_eq_none (by omega)]
    simp
theorem vsum_mix {a b : List Int} {f g : Int} (hl : b.length = a.length) : ∀ ts : List Tm, vsum (mixL a b f g) ts = f * vsum a ts + g * vsum b ts
  | [] => by simp [vsum]
  | t :: ts => by
    have ih := vsum_mix (f := f) (g := g) hl ts
    have e : ∀ v : List Int, vsum v (t :: ts) = t.1 * v.getD t.2 0 + vsum v ts := fun v => rfl
    rw [e, e, e, ih, mix_get hl, Int.mul_add, Int.mul_add, Int.mul_add, ← Int.mul_assoc, ← Int.mul_assoc, Int.mul_comm t.1 f, Int.mul_comm t.1 g, Int.mul_assoc, Int.mul_assoc]
    omega
theorem img_mix {a b : List Int} {f g : Int} (hl : b.length = a.length) (ls : List (List Tm)) : imgL (mixL a b f g) ls = mixL (imgL a ls) (imgL b ls) f g := by
  unfold imgL
  have : ∀ l : List (List Tm), l.map (vsum (mixL a b f g)) = l.map fun ts => f * vsum a ts + g * vsum b ts := fun l => List.map_congr_left fun ts _ => vsum_mix hl ts
  rw [this]
  unfold mixL
  refine List.ext_getElem (by simp) fun i h1 h2 => ?_
  simp at h1 h2
  simp [List.getD_eq_getElem?_getD, h1]
/-! ### rows that are plain -/
theorem plain_int {n : Nat} {i : Int} {S : Store} {Q : D → Store → Prop} : wp (r_law_is_plain_row (n + 1) [.int i]) S Q ↔ Q (.bl true) S := by
  unfold r_law_is_plain_row
  have ti : ∀ {S : Store} {Q : D → Store → Prop}, wp (nIsi [.int i, .ty "tuple"]) S Q ↔ Q (.bl false) S := wp_some rfl
  unfold f_law_is_plain_row
  walk_at "w"
  rw [ti]
  walk_at "w"
  simp
theorem plain_row {n : Nat} {v : List Int} {S : Store} {Q : D → Store → Prop} (hl : v.length ≤ 1000) (k : ∀ S', Grow S S' → Q (.bl true) S') : wp (r_law_is_plain_row (n + 2) [.tup (v.map .int)]) S Q := by
  show wp (bodyM 2 (f_law_is_plain_row (r_law_is_plain_row (n + 1))) [.tup (v.map .int)]) S Q
  unfold f_law_is_plain_row
  walk_at "w"
  simp only [if_true]
  refine wp_lc (xs := v.map .int) (g := []) (S1 := S) rfl (fun j acc S3 => acc = [] ∧ S3[S.length]? = some (.lst acc) ∧ Grow S S3) ⟨rfl, get_new, Grow.refl.app⟩ (fun _ _ _ h => h.2.1) (fun _ _ _ h => gdOk_nil _) (fun j acc S3 h => by rw [h.1]; exact Nat.zero_le _) (sz_lt (by rw [List.length_map]; omega)) ?_ ?_
  · rintro i x acc S3 hx ⟨rfl, hk, hG⟩
    rw [List.getElem?_map] at hx
    obtain ⟨t, ht, rfl⟩ := Option.map_eq_some_iff.mp hx
    simp only [wipeE]
    walk_at "w"
    rw [plain_int]
    walk_at "w"
    simp only [Bool.not_true, Bool.false_eq_true, if_false]
    exact ⟨hk, hG⟩
  · rintro acc S3 ⟨rfl, hk, hG⟩
    refine ⟨by decide, ?_⟩
    have g3 : (S3 ++ [MO.lst []])[S.length]? = some (.lst []) := by rw [List.getElem?_append_left (lt_of_get hk)]; exact hk
    rw [w_eqB (p := .list []) (q := .list []) (pyS_list g3 rfl) (pyS_list get_new rfl) rfl rfl]
    exact k _ hG.app
theorem shaped_tup (l : List Int) : SeqAt.shaped (.tuple (l.map PyData.int)) = true := by
  obtain ⟨h1, h2⟩ := shaped_list (l := l.map PyData.int) fun p hp => by
    obtain ⟨i, _, rfl⟩ := List.mem_map.mp hp
    exact ⟨rfl, Nat.zero_le _⟩
  unfold SeqAt.shaped
  rw [Bool.and_eq_true]
  refine ⟨h1, decide_eq_true ?_⟩
  show PyData.depthAll _ + 1 ≤ 64
  omega
theorem w_neTI {a b : List Int} {S : Store} {Q : D → Store → Prop} : wp (neD (.tup (a.map .int)) (.tup (b.map .int))) S Q ↔ Q (.bl (!decide (a = b))) S := by
  have e : ∀ l : List Int, pyS S (.tup (l.map .int)) = some (.tuple (l.map PyData.int)) := fun l => by
    show (pys (l.map D.int)).map PyData.tuple = _
    rw [pys_ints]
    rfl
  rw [w_neB (e a) (e b) (shaped_tup a) (shaped_tup b)]
  have : PyData.eqv (.tuple (a.map PyData.int)) (.tuple (b.map PyData.int)) = decide (a = b) := eqv_ints a b
  rw [this]
end TS
set_option Elab.async false
set_option linter.all false
set_option maxRecDepth 100000
set_option maxHeartbeats 4000000
namespace TS
open PySem PySem.Spec PyProof.Rows L2
local macro_rules | `(tactic| walk_at "w") => `(tactic| simp only [w_mulX, w_mulXS, x_isiSS, x_isiIS, x_isiII, x_isiIB, x_isiTT, x_isiNS, x_isTN, x_isSN, x_isIN, x_notTN, x_notSN, x_notIN, x_revX, x_revV, x_revVT, w_ord, w_asBl, w_body, env0, w_seq, w_asg, w_sret, w_retN, w_drop, w_sIf, w_for, w_aug, w_nx, w_brk, w_cnt, w_gN, w_gTup, w_gsCons, w_gsNil, w_gSub, w_var, w_c, w_op, w_un, w_call, w_eMt, w_tup, w_lst, w_aNil, w_aCons, w_asB, w_asT, w_bAnd, w_bOr, w_bNot, w_eAnd, w_eOr, w_eNot, w_eIf, w_eSl, w_pNo, w_pSome, w_chain,
  w_add, w_addT, w_sub, w_mul, w_mod, w_fdiv, w_pow, w_lt, w_le, w_gt, w_ge, w_int, w_min, w_max, w_lenT, w_lenF, w_truB, w_isB, w_notB, w_tyS, w_slT, w_tupT, w_eqI, w_neI, w_eqBl, w_neBl, w_find, w_rg1, w_rg2, w_anyI, w_ixT, w_ixF, w_ixS, w_lenS, w_slS, w_addS, w_disp, w_kNil, w_kCons, w_yes, w_zip, w_ltS1, w_ninS, x_enum, x_geS1, w_par2, w_eLenSet, w_intB, w_notN, w_isN, w_neg,
  List.map_cons, List.map_nil, List.length_cons, List.length_nil, List.replicate, List.cons_append, List.nil_append, List.getElem?_cons_zero, List.getElem?_cons_succ, List.set_cons_zero, List.set_cons_succ, Nat.reduceAdd, Nat.reduceSub, Nat.sub_self, Nat.sub_zero,
  Option.some.injEq, exists_eq_left', D.bl.injEq, D.int.injEq, rgOf_1, rgOf2_2, and_true, true_and])
local macro_rules | `(tactic| walk_at "v") => `(tactic| simp only [w_mulX, w_mulXS, x_isiSS, x_isiIS, x_isiII, x_isiIB, x_isiTT, x_isiNS, x_isTN, x_isSN, x_isIN, x_notTN, x_notSN, x_notIN, x_revX, x_revV, x_revVT, w_ord, w_asBl, env0, w_asg, w_sret, w_retN, w_drop, w_for, w_aug, w_nx, w_brk, w_cnt, w_gN, w_gTup, w_gsCons, w_gsNil, w_gSub, w_var, w_c, w_op, w_un, w_call, w_eMt, w_tup, w_lst, w_aNil, w_aCons, w_asB, w_asT, w_bAnd, w_bOr, w_bNot, w_eAnd, w_eOr, w_eNot, w_eIf, w_eSl, w_pNo, w_pSome, w_chain,
  w_add, w_addT, w_sub, w_mul, w_mod, w_fdiv, w_pow, w_lt, w_le, w_gt, w_ge, w_int, w_min, w_max, w_lenT, w_lenF, w_truB, w_isB, w_notB, w_tyS, w_slT, w_tupT, w_eqI, w_neI, w_eqBl, w_neBl, w_find, w_rg1, w_rg2, w_anyI, w_ixT, w_ixF, w_ixS, w_lenS, w_slS, w_addS, w_disp, w_kNil, w_kCons, w_yes, w_zip, w_ltS1, w_ninS, x_enum, x_geS1, w_par2, w_eLenSet, w_intB, w_notN, w_isN, w_neg,
  List.map_cons, List.map_nil, List.length_cons, List.length_nil, List.replicate, List.cons_append, List.nil_append, List.getElem?_cons_zero, List.getElem?_cons_succ, List.set_cons_zero, List.set_cons_succ, Nat.reduceAdd, Nat.reduceSub, Nat.sub_self, Nat.sub_zero,
  Option.some.injEq, exists_eq_left', D.bl.injEq, D.int.injEq, rgOf_1, rgOf2_2, and_true, true_and])
theorem x_isiIT {i : Int} {S : Store} {Q : D → Store → Prop} : wp (nIsi [.int i, .ty "tuple"]) S Q ↔ Q (.bl false) S := wp_some rfl
theorem SmV.of50 {v : List Int} (h : ∀ x ∈ v, -(2 ^ 50) < x ∧ x < 2 ^ 50) : SmV v := fun x hx => by
  have := h x hx
  constructor <;> omega
theorem imgL_len (v : List Int) (ls : List (List Tm)) : (imgL v ls).length = ls.length := List.length_map _
theorem law_true : ∀ ns : List Int, ns.length ≤ 63 → ∃ S, m_law [.fl (ns.map .int)] [] = some (.bl true, S) := by
  intro ns hn
  suffices h : wp (m_law [.fl (ns.map .int)]) [] fun d _ => d = .bl true by
    obtain ⟨a, S, e, rfl⟩ := h
    exact ⟨S, e⟩
  unfold m_law f_law
  rw [w_body]
  refine w_seqA ?_
  walk_at "v"
  refine stream_ok hn fun row seed hrow => ?_
  have hD0 : Dr (([] : Store).length + 1) ([] : Store).length (([] : Store) ++ [MO.lst (row.map .int), .dK (drw ([] : Store).length 0 seed)]) := ⟨by decide, row, 0, seed, rfl, rfl, by omega⟩
  generalize ([] : Store).length + 1 = r at hD0 ⊢
  generalize ([] : Store).length = q at hD0 ⊢
  generalize ([] : Store) ++ [MO.lst (row.map .int), .dK (drw q 0 seed)] = S0 at hD0 ⊢
  refine w_seqA ?_
  walk_at "v"
  refine pick_ok hD0 (by decide) fun m0 S1 m1 m2 hD1 hK1 hL1 => ?_
  obtain ⟨m, rfl⟩ := int_nat m1
  have hm : m ≤ 4 := by omega
  refine w_seqA ?_
  walk_at "v"
  refine law_news_ok hD1 (by decide +kernel) (by decide +kernel) (by omega) fun rows S2 hN hD2 hK2 => ?_
  refine w_seqA ?_
  walk_at "v"
  refine law_end_ok hD2 (by decide +kernel) (by decide +kernel) (by omega) fun d S3 hd hD3 hK3 => ?_
  obtain ⟨is, hE, hEn, hEb⟩ : ∃ is, RowM m is d ∧ is.Nodup ∧ ∀ b ∈ is, 0 ≤ b ∧ b < m := by
    rcases hd with ⟨_, h⟩ | h
    · omega
    · exact h
  obtain ⟨xs, rfl, hx1, hx2, hx3⟩ := id hE
  have h81 : 3 ^ m ≤ 81 := by
    have : ∀ i, i ≤ 4 → 3 ^ i ≤ 81 := by decide
    exact this m hm
  have hrok := hN.ok hm
  obtain ⟨_, e, _, hxl, _⟩ := hE.ok hEn hEb hm
  cases e
  refine w_seqA ?_
  walk_at "v"
  refine law_power_ok (by omega) ?_
  refine members_ok hD3 (by omega) fun va S4 la sa hD4 hK4 => ?_
  refine w_seqA ?_
  walk_at "v"
  refine law_power_ok (by omega) ?_
  refine members_ok hD4 (by omega) fun vb S5 lb sb hD5 hK5 => ?_
  refine w_cut (fun env S6 => ∃ f g : Int, (-20 ≤ f ∧ f ≤ 20) ∧ (-20 ≤ g ∧ g ≤ 20) ∧ env = [some (.fl (ns.map .int)), some (.ref r), some (.int (m : Nat)), some (.tup rows), some (.tup xs), some (.tup (va.map .int)), some (.tup (vb.map .int)), some (.tup [.int f, .int g]), none, none, none, none] ∧ Dr r q S6) ?_ ?_
  · walk_at "w"
    refine pick_ok hD5 (by decide) fun u S6 u0 u1 hD6 hK6 hL6 => ?_
    walk_at "w"
    refine pick_ok hD6 (by decide) fun w S7 w0 w1 hD7 hK7 hL7 => ?_
    walk_at "w"
    exact ⟨by decide, _, _, by omega, by omega, rfl, hD7⟩
  rintro _ S6 ⟨f, g, hf, hg, rfl, hD6⟩
  have sf : smallI f = true := decide_eq_true ⟨by omega, by omega⟩
  have sg : smallI g = true := decide_eq_true ⟨by omega, by omega⟩
  refine w_seqA ?_
  walk_at "v"
  have lab : vb.length = va.length := by omega
  refine mixed_ok lab (by omega) sf sg fun S7 hG7 => ?_
  have hcs := mix_sm (f := f) (g := g) sa sb lab hf hg
  have hcl : (mixL va vb f g).length = 3 ^ m := by unfold mixL; rw [List.length_map, List.length_range, la]
  generalize hvc : mixL va vb f g = vc at hcs hcl
  have fa := fit_st hN hm la (SmV.of50 sa)
  have fb := fit_st hN hm lb (SmV.of50 sb)
  have fc := fit_st hN hm hcl hcs
  have ea := fit_nt hE hEn hEb hm la (SmV.of50 sa)
  have eb := fit_nt hE hEn hEb hm lb (SmV.of50 sb)
  have ec := fit_nt hE hEn hEb hm hcl hcs
  have hln := (st_len hrok).1
  rw [hN.1] at hln
  have hll : (stT m rows).length ≤ 1000 := by omega
  /- one vector -/
  have one : ∀ (v : List Int) (S8 : Store) (a9 a10 a11 : Option D) (QF : Fl × SEnv → Store → Prop), v.length = 3 ^ m → (∀ l ∈ stT m rows, FitT v l) → FitT v (ntOf m xs) → True := fun _ _ _ _ _ _ _ _ _ => trivial
  refine w_cut (fun env S8 => ∃ a9 a10 a11, env = [some (.fl (ns.map .int)), some (.ref r), some (.int (m : Nat)), some (.tup rows), some (.tup xs), some (.tup (va.map .int)), some (.tup (vb.map .int)), some (.tup [.int f, .int g]), some (.tup (vc.map .int)), a9, a10, a11]) ?_ ?_
  · walk_at "w"
    refine ⟨by decide, _, rfl, ?_⟩
    refine wp_loop (fun i env S8 => ∃ a9 a10 a11, env = [some (.fl (ns.map .int)), some (.ref r), some (.int (m : Nat)), some (.tup rows), some (.tup xs), some (.tup (va.map .int)), some (.tup (vb.map .int)), some (.tup [.int f, .int g]), some (.tup (vc.map .int)), a9, a10, a11]) (fun _ _ _ _ => gdOk_nil _) ?_ ?_ ⟨_, _, _, rfl⟩
    · rintro i x env S8 hi ⟨a9, a10, a11, rfl⟩
      have hi' : ([D.tup (va.map .int), .tup (vb.map .int), .tup (vc.map .int)] : List D)[i]? = some x := hi
      obtain ⟨v, rfl, lv, fv, ev⟩ : ∃ v : List Int, x = .tup (v.map .int) ∧ v.length = 3 ^ m ∧ (∀ l ∈ stT m rows, FitT v l) ∧ FitT v (ntOf m xs) := by
        have := List.mem_of_getElem? hi'
        simp only [List.mem_cons, List.not_mem_nil, or_false] at this
        rcases this with rfl | rfl | rfl
        · exact ⟨va, rfl, la, fa, ea⟩
        · exact ⟨vb, rfl, lb, fb, eb⟩
        · exact ⟨vc, rfl, hcl, fc, ec⟩
      walk_at "w"
      refine step_vector_ok hrok hN.1 hm hll fv fun S9 hG9 => ?_
      refine end_number_ok hx1 (by omega) lv hm ev fun S10 hG10 => ?_
      walk_at "w"
      rw [if_neg (by simp)]
      refine plain_row (n := 18) (by rw [imgL_len]; exact hll) fun S11 hG11 => ?_
      walk_at "w"
      rw [if_neg (by simp)]
      refine law_image_ok hrok hN.1 hm fv fun S12 hG12 => ?_
      rw [w_neTI]
      refine ⟨_, rfl, ?_⟩
      rw [if_neg (by simp)]
      show wp (r_law_is_plain_row 20 _) S12 _
      rw [plain_int]
      walk_at "w"
      rw [if_neg (by simp), x_isiIT]
      walk_at "w"
      rw [if_neg (by simp)]
      refine law_takes_ok hx1 (by omega) (by omega) fun L S13 cds hG13 hL13 hRT13 _ _ => ?_
      obtain ⟨c0, c1, c2, rfl, hc⟩ : ∃ c0 c1 c2, cds = [.ref c0, .ref c1, .ref c2] ∧ S13[c2]? = some (.lst ((ntOf m xs).map tD)) := by
        have h3 : cds.length = 3 := hRT13.length
        match cds, h3 with
        | [a, b, c], _ =>
          obtain ⟨r0, l0, ls0, rfl, e0, _, h0⟩ := RT.cases hRT13
          cases e0
          obtain ⟨r1, l1, ls1, rfl, e1, _, h1⟩ := RT.cases h0
          cases e1
          obtain ⟨r2, l2, ls2, rfl, e2, g2, _⟩ := RT.cases h1
          cases e2
          exact ⟨r0, r1, r2, rfl, g2⟩
      rw [w_ixL hL13]
      refine ⟨_, rfl, ?_⟩
      refine law_sum_ok hc ev fun S14 hG14 => ?_
      rw [w_neI]
      refine ⟨_, rfl, ?_⟩
      rw [if_neg (by simp)]
      exact ⟨_, _, _, rfl⟩
    · rintro env S8 ⟨a9, a10, a11, rfl⟩
      exact ⟨rfl, _, _, _, rfl⟩
  rintro _ S8 ⟨a9, a10, a11, rfl⟩
  walk_at "w"
  refine step_vector_ok hrok hN.1 hm hll fc fun S9 hG9 => ?_
  refine step_vector_ok hrok hN.1 hm hll fa fun S10 hG10 => ?_
  refine step_vector_ok hrok hN.1 hm hll fb fun S11 hG11 => ?_
  refine mixed_ok (by rw [imgL_len, imgL_len]) (by rw [imgL_len]; exact hll) sf sg fun S12 hG12 => ?_
  rw [w_neTI, ← hvc, img_mix lab]
  refine ⟨_, rfl, ?_⟩
  rw [if_neg (by simp)]
  rw [hvc]
  refine end_number_ok hx1 (by omega) hcl hm ec fun S13 hG13 => ?_
  refine ⟨_, rfl, ?_⟩
  refine end_number_ok hx1 (by omega) la hm ea fun S14 hG14 => ?_
  rw [w_mulX]
  refine ⟨.inl sf, _, rfl, ?_⟩
  refine end_number_ok hx1 (by omega) lb hm eb fun S15 hG15 => ?_
  rw [w_mulX]
  refine ⟨.inl sg, ?_⟩
  rw [w_add, w_eqI, ← hvc, vsum_mix lab]
  simp
end TS
open PySem PySem.W PyProof.Rows
set_option Elab.async false
set_option maxRecDepth 100000 in
set_option maxHeartbeats 0 in
theorem PySem.Challenge.cw_threescribes_k62_steps_of_any_integers_holds : PySem.Challenge.rw_threescribes_k62_steps_of_any_integers.Holds := by
  w_on; o_law; k_head; (case hw => w_witness2)
  k_fill
  refine L2.walk_of (l := PySem.Challenge.rw_threescribes_k62_steps_of_any_integers) (n := 63) (k := 21) (x := "script") (CX := fun _ => L2.CX0) (sp := fun w => TS.spOf _ 1 TS.m_law) rfl (by decide) rfl ⟨rfl, by decide, by decide⟩ (fun w h Y => PySem.W.kIn_of Y) ?F (fun w H a ns hl hO hS => TS.law_end hl hO hS TS.law_true) (fun _ _ _ _ _ h => h)
  case F =>
    intro w mg fa h KX G hmg
    refine' TS.all_ok KX G hmg ?a0 ?l0 ?c0 ?k0 ?a1 ?l1 ?c1 ?k1 ?a2 ?l2 ?c2 ?k2 ?a3 ?l3 ?c3 ?k3 ?a4 ?l4 ?c4 ?k4 ?a5 ?l5 ?c5 ?k5 ?a6 ?l6 ?c6 ?k6 ?a7 ?l7 ?c7 ?k7 ?a8 ?l8 ?c8 ?k8 ?a9 ?l9 ?c9 ?k9 ?a10 ?l10 ?c10 ?k10 ?a11 ?l11 ?c11 ?k11 ?a12 ?l12 ?c12 ?k12 ?a13 ?l13 ?c13 ?k13 ?a14 ?l14 ?c14 ?k14 ?a15 ?l15 ?c15 ?k15 ?a16 ?l16 ?c16 ?k16 ?a17 ?l17 ?c17 ?k17 ?a18 ?l18 ?c18 ?k18 ?a19 ?l19 ?c19 ?k19 ?a20 ?l20 ?c20 ?k20 ?a21 ?l21 ?c21 ?k21 ?a22 ?l22 ?c22 ?k22 ?a23 ?l23 ?c23 ?k23 ?a24 ?l24 ?c24 ?k24 ?a25 ?l25 ?c25 ?k25 ?a26 ?l26 ?c26 ?k26 ?z0 ?z1 ?z2 ?z3 ?z4 ?z5 ?z6 ?z7 ?z8 ?z9 ?y0
    (case a0 => k_is); (case l0 => k_is); (case c0 => k_is); (case k0 => k_is); (case a1 => k_is); (case l1 => k_is); (case c1 => k_is); (case k1 => k_is); (case a2 => k_is); (case l2 => k_is); (case c2 => k_is); (case k2 => k_is); (case a3 => k_is); (case l3 => k_is); (case c3 => k_is); (case k3 => k_is); (case a4 => k_is); (case l4 => k_is); (case c4 => k_is); (case k4 => k_is); (case a5 => k_is); (case l5 => k_is); (case c5 => k_is); (case k5 => k_is); (case a6 => k_is); (case l6 => k_is); (case c6 => k_is); (case k6 => k_is); (case a7 => k_is); (case l7 => k_is); (case c7 => k_is); (case k7 => k_is); (case a8 => k_is); (case l8 => k_is); (case c8 => k_is); (case k8 => k_is); (case a9 => k_is); (case l9 => k_is); (case c9 => k_is); (case k9 => k_is); (case a10 => k_is); (case l10 => k_is); (case c10 => k_is); (case k10 => k_is); (case a11 => k_is); (case l11 => k_is); (case c11 => k_is); (case k11 => k_is); (case a12 => k_is); (case l12 => k_is); (case c12 => k_is); (case k12 => k_is); (case a13 => k_is); (case l13 => k_is); (case c13 => k_is); (case k13 => k_is); (case a14 => k_is); (case l14 => k_is); (case c14 => k_is); (case k14 => k_is); (case a15 => k_is); (case l15 => k_is); (case c15 => k_is); (case k15 => k_is); (case a16 => k_is); (case l16 => k_is); (case c16 => k_is); (case k16 => k_is); (case a17 => k_is); (case l17 => k_is); (case c17 => k_is); (case k17 => k_is); (case a18 => k_is); (case l18 => k_is); (case c18 => k_is); (case k18 => k_is); (case a19 => k_is); (case l19 => k_is); (case c19 => k_is); (case k19 => k_is); (case a20 => k_is); (case l20 => k_is); (case c20 => k_is); (case k20 => k_is); (case a21 => k_is); (case l21 => k_is); (case c21 => k_is); (case k21 => k_is); (case a22 => k_is); (case l22 => k_is); (case c22 => k_is); (case k22 => k_is); (case a23 => k_is); (case l23 => k_is); (case c23 => k_is); (case k23 => k_is); (case a24 => k_is); (case l24 => k_is); (case c24 => k_is); (case k24 => k_is); (case a25 => k_is); (case l25 => k_is); (case c25 => k_is); (case k25 => k_is); (case a26 => k_is); (case l26 => k_is); (case c26 => k_is); (case k26 => k_is); (case z0 => k_is); (case z1 => k_is); (case z2 => k_is); (case z3 => k_is); (case z4 => k_is); (case z5 => k_is); (case z6 => k_is); (case z7 => k_is); (case z8 => k_is); (case z9 => k_is); (case y0 => exact ⟨_, by k_is⟩)
